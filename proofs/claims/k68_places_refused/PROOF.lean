import PyProof.Rows.All
import Wide.All
import OpenK.AllK
import Wide.FinOn
import Lean
import PyProof.EqAt
import PyProof.EqKinds
import PyProof.TupleCall
import PySem.Challenge.RW_quartersheet_k68_places_refused
set_option Elab.async false
set_option linter.all false
set_option maxRecDepth 100000
set_option maxHeartbeats 4000000
noncomputable section
section
open PySem PySem.Spec PyProof.Rows
abbrev Gw:=@wpAny_bind
abbrev Gx:=@Heap.get?_push_of_some
abbrev Gy:=@List.length_map
abbrev Gz:=@List.getElem?_eq_some_iff
abbrev GA:=@Bool.false_eq_true
abbrev GB:=@Nat.le_refl
abbrev GC:=@List.mem_map
abbrev GD:=@Array.getElem?_eq_getElem
abbrev GE:=@List.length_append
abbrev GF:=@Nat.zero_le
abbrev GG:=@List.mem_cons_of_mem
abbrev GH:=@decide_eq_true
abbrev GI:=@List.mem_singleton
abbrev GJ:=@Heap.lt_size
abbrev GK:=@Nat.lt_of_lt_of_le
abbrev GM:=@Bool.false_ne_true
abbrev GN:=@wpAny_pure
abbrev GO:=@List.mem_cons_self
abbrev GP:=@wpS_bind
abbrev GQ:=@Heap.get?_push_size
abbrev GR:=@List.size_toArray
abbrev GS:=@List.mem_append
abbrev GT:=@List.append_assoc
abbrev GU:=@List.mem_cons
abbrev GV:=@List.take_of_length_le
abbrev GW:=@List.mem_of_getElem?
abbrev GX:=@List.map_cons
abbrev GY:=@wpS_pure
abbrev GZ:=@List.mem_append_right
abbrev G0:=@List.getElem?_eq_getElem
abbrev G2:=@List.length_cons
abbrev G3:=@Nat.ne_of_lt
abbrev G4:=@Heap.get?_update_other
abbrev G5:=@Array.length_toList
abbrev G6:=@of_decide_eq_true
abbrev G7:=@List.map_append
abbrev G8:=@Nat.le_trans
abbrev G9:=@Option.isSome_iff_exists
abbrev G_:=@List.take_add_one
abbrev Ha:=@List.getElem?_map
abbrev Hb:=@decide_eq_false
abbrev Hc:=@List.map_congr_left
abbrev Hd:=@PassesOwn.never
abbrev He:=@Option.map_eq_some_iff
abbrev Hf:=@List.getElem?_append_left
abbrev Hg:=@List.pairwise_map
abbrev Hh:=@List.pairwise_append
abbrev Hi:=@List.take_append_drop
abbrev Hj:=@List.map_map
abbrev Hk:=@List.mem_map_of_mem
abbrev Hl:=@List.eq_nil_of_length_eq_zero
abbrev Hm:=@List.getElem?_append_right
abbrev Hn:=@congrArg
abbrev Ho:=@wpAny_mono
abbrev Hq:=@List.mem_filter
abbrev Hr:=@Array.toList_append
abbrev Hs:=@Array.getD_eq_getD_getElem?
abbrev Ht:=@List.length_take
abbrev Hu:=@List.length_singleton
abbrev Hv:=@List.mem_append_left
abbrev Hw:=@List.append_nil
abbrev Hx:=@PassesOwn.leaving
abbrev Hy:=@Option.isSome_map
abbrev Hz:=@List.getElem?_eq_none_iff
abbrev HA:=@List.drop_eq_getElem_cons
abbrev HB:=@Nat.add_mul
abbrev HC:=@List.mem_iff_getElem?
abbrev HD:=@Array.getElem?_toList
abbrev HE:=@Bool.and_eq_true
abbrev HF:=@decide_eq_true_iff
abbrev HG:=@Nat.two_pow_pos
abbrev HH:=@List.pairwise_iff_getElem
abbrev HJ:=@List.nil_append
abbrev HK:=@Nat.pow_succ
abbrev HL:=@Int.toNat_natCast
abbrev HM:=@List.lt_irrefl
abbrev HN:=@List.nodup_cons
abbrev HP:=@List.filter_cons_of_neg
abbrev HQ:=@Bool.eq_iff_iff
abbrev HR:=@List.mem_of_mem_take
abbrev HS:=@List.getElem?_of_mem
abbrev HU:=@Nat.le_of_lt
abbrev HV:=@Array.perm_iff_toList_perm
abbrev HW:=@Array.getElem?_eq_some_iff
abbrev HX:=@List.find?_cons
abbrev HY:=@List.pairwise_cons
abbrev HZ:=@Nat.mul_assoc
abbrev H_:=@Nat.lt_irrefl
abbrev Ia:=@List.sum_cons
abbrev Ib:=@List.flatMap_append
abbrev Ic:=@Int.le_refl
abbrev Ie:=@Nat.le_of_not_lt
abbrev Ig:=@List.take_length
abbrev Ih:=@List.length_drop
abbrev Ii:=@Nat.zero_add
abbrev Ij:=@Nat.ne_of_gt
abbrev Ik:=@List.length_filter_le
abbrev Il:=@Nat.pow_add
abbrev Im:=@List.extract_eq_take_drop
abbrev Io:=@Array.getElem_toList
abbrev Ip:=@List.range_succ
abbrev Iq:=@List.nodup_append
abbrev Ir:=@List.flatten_cons
abbrev Iu:=@Int.natCast_mul
abbrev Iv:=@Bool.eq_false_iff
abbrev Iw:=@List.replicate_succ
abbrev Ix:=@List.getElem?_replicate
abbrev Iy:=@List.filter_cons_of_pos
abbrev Iz:=@List.lookup_cons
abbrev IA:=@List.drop_of_length_le
abbrev IB:=@List.filter_append
abbrev IC:=@List.perm_append_comm
abbrev ID:=@List.of_mem_zip
abbrev IE:=@List.length_replicate
abbrev IF:=@List.forIn_cons
abbrev IG:=@Int.emod_nonneg
abbrev IH:=@Heap.get?_update_self
abbrev II:=@List.foldl_append
abbrev IJ:=@Array.toList_extract
abbrev IK:=@List.mem_of_find?_eq_some
abbrev IL:=@Array.toList_inj
abbrev IM:=@List.flatten_append
abbrev IN:=@List.filterMap_cons
abbrev IP:=@Nat.lt_trans
abbrev IQ:=@Option.map_some
abbrev IR:=@Nat.lt_of_le_of_lt
abbrev IS:=@List.pairwise_singleton
abbrev IT:=@List.foldl_cons
abbrev IU:=@List.any_cons
abbrev IV:=@Int.natCast_add
abbrev IW:=@Int.emod_lt_of_pos
abbrev IX:=@List.length_pos_of_mem
abbrev IY:=@Array.getElem?_eq_none
abbrev IZ:=@List.take_sublist
abbrev I0:=@List.length_range
abbrev I8:=@List.find?_isSome
abbrev I9:=@List.ext_getElem?
abbrev I_:=@Array.getElem?_setIfInBounds_ne
abbrev Ja:=@Nat.mul_le_mul
abbrev Jb:=@List.mem_range
abbrev Jc:=@List.drop_take
abbrev Jd:=@Nat.mul_comm
abbrev Je:=@Nat.lt_or_ge
abbrev Jf:=@Int.zero_add
abbrev Jg:=@Nat.lt_succ_self
abbrev Jh:=@Nat.le_add_right
abbrev Ji:=@List.countP_cons
abbrev Jj:=@List.all_eq_true
abbrev Jk:=@Nat.mul_le_mul_right
abbrev Jl:=@List.mem_of_mem_drop
abbrev Jm:=@List.mem_erase_of_ne
abbrev Jn:=@Array.toList_reverse
abbrev Jo:=@List.all_cons
abbrev Jp:=@Array.getElem?_setIfInBounds
abbrev Jq:=@Nat.add_eq
abbrev Jr:=@Nat.not_lt_zero
abbrev Jt:=@Nat.add_lt_add_left
abbrev Ju:=@List.sum_append
abbrev Jv:=@List.map_id
abbrev Jw:=@List.getElem_of_mem
abbrev Jx:=@wpS_mono
abbrev Jy:=@of_decide_eq_false
abbrev Jz:=@List.map_nil
abbrev JA:=@List.getElem?_drop
abbrev JB:=@Array.forIn_toList
abbrev JC:=@List.getElem?_zip_eq_some
abbrev JD:=@List.drop_drop
abbrev JE:=@Nat.lt_trichotomy
abbrev JF:=@Array.toList_map
abbrev JG:=@Nat.succ_pos
abbrev JH:=@Nat.sub_zero
abbrev JI:=@Nat.sub_self
abbrev JJ:=@Nat.add_zero
abbrev JK:=@List.prefix_rfl
abbrev JL:=@List.length_nil
abbrev JM:=@List.find?_some
abbrev JN:=@Int.le_trans
abbrev JO:=@Nat.mod_lt
abbrev JP:=@List.forIn_nil
abbrev JQ:=@Nat.one_mul
end
namespace Tim
open PySem PyProof.Rows
variable {prog:Program}{A:Around}{E:Value→Shared→Prop}{s:Shared}{a₀:Array Keyed}{κ:SortKind}{key:Keyed→Int}
section
variable {w:World}
def cW (prog:Program)(w:World)(A:Around)(E:Value→Shared→Prop)(s:Shared)(a₀:Array Keyed)(κ:SortKind)(key:Keyed→Int):Prop :=
 ∀ (x y:Keyed) (C:Bool→Shared→Prop),x∈a₀.toList→y∈a₀.toList→C (decide (key x < key y)) s→wpAny (model prog w) A (keyLt' κ x.1 y.1) C (fun _ _=>False) s
structure SB (a₀:Array Keyed)(κ:SortKind)(st:SortSt):Prop where
 perm:(arrOf st).Perm a₀
 kind:kindOf st=κ
 ok:failedOf st=none
theorem SB.size {st:SortSt}(h:SB a₀ κ st):(arrOf st).size=a₀.size:=h.perm.size_eq
theorem SB.mem {st:SortSt}(h:SB a₀ κ st){x:Keyed}(hx:x∈(arrOf st).toList):x∈a₀.toList:=(HV.mp h.perm).mem_iff.mp hx
theorem SB.set {st:SortSt}(h:SB a₀ κ st){xs:Array Keyed}(hp:xs.Perm (arrOf st)):SB a₀ κ (setArr st xs):=⟨hp.trans h.perm,h.kind,h.ok⟩
def kat (key:Keyed→Int)(xs:Array Keyed)(i:Nat):Int:=match xs[i]? with
 | some p=>key p
 | none=>0
theorem fN {xs ys:Array Keyed}{i j:Nat}(h:xs[i]? = ys[j]?):kat key xs i=kat key ys j:=by unfold kat;rw[h]
theorem ao {xs:Array Keyed}{i:Nat}{p:Keyed}(h:xs[i]? = some p):kat key xs i=key p:=by unfold kat;rw[h]
def Seg (key:Keyed→Int)(xs:Array Keyed)(lo hi:Nat):Prop:=∀ i j,lo≤i→i≤j→j < hi→kat key xs i≤kat key xs j
theorem ug (L:cW prog w A E s a₀ κ key){x y:Keyed}{st:SortSt}{Q:Option Bool→SortSt→Prop}(hk:kindOf st=κ)(hx:x∈a₀.toList)(hy:y∈a₀.toList)(h:Q (some (decide (key x < key y))) st):
  wpS (model prog w) A E s (lt' x y) Q st:=by
 rw[lt'_eq];refine GP (wpS_get ?_);rw[hk];refine GP (wpS_lift (wpAny_attempt (Ho (L x y (fun b s'=>b=decide (key x < key y)∧s'=s) hx hy ⟨rfl,rfl⟩) (fun b s' hb =>?_) fun _ _ e=>e.elim)));obtain⟨rfl,rfl⟩:=hb;exact⟨rfl,GY h⟩
theorem cJ {arr:Array Keyed}{i:Nat}{p:Keyed}{st:SortSt}{Q:Keyed→SortSt→Prop}(hi:arr[i]? = some p)(h:Q p st):wpS (model prog w) A E s (elem' arr i) Q st:=by
 rw[elem'_eq,hi];exact GY h
theorem dO {xs:Array Keyed}{i:Nat}{p:Keyed}(h:xs[i]? = some p):p∈xs.toList:=by
 have:p∈xs:=Array.mem_of_getElem? h
 exact Array.mem_toList_iff.mpr this
theorem kK (L:cW prog w A E s a₀ κ key){i j:Nat}{st:SortSt}{Q:Option Bool→SortSt→Prop}(hB:SB a₀ κ st)(hi:i < a₀.size)(hj:j < a₀.size)(h:Q (some (decide (kat key (arrOf st) i < kat key (arrOf st) j))) st):
  wpS (model prog w) A E s (ltAt' i j) Q st:=by
 rw[ltAt'_eq];refine GP (wpS_get ?_);have e1:(arrOf st)[i]? = some ((arrOf st)[i]'(by rw[hB.size];exact hi)):=GD _;have e2:(arrOf st)[j]? = some ((arrOf st)[j]'(by rw[hB.size];exact hj)):=GD _;refine GP (cJ e1 (GP (cJ e2 ?_)));refine ug L hB.kind (hB.mem (dO e1)) (hB.mem (dO e2)) ?_;rw[ao e1,ao e2]at h;exact h
def e_:Bool→Keyed→Array Keyed→Nat→Nat→Nat→StateT SortSt Sem (Option Nat):=sortPriv% PySem.Builtin.gallop
def kG (left:Bool)(x:Keyed)(u:Array Keyed)(base i:Nat):StateT SortSt Sem (Option Bool):=do
 let y ← elem' u (base + i)
 if left then lt' y x else return (← lt' x y).map (!·)
abbrev St3:=Option (Option Nat) × Nat × Nat
def uq (left:Bool)(x:Keyed)(u:Array Keyed)(base n p q:Nat):StateT SortSt Sem (Option Nat):=do
 let r ← forIn [0:n] ((none,p,q):St3) fun _ r =>
  if r.2.1 ≥ r.2.2 then pure (ForInStep.done (none,r.2.1,r.2.2)) else do
   let y ← kG left x u base (r.2.1 + (r.2.2 - r.2.1) / 2)
   match y with
   | some more=>if more=true then pure (ForInStep.yield (none,r.2.1 + (r.2.2 - r.2.1) / 2 + 1,r.2.2)) else pure (ForInStep.yield (none,r.2.1,r.2.1 + (r.2.2 - r.2.1) / 2))
   | _=>pure (ForInStep.done (some none,r.2.1,r.2.2))
 match r.1 with
 | some v=>pure v
 | none=>pure (some r.2.2)
def Bq (left:Bool)(x:Keyed)(u:Array Keyed)(base n room:Nat)(pl:Nat→Nat)(stop:Bool→Bool):StateT SortSt Sem St3 :=
 forIn [0:n] ((none,0,1):St3) fun _ r =>
  if r.2.2 ≥ room then pure (ForInStep.done (none,r.2.1,r.2.2)) else do
   let y ← kG left x u base (pl r.2.2)
   match y with
   | some more=>if stop more=true then pure (ForInStep.done (none,r.2.1,r.2.2)) else pure (ForInStep.yield (none,r.2.2,2 * r.2.2 + 1))
   | _=>pure (ForInStep.done (some none,r.2.1,r.2.2))
theorem wk (left:Bool)(x:Keyed)(u:Array Keyed)(base n hint:Nat):e_ left x u base n hint=(do
  let mut was:=0
  let mut step:=1
  let mut p:=0
  let mut q:=0
  let some right ← kG left x u base hint | return none
  if right then
   let room:=n - hint
   for _ in [0:n] do
    if step ≥ room then break
    let some more ← kG left x u base (hint + step) | return none
    if !more then break
    was:=step
    step:=2 * step + 1
   p:=hint + was + 1
   q:=hint + min step room
  else
   let room:=hint + 1
   for _ in [0:n] do
    if step ≥ room then break
    let some found ← kG left x u base (hint - step) | return none
    if found then break
    was:=step
    step:=2 * step + 1
   p:=hint + 1 - min step room
   q:=hint - was
  for _ in [0:n] do
   if p ≥ q then break
   let m:=p + (q - p) / 2
   let some more ← kG left x u base m | return none
   if more then p:=m + 1 else q:=m
  return some q):=rfl
theorem wj (left:Bool)(x:Keyed)(u:Array Keyed)(base n hint:Nat):e_ left x u base n hint=(do
  let y ← kG left x u base hint
  match y with
  | some right =>
   if right=true then do
    let r ← Bq left x u base n (n - hint) (fun k=>hint + k) (fun m => !m)
    match r.1 with
    | some v=>pure v
    | none=>uq left x u base n (hint + r.2.1 + 1) (hint + min r.2.2 (n - hint))
   else do
    let r ← Bq left x u base n (hint + 1) (fun k=>hint - k) (fun m=>m)
    match r.1 with
    | some v=>pure v
    | none=>uq left x u base n (hint + 1 - min r.2.2 (hint + 1)) (hint - r.2.1)
  | _=>pure none):=by
 rw[wk];unfold Bq uq;dsimp only
 congr 1
 funext y
 cases y with
 | none=>rfl
 | some r =>
  cases r with
  | true =>
   dsimp only;rw[if_pos rfl,if_pos rfl]
   congr 1
   funext r
   obtain⟨r1,r2,r3⟩:=r;cases r1 with
   | some v=>rfl
   | none =>
    dsimp only
    congr 1
    funext r
    obtain⟨r1,r2,r3⟩:=r;cases r1<;>rfl
  | false =>
   dsimp only;rw[if_neg (by decide),if_neg (by decide)]
   congr 1
   funext r
   obtain⟨r1,r2,r3⟩:=r;cases r1 with
   | some v=>rfl
   | none =>
    dsimp only
    congr 1
    funext r
    obtain⟨r1,r2,r3⟩:=r;cases r1<;>rfl
def aJ (key:Keyed→Int)(left:Bool)(x:Keyed)(u:Array Keyed)(base i:Nat):Bool:=if left then decide (kat key u (base + i) < key x) else !decide (key x < kat key u (base + i))
theorem gU {left:Bool}{x:Keyed}{u:Array Keyed}{base n i j:Nat}(sg:Seg key u base (base + n))(hij:j≤i)(hi:i < n)(h:aJ key left x u base i=true):aJ key left x u base j=true:=by
 have:=sg (base + j) (base + i) (by simp) (by lia) (by lia)
 unfold aJ at h ⊢;cases left with
 | true =>
  rw[if_pos rfl]at h ⊢;have h':=G6 h;exact GH (by lia)
 | false =>
  rw[if_neg (by decide)]at h ⊢;have h':¬ key x < kat key u (base + i):=by simpa using h
  have:¬ key x < kat key u (base + j):=by lia
  simpa using this
theorem rL (L:cW prog w A E s a₀ κ key){left:Bool}{x:Keyed}{u:Array Keyed}{base n i:Nat}{st:SortSt}{Q:Option Bool→SortSt→Prop}(hk:kindOf st=κ)(hx:x∈a₀.toList)(hu:∀ y∈u.toList,y∈a₀.toList)
  (hb:base + n≤u.size) (hi:i < n) (h:Q (some (aJ key left x u base i)) st):wpS (model prog w) A E s (kG left x u base i) Q st:=by
 unfold kG;have e1:u[base + i]? = some (u[base + i]'(by lia)):=GD _;refine GP (cJ e1 ?_);unfold aJ at h;rw[ao e1]at h;cases left with
 | true =>
  rw[if_pos rfl]at h ⊢;exact ug L hk (hu _ (dO e1)) hx h
 | false =>
  rw[if_neg (by decide)]at h ⊢;exact GP (ug L hk hx (hu _ (dO e1)) (GY h))
theorem xw (L:cW prog w A E s a₀ κ key){left:Bool}{x:Keyed}{u:Array Keyed}{base n p q:Nat}{st:SortSt}{Q:Option Nat→SortSt→Prop}(hk:kindOf st=κ)(hx:x∈a₀.toList)(hu:∀ y∈u.toList,y∈a₀.toList)
  (hb:base + n≤u.size) (sg:Seg key u base (base + n)) (hpq:p≤q) (hq:q≤n) (lo:∀ i,i < p→aJ key left x u base i=true) (hi:∀ i,q≤i→i < n→aJ key left x u base i=false)
  (h:∀ k,k≤n→(∀ i,i < k→aJ key left x u base i=true)→(∀ i,k≤i→i < n→aJ key left x u base i=false)→Q (some k) st):wpS (model prog w) A E s (uq left x u base n p q) Q st:=by
 unfold uq;refine GP (Jx (wpS_forRange (I:=fun t c st'=>st'=st∧∃ p q,c=(none,p,q)∧p≤q∧q≤n∧q - p≤n - t∧(∀ i,i < p→aJ key left x u base i=true)∧(∀ i,q≤i→i < n→aJ key left x u base i=false))
  (Q:=fun c st'=>st'=st∧∃ q,c=(none,q,q)∧q≤n∧(∀ i,i < q→aJ key left x u base i=true)∧(∀ i,q≤i→i < n→aJ key left x u base i=false)) ?step ?fin ⟨rfl,p,q,rfl,hpq,hq,by lia,lo,hi⟩) ?post)
 case post =>
  rintro c st' ⟨rfl,q,rfl,h1,h2,h3⟩;exact GY (h q h1 h2 h3)
 case fin =>
  rintro c st' ⟨rfl,p,q,rfl,h1,h2,h3,h4,h5⟩;have e:p=q:=by lia
  subst e;exact⟨rfl,p,rfl,h2,h4,h5⟩
 case step =>
  rintro t c st' _ ht ⟨rfl,p,q,rfl,h1,h2,h3,h4,h5⟩;dsimp only;by_cases e:p ≥ q
  ·rw[if_pos e];have e':p=q:=by lia
   subst e';exact GY ⟨rfl,p,rfl,h2,h4,h5⟩
  ·rw[if_neg e];refine GP (rL L hk hx hu hb (n:=n) (by lia) ?_);dsimp only;cases hm:aJ key left x u base (p + (q - p) / 2) with
   | true =>
    rw[if_pos rfl];exact GY ⟨rfl,_,_,rfl,by lia,h2,by lia,fun i hi=>gU sg (by lia) (by lia) hm,h5⟩
   | false =>
    rw[if_neg (by decide)];refine GY ⟨rfl,_,_,rfl,by simp,by lia,by lia,h4,fun i h6 h7 =>?_⟩;cases z:aJ key left x u base i with
    | false=>rfl
    | true=>rw[gU sg h6 h7 z]at hm;cases hm
theorem Bp (L:cW prog w A E s a₀ κ key){left:Bool}{x:Keyed}{u:Array Keyed}{base n room:Nat}{pl:Nat→Nat}{good:Bool}{stop:Bool→Bool}(hstop:∀ m,stop m=(m != good)){st:SortSt}{Q:St3→SortSt→Prop}(hk:kindOf st=κ)(hx:x∈a₀.toList)(hu:∀ y∈u.toList,y∈a₀.toList)
  (hb:base + n≤u.size) (hr:room≤n) (hpl:∀ k,k < room→pl k < n) (h0:aJ key left x u base (pl 0)=good) (hr0:0 < room)
  (h:∀ was step,was < step→was < room→aJ key left x u base (pl was)=good→(room≤step∨aJ key left x u base (pl step) = !good)→Q (none,was,step) st):wpS (model prog w) A E s (Bq left x u base n room pl stop) Q st:=by
 unfold Bq;refine wpS_forRange (I:=fun t c st'=>st'=st∧∃ was step,c=(none,was,step)∧was < step∧was < room∧t + 1≤step∧aJ key left x u base (pl was)=good) ?step ?fin ⟨rfl,0,1,rfl,by simp,hr0,by simp,h0⟩
 case fin =>
  rintro c st' ⟨rfl,was,step,rfl,h1,h2,h3,h4⟩;exact h was step h1 h2 h4 (.inl (by lia))
 case step =>
  rintro t c st' _ ht ⟨rfl,was,step,rfl,h1,h2,h3,h4⟩;dsimp only;by_cases e:step ≥ room
  ·rw[if_pos e];exact GY (h was step h1 h2 h4 (.inl e))
  ·rw[if_neg e];refine GP (rL L hk hx hu hb (hpl step (by lia)) ?_);dsimp only;by_cases hm:aJ key left x u base (pl step)=good
   ·have e2:stop (aJ key left x u base (pl step))=false:=by rw[hstop,hm];cases good<;>rfl
    rw[e2,if_neg (by decide)];exact GY ⟨rfl,step,2 * step + 1,rfl,by lia,by lia,by lia,hm⟩
   ·have hm':aJ key left x u base (pl step) = !good:=by
     cases q:aJ key left x u base (pl step)<;>cases good<;>simp_all
    have e2:stop (aJ key left x u base (pl step))=true:=by rw[hstop,hm'];cases good<;>rfl
    rw[e2,if_pos rfl];exact GY (h was step h1 h2 h4 (.inr hm'))
theorem fj (L:cW prog w A E s a₀ κ key){left:Bool}{x:Keyed}{u:Array Keyed}{base n hint:Nat}{st:SortSt}{Q:Option Nat→SortSt→Prop}(hk:kindOf st=κ)(hx:x∈a₀.toList)(hu:∀ y∈u.toList,y∈a₀.toList)
  (hb:base + n≤u.size) (hh:hint < n) (sg:Seg key u base (base + n))
  (h:∀ k,k≤n→(∀ i,i < k→aJ key left x u base i=true)→(∀ i,k≤i→i < n→aJ key left x u base i=false)→Q (some k) st):wpS (model prog w) A E s (e_ left x u base n hint) Q st:=by
 rw[wj];have dn:∀ i,i < n→aJ key left x u base i=false→∀ j,i≤j→j < n→aJ key left x u base j=false:=fun i hi e j hj hjn=>by
  cases q:aJ key left x u base j with
  | false=>rfl
  | true=>rw[gU sg hj hjn q]at e;cases e
 refine GP (rL L hk hx hu hb hh ?_);dsimp only;cases hp:aJ key left x u base hint with
 | true =>
  rw[if_pos rfl];refine GP (Bp L (by intro m;cases m<;>rfl) hk hx hu hb (by simp) (fun k hk=>by lia) hp (by lia) fun was step h1 h2 h3 h4 =>?_);dsimp only;refine xw L hk hx hu hb sg (by lia) (by lia) (fun i hi=>gU sg (by lia) (by lia) h3) (fun i h5 h6 =>?_) h;rcases h4 with h4 | h4
  ·lia
  ·by_cases h7:n - hint≤step
   ·lia
   ·exact dn (hint + step) (by lia) h4 i (by lia) h6
 | false =>
  rw[if_neg (by decide)];refine GP (Bp L (by intro m;cases m<;>rfl) hk hx hu hb (by assumption) (fun k hk=>by lia) hp (by simp) fun was step h1 h2 h3 h4 =>?_);dsimp only;refine xw L hk hx hu hb sg (by omega) (by lia) (fun i hi =>?_) (fun i h5 h6=>dn (hint - was) (by lia) h3 i h5 h6) h;rcases h4 with h4 | h4
  ·lia
  ·by_cases h7:hint + 1≤step
   ·lia
   ·exact gU sg (by lia) (by lia) h4
end
end Tim
set_option maxHeartbeats 4000000
namespace Tim
open PySem PyProof.Rows
variable {prog:Program}{A:Around}{E:Value→Shared→Prop}{s:Shared}{a₀:Array Keyed}{κ:SortKind}{key:Keyed→Int}
section
variable {w:World}
def loP:Array Keyed→Array Keyed→StateT SortSt Sem (Array Keyed):=sortPriv% PySem.Builtin.mergeLo
abbrev aO (st:SortSt)(g:Nat):SortSt:=SortSt.mk' (kindOf st) (arrOf st) (pendingOf st) g (failedOf st)
abbrev St7:=Option (Array Keyed) × Array Keyed × Nat × Nat × Nat × Nat × Nat
abbrev St6:=Option (Array Keyed) × Array Keyed × Nat × Nat × Nat × Nat
abbrev St5:=Option (Array Keyed) × Array Keyed × Nat × Nat × Nat
def pD (u v o:Array Keyed)(i j:Nat):Array Keyed:=o++u.extract i u.size++v.extract j v.size
def wm (u v o:Array Keyed)(i j:Nat):Array Keyed:=o++v.extract j v.size++u.extract i u.size
def rM (u v:Array Keyed)(g:Nat)(r:St6):StateT SortSt Sem (ForInStep St6):=do
 let y ← elem' v r.2.2.2.1
 let x ← elem' u r.2.2.1
 let z ← lt' y x
 match z with
 | some won =>
  if won=true then do
   let y ← elem' v r.2.2.2.1
   if (r.2.2.2.1 + 1 == v.size)=true then pure (.done (some (pD u v (r.2.1.push y) r.2.2.1 (r.2.2.2.1 + 1)),r.2.1.push y,r.2.2.1,r.2.2.2.1 + 1,0,r.2.2.2.2.2 + 1))
   else if r.2.2.2.2.2 + 1 ≥ g then pure (.done (none,r.2.1.push y,r.2.2.1,r.2.2.2.1 + 1,0,r.2.2.2.2.2 + 1))
   else pure (.yield (none,r.2.1.push y,r.2.2.1,r.2.2.2.1 + 1,0,r.2.2.2.2.2 + 1))
  else do
   let x ← elem' u r.2.2.1
   if (r.2.2.1 + 1 + 1 == u.size)=true then pure (.done (some (wm u v (r.2.1.push x) (r.2.2.1 + 1) r.2.2.2.1),r.2.1.push x,r.2.2.1 + 1,r.2.2.2.1,r.2.2.2.2.1 + 1,0))
   else if r.2.2.2.2.1 + 1 ≥ g then pure (.done (none,r.2.1.push x,r.2.2.1 + 1,r.2.2.2.1,r.2.2.2.2.1 + 1,0))
   else pure (.yield (none,r.2.1.push x,r.2.2.1 + 1,r.2.2.2.1,r.2.2.2.2.1 + 1,0))
 | _=>pure (.done (some (pD u v r.2.1 r.2.2.1 r.2.2.2.1),r.2.1,r.2.2.1,r.2.2.2.1,r.2.2.2.2.1,r.2.2.2.2.2))
def sr (u v o:Array Keyed)(i j g ca cb:Nat):StateT SortSt Sem (ForInStep St7):=do
 let x ← elem' u i
 if (i + 1 + 1 == u.size)=true then pure (.done (some (wm u v (o.push x) (i + 1) j),o.push x,i + 1,j,g,ca,cb))
 else if (decide (ca < 7) && decide (cb < 7))=true then pure (.done (none,o.push x,i + 1,j,g,ca,cb))
 else pure (.yield (none,o.push x,i + 1,j,g,ca,cb))
def so (u v o:Array Keyed)(i j g ca cb:Nat):StateT SortSt Sem (ForInStep St7):=do
 let y ← elem' v j
 if (j + 1 == v.size)=true then pure (.done (some (pD u v (o.push y) i (j + 1)),o.push y,i,j + 1,g,ca,cb)) else do
  let x ← elem' u i
  let z ← e_ true x v (j + 1) (v.size - (j + 1)) 0
  match z with
  | some k =>
   if k > 0 then
    if (j + 1 + k == v.size)=true then pure (.done (some (pD u v (o.push y++v.extract (j + 1) (j + 1 + k)) i (j + 1 + k)),o.push y++v.extract (j + 1) (j + 1 + k),i,j + 1 + k,g,ca,k))
    else sr u v (o.push y++v.extract (j + 1) (j + 1 + k)) i (j + 1 + k) g ca k
   else sr u v (o.push y) i (j + 1) g ca k
  | _=>pure (.done (some (pD u v (o.push y) i (j + 1)),o.push y,i,j + 1,g,ca,cb))
def sj (u v o:Array Keyed)(i j g ca cb:Nat):StateT SortSt Sem (ForInStep St7):=do
 modify fun st=>aO st g
 let y ← elem' v j
 let z ← e_ false y u i (u.size - i) 0
 match z with
 | some k =>
  if k > 0 then
   if (i + k + 1 == u.size)=true then pure (.done (some (wm u v (o++u.extract i (i + k)) (i + k) j),o++u.extract i (i + k),i + k,j,g,k,cb))
   else if (i + k == u.size)=true then pure (.done (some (pD u v (o++u.extract i (i + k)) (i + k) j),o++u.extract i (i + k),i + k,j,g,k,cb))
   else so u v (o++u.extract i (i + k)) (i + k) j g k cb
  else so u v o i j g k cb
 | _=>pure (.done (some (pD u v o i j),o,i,j,g,ca,cb))
def sk (u v:Array Keyed)(r:St7):StateT SortSt Sem (ForInStep St7) :=
 if r.2.2.2.2.1 > 1 then sj u v r.2.1 r.2.2.1 r.2.2.2.1 (r.2.2.2.2.1 - 1) r.2.2.2.2.2.1 r.2.2.2.2.2.2 else sj u v r.2.1 r.2.2.1 r.2.2.2.1 r.2.2.2.2.1 r.2.2.2.2.2.1 r.2.2.2.2.2.2
def lP (u v:Array Keyed)(r:St5):StateT SortSt Sem (ForInStep St5):=do
 let q ← forIn [0:u.size + v.size] ((none,r.2.1,r.2.2.1,r.2.2.2.1,0,0):St6) fun _ q=>rM u v r.2.2.2.2 q
 match q.1 with
 | some z=>pure (.done (some z,q.2.1,q.2.2.1,q.2.2.2.1,r.2.2.2.2))
 | none=>do
  liftM (rule "list.sort.gallop")
  let p ← forIn [0:u.size + v.size] ((none,q.2.1,q.2.2.1,q.2.2.2.1,r.2.2.2.2 + 1,q.2.2.2.2.1,q.2.2.2.2.2):St7) fun _ p=>sk u v p
  match p.1 with
  | some z=>pure (.done (some z,p.2.1,p.2.2.1,p.2.2.2.1,p.2.2.2.2.1))
  | none=>do
   modify fun st=>aO st (p.2.2.2.2.1 + 1)
   pure (.yield (none,p.2.1,p.2.2.1,p.2.2.2.1,p.2.2.2.2.1 + 1))
theorem Eg (u v:Array Keyed):loP u v=(do
  liftM (rule "list.sort.merge-lo")
  let y ← elem' v 0
  if (1 == v.size)=true then pure (pD u v #[y] 0 1) else
   if (0 + 1 == u.size)=true then pure (wm u v #[y] 0 1) else do
    let st ← get
    let r ← forIn [0:u.size + v.size] ((none,#[y],0,1,gallopOf st):St5) fun _ r=>lP u v r
    match r.1 with
    | some z=>pure z
    | none=>liftM (unsupported "internal:list.sort.merge-bound" : Sem (Array Keyed))):=by
 kernel_rfl
abbrev Srt (key:Keyed→Int)(l:List Keyed):Prop:=l.Pairwise fun x y=>key x≤key y
theorem kq {u:Array Keyed}:Srt key u.toList↔Seg key u 0 u.size:=by
 constructor
 ·intro h i j _ hij hj;by_cases e:i=j
  ·subst e;exact Ic _
  have e1:u[i]? = some (u.toList[i]'(by simp;lia)):=by simp
  have e2:u[j]? = some (u.toList[j]'(by simp;omega)):=by simp
  rw[ao e1,ao e2];exact HH.mp h i j (by simp;lia) (by simp;omega) (by lia)
 ·intro h;refine HH.mpr fun i j hi hj hij =>?_;have hi':i < u.size:=by simpa using hi
  have hj':j < u.size:=by simpa using hj
  have e1:u[i]? = some (u.toList[i]):=by simp
  have e2:u[j]? = some (u.toList[j]):=by simp
  have:=h i j (GF _) (by lia) hj'
  rw[ao e1,ao e2]at this;exact this
theorem rg {o m r:List Keyed}(h1:Srt key (o++m))(h2:Srt key (o++r))(h3:∀ x∈m,∀ y∈r,key x≤key y):Srt key (o++m++r):=by
 unfold Srt at h1 h2 ⊢;rw[Hh]at h1 h2 ⊢;refine⟨Hh.mpr h1,h2.2.1,fun x hx y hy =>?_⟩;rcases GS.mp hx with hx | hx
 ·exact h2.2.2 x hx y hy
 ·exact h3 x hx y hy
def Res (key:Keyed→Int)(u v z:Array Keyed):Prop:=z.toList.Perm (u.toList++v.toList)∧Srt key z.toList
structure MI (key:Keyed→Int)(u v o:Array Keyed)(i j:Nat):Prop where
 perm:(o.toList++(u.toList.drop i++v.toList.drop j)).Perm (u.toList++v.toList)
 sa:Srt key (o.toList++u.toList.drop i)
 sb:Srt key (o.toList++v.toList.drop j)
 hi:i≤u.size
 hj:j≤v.size
theorem MI.len {u v o:Array Keyed}{i j:Nat}(h:MI key u v o i j):o.size=i + j:=by
 have:=h.perm.length_eq
 have h1:=h.hi;have h2:=h.hj;simp only[GE,Ih,G5]at this
 lia
theorem MI.takeA {u v o o':Array Keyed}{i j k:Nat}(h:MI key u v o i j)(ho:o'.toList=o.toList++(u.toList.drop i).take k)(hk:i + k≤u.size)(hl:∀ x∈(u.toList.drop i).take k,∀ y∈v.toList.drop j,key x≤key y):MI key u v o' (i + k) j:=by
 have e:(u.toList.drop i).take k++u.toList.drop (i + k)=u.toList.drop i:=by rw[← JD];exact Hi _ _
 refine⟨?_,?_,?_,hk,h.hj⟩
 ·rw[ho]
  have:o.toList++(u.toList.drop i).take k++(u.toList.drop (i + k)++v.toList.drop j)=o.toList++(u.toList.drop i++v.toList.drop j):=by
   rw[GT,← GT ((u.toList.drop i).take k),e]
  rw[this];exact h.perm
 ·rw[ho,GT,e];exact h.sa
 ·rw[ho];have h1:Srt key (o.toList++(u.toList.drop i).take k):=by
   have:=h.sa
   rw[← e,← GT]at this;exact (Hh.mp this).1
  exact rg h1 h.sb hl
theorem yx (o T U D W:List Keyed)(e:T++D=W):(o++T++(U++D)).Perm (o++(U++W)):=by
 rw[← e,GT];refine List.Perm.append_left _ ?_;rw[← GT,← GT];exact List.Perm.append_right _ IC
theorem MI.takeB {u v o o':Array Keyed}{i j k:Nat}(h:MI key u v o i j)(ho:o'.toList=o.toList++(v.toList.drop j).take k)(hk:j + k≤v.size)(hl:∀ x∈(v.toList.drop j).take k,∀ y∈u.toList.drop i,key x≤key y):MI key u v o' i (j + k):=by
 have e:(v.toList.drop j).take k++v.toList.drop (j + k)=v.toList.drop j:=by rw[← JD];exact Hi _ _
 refine⟨?_,?_,?_,h.hi,hk⟩
 ·rw[ho];exact (yx _ _ _ _ _ e).trans h.perm
 ·rw[ho];have h1:Srt key (o.toList++(v.toList.drop j).take k):=by
   have:=h.sb
   rw[← e,← GT]at this;exact (Hh.mp this).1
  exact rg h1 h.sa hl
 ·rw[ho,GT,e];exact h.sb
theorem nR (u:Array Keyed)(i:Nat):(u.extract i u.size).toList=u.toList.drop i:=by
 rw[IJ,Im,GV (by simp)]
theorem C6 (u:Array Keyed)(i k:Nat):(u.extract i (i + k)).toList=(u.toList.drop i).take k:=by
 rw[IJ,Im]
 congr 1
 simp
theorem kO {u v o:Array Keyed}{i j:Nat}(h:MI key u v o i j)(he:i=u.size∨j=v.size):Res key u v (pD u v o i j):=by
 have e:(pD u v o i j).toList=o.toList++u.toList.drop i++v.toList.drop j:=by
  unfold pD;rw[Hr,Hr,nR,nR]
 refine⟨by rw[e,GT];exact h.perm,?_⟩;rw[e];rcases he with he | he
 ·rw[he,IA (by simp),Hw];exact h.sb
 ·rw[he,IA (l:=v.toList) (by simp),Hw];exact h.sa
theorem nO {u v o:Array Keyed}{i j:Nat}(h:MI key u v o i j)(hl:∀ x∈v.toList.drop j,∀ y∈u.toList.drop i,key x≤key y):Res key u v (wm u v o i j):=by
 have e:(wm u v o i j).toList=o.toList++v.toList.drop j++u.toList.drop i:=by
  unfold wm;rw[Hr,Hr,nR,nR]
 refine⟨?_,?_⟩
 ·rw[e,GT];exact (List.Perm.append_left _ IC).trans h.perm
 ·rw[e];exact rg h.sb h.sa hl
end
section
variable {w:World}
structure Pre (a₀:Array Keyed)(key:Keyed→Int)(u v:Array Keyed):Prop where
 mu:∀ y∈u.toList,y∈a₀.toList
 mv:∀ y∈v.toList,y∈a₀.toList
 su:Seg key u 0 u.size
 sv:Seg key v 0 v.size
 hu:1≤u.size
 hv:1≤v.size
 first:kat key v 0 < kat key u 0
 last:kat key v (v.size - 1) < kat key u (u.size - 1)
theorem eZ {u:Array Keyed}{i:Nat}{y:Keyed}(h:y∈u.toList.drop i):∃ t,i≤t∧t < u.size∧u[t]? = some y:=by
 obtain⟨t,ht,e⟩:=Jw h;rw[Ih,G5]at ht;rw[List.getElem_drop]at e;refine⟨i + t,by simp,by lia,?_⟩;rw[← e,Io];exact GD _
theorem fY {u:Array Keyed}{i k:Nat}{y:Keyed}(h:y∈(u.toList.drop i).take k):∃ t,i≤t∧t < i + k∧t < u.size∧u[t]? = some y:=by
 obtain⟨t,ht,e⟩:=Jw h;rw[Ht,Ih,G5]at ht;rw[List.getElem_take,List.getElem_drop]at e;refine⟨i + t,by simp,by lia,by lia,?_⟩;rw[← e,Io];exact GD _
theorem Pre.lastA {u v:Array Keyed}{i j:Nat}(P:Pre a₀ key u v)(hi:i + 1=u.size):∀ x∈v.toList.drop j,∀ y∈u.toList.drop i,key x≤key y:=fun x hx y hy=>by
 obtain⟨t,h1,h2,h3⟩:=eZ hx;obtain⟨r,g1,g2,g3⟩:=eZ hy;have e:r=u.size - 1:=by lia
 rw[e]at g3;rw[← ao (key:=key) h3,← ao (key:=key) g3]
 have:=P.sv t (v.size - 1) (GF _) (by lia) (by lia)
 have:=P.last
 lia
theorem gR (o:Array Keyed)(u:Array Keyed){i:Nat}{x:Keyed}(h:u[i]? = some x):(o.push x).toList=o.toList++(u.toList.drop i).take 1:=by
 obtain⟨hi,e⟩:=HW.mp h
 have:u.toList.drop i=x::u.toList.drop (i + 1):=by
  rw[HA (by simpa using hi),Io,e]
 rw[this];simp
theorem Ea (L:cW prog w A E s a₀ κ key){u v o:Array Keyed}{i j g ca cb:Nat}{st:SortSt}{Q:ForInStep St6→SortSt→Prop}(hk:kindOf st=κ)(P:Pre a₀ key u v)(M:MI key u v o i j)(hi:i + 1 < u.size)(hj:j < v.size)
  (hd:∀ z r,Res key u v z→Q (.done (some z,r)) st) (hn:∀ o' i' j' ca' cb',MI key u v o' i' j'→i' + 1 < u.size→j' < v.size→o.size < o'.size→Q (.done (none,o',i',j',ca',cb')) st∧Q (.yield (none,o',i',j',ca',cb')) st) :
  wpS (model prog w) A E s (rM u v g (none,o,i,j,ca,cb)) Q st:=by
 unfold rM;have e1:v[j]? = some v[j]:=GD hj;have e2:u[i]? = some u[i]:=GD (by omega);dsimp only;refine GP (cJ e1 (GP (cJ e2 (GP (ug L hk (P.mv _ (dO e1)) (P.mu _ (dO e2)) ?_)))));dsimp only;have ml:=M.len;by_cases c:key v[j] < key u[i]
 ·rw[if_pos (GH c)];refine GP (cJ e1 ?_);have M':MI key u v (o.push v[j]) i (j + 1):=M.takeB (gR o v e1) (by assumption) fun x hx y hy=>by
   obtain⟨t,t1,t2,t3,t4⟩:=fY hx;obtain⟨r,r1,r2,r3⟩:=eZ hy;have et:t=j:=by lia
   rw[et,e1]at t4;have ex:=Option.some.inj t4
   have:=P.su i r (GF _) r1 r2
   rw[ao e2,ao r3]at this;rw[← ex];lia
  have ml':=M'.len;by_cases e:j + 1=v.size
  ·rw[if_pos (by simpa using e)];exact GY (hd _ _ (kO M' (.inr e)))
  ·rw[if_neg (by simpa using e)];obtain⟨q1,q2⟩:=hn _ i (j + 1) 0 (cb + 1) M' hi (by lia) (by simp)
   split
   ·exact GY q1
   ·exact GY q2
 ·rw[if_neg (by simpa using c)];refine GP (cJ e2 ?_);have M':MI key u v (o.push u[i]) (i + 1) j:=M.takeA (gR o u e2) (by lia) fun x hx y hy=>by
   obtain⟨t,t1,t2,t3,t4⟩:=fY hx;obtain⟨r,r1,r2,r3⟩:=eZ hy;have et:t=i:=by lia
   rw[et,e2]at t4;have ex:=Option.some.inj t4
   have:=P.sv j r (GF _) r1 r2
   rw[ao e1,ao r3]at this;rw[← ex];lia
  have ml':=M'.len;by_cases e:i + 1 + 1=u.size
  ·rw[if_pos (by simpa using e)];exact GY (hd _ _ (nO M' (P.lastA e)))
  ·rw[if_neg (by simpa using e)];obtain⟨q1,q2⟩:=hn _ (i + 1) j (ca + 1) 0 M' (by lia) hj (by simp)
   split
   ·exact GY q1
   ·exact GY q2
theorem qN {u v o:Array Keyed}{i j g ca cb n:Nat}{st:SortSt}{Q:ForInStep St7→SortSt→Prop}(P:Pre a₀ key u v)(M:MI key u v o i j)(hi:i + 1 < u.size)(hj:j < v.size)(hx:∀ y∈v.toList.drop j,kat key u i≤key y)(hs:n≤o.size)
  (hd:∀ z r,Res key u v z→Q (.done (some z,r)) st) (hn:∀ o' i' j' g' ca' cb',MI key u v o' i' j'→i' + 1 < u.size→j' < v.size→n < o'.size→Q (.done (none,o',i',j',g',ca',cb')) st∧Q (.yield (none,o',i',j',g',ca',cb')) st) :
  wpS (model prog w) A E s (sr u v o i j g ca cb) Q st:=by
 unfold sr;have e2:u[i]? = some u[i]:=GD (by omega);refine GP (cJ e2 ?_);have ml:=M.len;have M':MI key u v (o.push u[i]) (i + 1) j:=M.takeA (gR o u e2) (by lia) fun x hx' y hy=>by
  obtain⟨t,t1,t2,t3,t4⟩:=fY hx';have et:t=i:=by lia
  rw[et,e2]at t4;have ex:=Option.some.inj t4
  have:=hx y hy
  rw[ao e2]at this;rw[← ex];exact this
 have ml':=M'.len;by_cases e:i + 1 + 1=u.size
 ·rw[if_pos (by simpa using e)];exact GY (hd _ _ (nO M' (P.lastA e)))
 ·rw[if_neg (by simpa using e)];obtain⟨q1,q2⟩:=hn _ (i + 1) j g ca cb M' (by lia) hj (by lia)
  split
  ·exact GY q1
  ·exact GY q2
theorem uX (o u:Array Keyed)(i k:Nat):(o++u.extract i (i + k)).toList=o.toList++(u.toList.drop i).take k:=by rw[Hr,C6]
theorem ny {u:Array Keyed}{a b c d:Nat}(h:Seg key u a b)(h1:a≤c)(h2:d≤b):Seg key u c d:=fun i j x y z=>h i j (by lia) y (by lia)
theorem qM (L:cW prog w A E s a₀ κ key){u v o:Array Keyed}{i j g ca cb n:Nat}{st:SortSt}{Q:ForInStep St7→SortSt→Prop}(hk:kindOf st=κ)(P:Pre a₀ key u v)(M:MI key u v o i j)(hi:i + 1 < u.size)(hj:j < v.size)(hx:∀ y∈u.toList.drop i,kat key v j≤key y)(hs:n≤o.size)
  (hd:∀ z r,Res key u v z→Q (.done (some z,r)) st) (hn:∀ o' i' j' g' ca' cb',MI key u v o' i' j'→i' + 1 < u.size→j' < v.size→n < o'.size→Q (.done (none,o',i',j',g',ca',cb')) st∧Q (.yield (none,o',i',j',g',ca',cb')) st) :
  wpS (model prog w) A E s (so u v o i j g ca cb) Q st:=by
 unfold so;have e1:v[j]? = some v[j]:=GD hj;have e2:u[i]? = some u[i]:=GD (by omega);refine GP (cJ e1 ?_);have ml:=M.len;have M':MI key u v (o.push v[j]) i (j + 1):=M.takeB (gR o v e1) (by assumption) fun x hx' y hy=>by
  obtain⟨t,t1,t2,t3,t4⟩:=fY hx';have et:t=j:=by lia
  rw[et,e1]at t4;have ex:=Option.some.inj t4
  have:=hx y hy
  rw[ao e1]at this;rw[← ex];exact this
 have ml':=M'.len;by_cases e:j + 1=v.size
 ·rw[if_pos (by simpa using e)];exact GY (hd _ _ (kO M' (.inr e)))
 ·rw[if_neg (by simpa using e)];refine GP (cJ e2 (GP (fj L hk (P.mu _ (dO e2)) P.mv (by lia) (by lia) (ny P.sv (by simp) (by lia)) fun k k1 k2 k3 =>?_)));dsimp only;have lo:∀ t,j + 1≤t→t < j + 1 + k→kat key v t < key u[i]:=fun t t1 t2=>by
   have:=k2 (t - (j + 1)) (by lia)
   unfold aJ at this;rw[if_pos rfl,show j + 1 + (t - (j + 1))=t by lia]at this;exact G6 this
  have hi':∀ t,j + 1 + k≤t→t < v.size→key u[i]≤kat key v t:=fun t t1 t2=>by
   have:=k3 (t - (j + 1)) (by lia) (by lia)
   unfold aJ at this;rw[if_pos rfl,show j + 1 + (t - (j + 1))=t by lia]at this
   have:=Jy this
   lia
  have endx:∀ y∈v.toList.drop (j + 1 + k),kat key u i≤key y:=fun y hy=>by
   obtain⟨r,r1,r2,r3⟩:=eZ hy
   have:=hi' r r1 r2
   rw[ao r3]at this;rw[ao e2];exact this
  by_cases hk0:k > 0
  ·rw[if_pos hk0];have M2:MI key u v (o.push v[j]++v.extract (j + 1) (j + 1 + k)) i (j + 1 + k):=M'.takeB (uX _ v (j + 1) k) (by lia) fun x hx' y hy=>by
    obtain⟨t,t1,t2,t3,t4⟩:=fY hx';obtain⟨r,r1,r2,r3⟩:=eZ hy;have a1:=lo t t1 t2;have a2:=P.su i r (GF _) r1 r2;rw[ao t4]at a1;rw[ao e2,ao r3]at a2
    lia
   have ml2:=M2.len;by_cases e3:j + 1 + k=v.size
   ·rw[if_pos (by simpa using e3)];exact GY (hd _ _ (kO M2 (.inr e3)))
   ·rw[if_neg (by simpa using e3)];exact qN P M2 hi (by lia) endx (by lia) hd hn
  ·rw[if_neg hk0];have k0:k=0:=by lia
   subst k0;exact qN P M' hi (by lia) endx (by lia) hd hn
theorem qL (L:cW prog w A E s a₀ κ key){u v o:Array Keyed}{i j g ca cb:Nat}{st:SortSt}{Q:ForInStep St7→SortSt→Prop}(hk:kindOf st=κ)(P:Pre a₀ key u v)(M:MI key u v o i j)(hi:i + 1 < u.size)(hj:j < v.size)
  (hd:∀ z r,Res key u v z→Q (.done (some z,r)) (aO st g)) (hn:∀ o' i' j' g' ca' cb',MI key u v o' i' j'→i' + 1 < u.size→j' < v.size→o.size < o'.size→Q (.done (none,o',i',j',g',ca',cb')) (aO st g)∧Q (.yield (none,o',i',j',g',ca',cb')) (aO st g)) :
  wpS (model prog w) A E s (sj u v o i j g ca cb) Q st:=by
 unfold sj;have e1:v[j]? = some v[j]:=GD hj;refine GP (wpS_modify (GP (cJ e1 (GP (fj L hk (P.mv _ (dO e1)) P.mu (by lia) (by lia) (ny P.su (by simp) (by lia)) fun k k1 k2 k3 =>?_)))));dsimp only;have ml:=M.len;have lo:∀ t,i≤t→t < i + k→kat key u t≤key v[j]:=fun t t1 t2=>by
  have:=k2 (t - i) (by lia)
  unfold aJ at this;rw[if_neg (by decide),show i + (t - i)=t by lia]at this
  have:¬ key v[j] < kat key u t:=by simpa using this
  lia
 have hi':∀ t,i + k≤t→t < u.size→key v[j] < kat key u t:=fun t t1 t2=>by
  have:=k3 (t - i) (by lia) (by lia)
  unfold aJ at this;rw[if_neg (by decide),show i + (t - i)=t by lia]at this
  have:key v[j] < kat key u t:=by simpa using this
  exact this
 have midx:∀ y∈u.toList.drop (i + k),kat key v j≤key y:=fun y hy=>by
  obtain⟨r,r1,r2,r3⟩:=eZ hy
  have:=hi' r r1 r2
  rw[ao r3]at this;rw[ao e1];lia
 by_cases hk0:k > 0
 ·rw[if_pos hk0];have M2:MI key u v (o++u.extract i (i + k)) (i + k) j:=M.takeA (uX _ u i k) (by lia) fun x hx' y hy=>by
   obtain⟨t,t1,t2,t3,t4⟩:=fY hx';obtain⟨r,r1,r2,r3⟩:=eZ hy;have a1:=lo t t1 t2;have a2:=P.sv j r (GF _) r1 r2;rw[ao t4]at a1;rw[ao e1,ao r3]at a2
   lia
  have ml2:=M2.len;by_cases e3:i + k + 1=u.size
  ·rw[if_pos (by simpa using e3)];exact GY (hd _ _ (nO M2 (P.lastA e3)))
  ·rw[if_neg (by simpa using e3)];by_cases e4:i + k=u.size
   ·rw[if_pos (by simpa using e4)];exact GY (hd _ _ (kO M2 (.inl e4)))
   ·rw[if_neg (by simpa using e4)];exact qM L (st:=aO st g) hk P M2 (by lia) hj midx (by simp) hd hn
 ·rw[if_neg hk0];have k0:k=0:=by lia
  subst k0;exact qM L (st:=aO st g) hk P M hi hj midx (by simp) hd hn
theorem zP (L:cW prog w A E s a₀ κ key){u v o:Array Keyed}{i j g:Nat}{st:SortSt}{Q:ForInStep St5→SortSt→Prop}(hk:kindOf st=κ)(P:Pre a₀ key u v)(M:MI key u v o i j)(hi:i + 1 < u.size)(hj:j < v.size)
  (hd:∀ z r g',Res key u v z→Q (.done (some z,r)) (aO st g')) (hn:∀ o' i' j' g' g'',MI key u v o' i' j'→i' + 1 < u.size→j' < v.size→o.size < o'.size→Q (.yield (none,o',i',j',g')) (aO st g'')) :
  wpS (model prog w) A E s (lP u v (none,o,i,j,g)) Q st:=by
 unfold lP;have ml:=M.len;refine GP (Jx (wpS_forRange (I:=fun t c st'=>st'=st∧∃ o' i' j' ca cb,c=(none,o',i',j',ca,cb)∧MI key u v o' i' j'∧i' + 1 < u.size∧j' < v.size∧o.size + t≤o'.size)
  (Q:=fun c st'=>st'=st∧((∃ z r,c=(some z,r)∧Res key u v z)∨∃ o' i' j' ca cb,c=(none,o',i',j',ca,cb)∧MI key u v o' i' j'∧i' + 1 < u.size∧j' < v.size∧o.size < o'.size)) ?step ?fin ⟨rfl,o,i,j,0,0,rfl,M,hi,hj,by simp⟩) ?post)
 case fin =>
  rintro c st' ⟨rfl,o',i',j',ca,cb,rfl,M',h1,h2,h3⟩
  have:=M'.len
  lia
 case step =>
  rintro t c st' _ ht ⟨rfl,o',i',j',ca,cb,rfl,M',h1,h2,h3⟩;exact Ea L hk P M' h1 h2 (fun z r hz=>⟨rfl,.inl ⟨z,r,rfl,hz⟩⟩) fun o2 i2 j2 ca2 cb2 M2 g1 g2 g3=>⟨⟨rfl,.inr ⟨o2,i2,j2,ca2,cb2,rfl,M2,g1,g2,by lia⟩⟩,rfl,o2,i2,j2,ca2,cb2,rfl,M2,g1,g2,by lia⟩
 case post =>
  rintro c st' ⟨rfl,h⟩;rcases h with⟨z,r,rfl,hz⟩ | ⟨o',i',j',ca,cb,rfl,M',h1,h2,h3⟩
  ·exact GY (hd z _ (gallopOf st') hz)
  ·dsimp only;refine GP (wpS_lift (wpAny_rule ⟨rfl,?_⟩));refine GP (Jx (wpS_forRange (I:=fun t c st''=>∃ g',st''=aO st' g'∧∃ o2 i2 j2 g2 ca cb,c=(none,o2,i2,j2,g2,ca,cb)∧MI key u v o2 i2 j2∧i2 + 1 < u.size∧j2 < v.size∧o'.size + t≤o2.size)
    (Q:=fun c st''=>∃ g',st''=aO st' g'∧((∃ z r,c=(some z,r)∧Res key u v z)∨∃ o2 i2 j2 g2 ca cb,c=(none,o2,i2,j2,g2,ca,cb)∧MI key u v o2 i2 j2∧i2 + 1 < u.size∧j2 < v.size∧o.size < o2.size)) ?gstep ?gfin ⟨gallopOf st',rfl,o',i',j',g + 1,ca,cb,rfl,M',h1,h2,by simp⟩) ?gpost)
   case gfin =>
    rintro c st'' ⟨g',rfl,o2,i2,j2,g2,ca,cb,rfl,M2,q1,q2,q3⟩
    have:=M2.len
    have:=M'.len
    lia
   case gstep =>
    rintro t c st'' _ ht ⟨g',rfl,o2,i2,j2,g2,ca,cb,rfl,M2,q1,q2,q3⟩;show wpS _ _ _ _ (sk u v (none,o2,i2,j2,g2,ca,cb)) _ _;unfold sk;dsimp only
    split
    ·exact qL L (st:=aO st' g') hk P M2 q1 q2 (fun z r hz=>⟨_,rfl,.inl ⟨z,r,rfl,hz⟩⟩) fun o3 i3 j3 g3 ca3 cb3 M3 k1 k2 k3=>⟨⟨_,rfl,.inr ⟨o3,i3,j3,g3,ca3,cb3,rfl,M3,k1,k2,by lia⟩⟩,_,rfl,o3,i3,j3,g3,ca3,cb3,rfl,M3,k1,k2,by lia⟩
    ·exact qL L (st:=aO st' g') hk P M2 q1 q2 (fun z r hz=>⟨_,rfl,.inl ⟨z,r,rfl,hz⟩⟩) fun o3 i3 j3 g3 ca3 cb3 M3 k1 k2 k3=>⟨⟨_,rfl,.inr ⟨o3,i3,j3,g3,ca3,cb3,rfl,M3,k1,k2,by lia⟩⟩,_,rfl,o3,i3,j3,g3,ca3,cb3,rfl,M3,k1,k2,by lia⟩
   case gpost =>
    rintro c st'' ⟨g',rfl,h⟩;rcases h with⟨z,r,rfl,hz⟩ | ⟨o2,i2,j2,g2,ca,cb,rfl,M2,q1,q2,q3⟩
    ·exact GY (hd z _ g' hz)
    ·dsimp only;exact GP (wpS_modify (GY (hn o2 i2 j2 _ _ M2 q1 q2 q3)))
theorem Fw (L:cW prog w A E s a₀ κ key){u v:Array Keyed}{st:SortSt}{Q:Array Keyed→SortSt→Prop}(hk:kindOf st=κ)(P:Pre a₀ key u v)(hd:∀ z g',Res key u v z→Q z (aO st g')):wpS (model prog w) A E s (loP u v) Q st:=by
 rw[Eg];refine GP (wpS_lift (wpAny_rule ⟨rfl,?_⟩));have hu:=P.hu;have hv:=P.hv;have e1:v[0]? = some v[0]:=GD (by assumption);refine GP (cJ e1 ?_);have M0:MI key u v #[] 0 0:=⟨by simp,by simpa using kq.mpr P.su,by simpa using kq.mpr P.sv,GF _,GF _⟩;have M:MI key u v #[v[0]] 0 (0 + 1):=M0.takeB (by have:=gR #[] v e1;simpa using this) (by omega) fun x hx y hy=>by
  obtain⟨t,t1,t2,t3,t4⟩:=fY hx;obtain⟨r,r1,r2,r3⟩:=eZ hy;have et:t=0:=by lia
  rw[et]at t4;have a1:=P.su 0 r (GF _) r1 r2;have a2:=P.first;rw[ao t4]at a2;rw[ao r3]at a1
  lia
 rw[Ii]at M;by_cases c1:1=v.size
 ·rw[if_pos (by simpa using c1)];exact GY (hd _ (gallopOf st) (kO M (.inr c1)))
 ·rw[if_neg (by simpa using c1)];by_cases c2:0 + 1=u.size
  ·rw[if_pos (by simpa using c2)];exact GY (hd _ (gallopOf st) (nO M (P.lastA c2)))
  ·rw[if_neg (by simpa using c2)];refine GP (wpS_get ?_);refine GP (Jx (wpS_forRange (I:=fun t c st'=>∃ g',st'=aO st g'∧∃ o i j g,c=(none,o,i,j,g)∧MI key u v o i j∧i + 1 < u.size∧j < v.size∧t < o.size)
    (Q:=fun c st'=>∃ g',st'=aO st g'∧∃ z r,c=(some z,r)∧Res key u v z) ?step ?fin ⟨gallopOf st,rfl,#[v[0]],0,1,_,rfl,M,by lia,by lia,by simp⟩) ?post)
   case fin =>
    rintro c st' ⟨g',rfl,o,i,j,g,rfl,M',h1,h2,h3⟩
    have:=M'.len
    lia
   case step =>
    rintro t c st' _ ht ⟨g',rfl,o,i,j,g,rfl,M',h1,h2,h3⟩;exact zP L (st:=aO st g') hk P M' h1 h2 (fun z r g2 hz=>⟨g2,rfl,z,r,rfl,hz⟩) fun o2 i2 j2 g2 g3 M2 q1 q2 q3=>⟨g3,rfl,o2,i2,j2,g2,rfl,M2,q1,q2,by lia⟩
   case post =>
    rintro c st' ⟨g',rfl,z,r,rfl,hz⟩;exact GY (hd z g' hz)
end
section
variable {w:World}
def hiP:Array Keyed→Array Keyed→StateT SortSt Sem (Array Keyed):=sortPriv% PySem.Builtin.mergeHi
abbrev Sh7:=Option (Array Keyed) × Nat × Nat × Array Keyed × Nat × Nat × Nat
abbrev Sh6:=Option (Array Keyed) × Nat × Nat × Array Keyed × Nat × Nat
abbrev Sh5:=Option (Array Keyed) × Nat × Nat × Array Keyed × Nat
def pE (u v o:Array Keyed)(i j:Nat):Array Keyed:=u.extract 0 i++v.extract 0 j++o.reverse
def wn (u v o:Array Keyed)(i j:Nat):Array Keyed:=v.extract 0 j++u.extract 0 i++o.reverse
def AE (u v:Array Keyed)(g:Nat)(r:Sh6):StateT SortSt Sem (ForInStep Sh6):=do
 let y ← elem' v (r.2.2.1 - 1)
 let x ← elem' u (r.2.1 - 1)
 let z ← lt' y x
 match z with
 | some won =>
  if won=true then do
   let x ← elem' u (r.2.1 - 1)
   if (r.2.1 - 1 == 0)=true then pure (.done (some (pE u v (r.2.2.2.1.push x) (r.2.1 - 1) r.2.2.1),r.2.1 - 1,r.2.2.1,r.2.2.2.1.push x,r.2.2.2.2.1 + 1,0))
   else if r.2.2.2.2.1 + 1 ≥ g then pure (.done (none,r.2.1 - 1,r.2.2.1,r.2.2.2.1.push x,r.2.2.2.2.1 + 1,0))
   else pure (.yield (none,r.2.1 - 1,r.2.2.1,r.2.2.2.1.push x,r.2.2.2.2.1 + 1,0))
  else do
   let y ← elem' v (r.2.2.1 - 1)
   if (r.2.2.1 - 1 == 1)=true then pure (.done (some (wn u v (r.2.2.2.1.push y) r.2.1 (r.2.2.1 - 1)),r.2.1,r.2.2.1 - 1,r.2.2.2.1.push y,0,r.2.2.2.2.2 + 1))
   else if r.2.2.2.2.2 + 1 ≥ g then pure (.done (none,r.2.1,r.2.2.1 - 1,r.2.2.2.1.push y,0,r.2.2.2.2.2 + 1))
   else pure (.yield (none,r.2.1,r.2.2.1 - 1,r.2.2.2.1.push y,0,r.2.2.2.2.2 + 1))
 | _=>pure (.done (some (pE u v r.2.2.2.1 r.2.1 r.2.2.1),r.2.1,r.2.2.1,r.2.2.2.1,r.2.2.2.2.1,r.2.2.2.2.2))
def xA (u v o:Array Keyed)(i j g ca cb:Nat):StateT SortSt Sem (ForInStep Sh7):=do
 let x ← elem' u (i - 1)
 if (i - 1 == 0)=true then pure (.done (some (pE u v (o.push x) (i - 1) j),i - 1,j,o.push x,g,ca,cb))
 else if (decide (ca < 7) && decide (cb < 7))=true then pure (.done (none,i - 1,j,o.push x,g,ca,cb))
 else pure (.yield (none,i - 1,j,o.push x,g,ca,cb))
def xz (u v o:Array Keyed)(i j g ca cb:Nat):StateT SortSt Sem (ForInStep Sh7):=do
 let y ← elem' v (j - 1)
 if (j - 1 == 1)=true then pure (.done (some (wn u v (o.push y) i (j - 1)),i,j - 1,o.push y,g,ca,cb)) else do
  let x ← elem' u (i - 1)
  let z ← e_ true x v 0 (j - 1) (j - 1 - 1)
  match z with
  | some k =>
   if j - 1 - k > 0 then
    if (k == 1)=true then pure (.done (some (wn u v (o.push y++(v.extract k (j - 1)).reverse) i k),i,k,o.push y++(v.extract k (j - 1)).reverse,g,ca,j - 1 - k))
    else if (k == 0)=true then pure (.done (some (pE u v (o.push y++(v.extract k (j - 1)).reverse) i k),i,k,o.push y++(v.extract k (j - 1)).reverse,g,ca,j - 1 - k))
    else xA u v (o.push y++(v.extract k (j - 1)).reverse) i k g ca (j - 1 - k)
   else xA u v (o.push y) i (j - 1) g ca (j - 1 - k)
  | _=>pure (.done (some (pE u v (o.push y) i (j - 1)),i,j - 1,o.push y,g,ca,cb))
def xy (u v o:Array Keyed)(i j g ca cb:Nat):StateT SortSt Sem (ForInStep Sh7):=do
 modify fun st=>aO st g
 let y ← elem' v (j - 1)
 let z ← e_ false y u 0 i (i - 1)
 match z with
 | some k =>
  if i - k > 0 then
   if (k == 0)=true then pure (.done (some (pE u v (o++(u.extract k i).reverse) k j),k,j,o++(u.extract k i).reverse,g,i - k,cb))
   else xz u v (o++(u.extract k i).reverse) k j g (i - k) cb
  else xz u v o i j g (i - k) cb
 | _=>pure (.done (some (pE u v o i j),i,j,o,g,ca,cb))
def wg (u v:Array Keyed)(r:Sh7):StateT SortSt Sem (ForInStep Sh7) :=
 if r.2.2.2.2.1 > 1 then xy u v r.2.2.2.1 r.2.1 r.2.2.1 (r.2.2.2.2.1 - 1) r.2.2.2.2.2.1 r.2.2.2.2.2.2 else xy u v r.2.2.2.1 r.2.1 r.2.2.1 r.2.2.2.2.1 r.2.2.2.2.2.1 r.2.2.2.2.2.2
def rz (u v:Array Keyed)(r:Sh5):StateT SortSt Sem (ForInStep Sh5):=do
 let q ← forIn [0:u.size + v.size] ((none,r.2.1,r.2.2.1,r.2.2.2.1,0,0):Sh6) fun _ q=>AE u v r.2.2.2.2 q
 match q.1 with
 | some z=>pure (.done (some z,q.2.1,q.2.2.1,q.2.2.2.1,r.2.2.2.2))
 | none=>do
  liftM (rule "list.sort.gallop")
  let p ← forIn [0:u.size + v.size] ((none,q.2.1,q.2.2.1,q.2.2.2.1,r.2.2.2.2 + 1,q.2.2.2.2.1,q.2.2.2.2.2):Sh7) fun _ p=>wg u v p
  match p.1 with
  | some z=>pure (.done (some z,p.2.1,p.2.2.1,p.2.2.2.1,p.2.2.2.2.1))
  | none=>do
   modify fun st=>aO st (p.2.2.2.2.1 + 1)
   pure (.yield (none,p.2.1,p.2.2.1,p.2.2.2.1,p.2.2.2.2.1 + 1))
theorem Ey (u v:Array Keyed):hiP u v=(do
  liftM (rule "list.sort.merge-hi")
  let x ← elem' u (u.size - 1)
  if (u.size - 1 == 0)=true then pure (pE u v #[x] (u.size - 1) v.size) else
   if (v.size == 1)=true then pure (wn u v #[x] (u.size - 1) v.size) else do
    let st ← get
    let r ← forIn [0:u.size + v.size] ((none,u.size - 1,v.size,#[x],gallopOf st):Sh5) fun _ r=>rz u v r
    match r.1 with
    | some z=>pure z
    | none=>liftM (unsupported "internal:list.sort.merge-bound" : Sem (Array Keyed))):=by
 kernel_rfl
theorem n9 {o m r:List Keyed}(h1:Srt key (m++o))(h2:Srt key (r++o))(h3:∀ x∈r,∀ y∈m,key x≤key y):Srt key (r++(m++o)):=by
 unfold Srt at h1 h2 ⊢;rw[Hh]at h2;refine Hh.mpr ⟨h2.1,h1,fun x hx y hy =>?_⟩;rcases GS.mp hy with hy | hy
 ·exact h3 x hx y hy
 ·exact h2.2.2 x hx y hy
structure HI (key:Keyed→Int)(u v o:Array Keyed)(i j:Nat):Prop where
 perm:(u.toList.take i++v.toList.take j++o.toList.reverse).Perm (u.toList++v.toList)
 sa:Srt key (u.toList.take i++o.toList.reverse)
 sb:Srt key (v.toList.take j++o.toList.reverse)
 hi:i≤u.size
 hj:j≤v.size
theorem HI.len {u v o:Array Keyed}{i j:Nat}(h:HI key u v o i j):o.size + i + j=u.size + v.size:=by
 have:=h.perm.length_eq
 have h1:=h.hi;have h2:=h.hj;simp only[GE,Ht,List.length_reverse,G5]at this
 lia
theorem n5 (l:List Keyed){k i:Nat}(h:k≤i):l.take k++(l.take i).drop k=l.take i:=by
 have:=Hi k (l.take i)
 rwa [List.take_take,Nat.min_eq_left h]at this
theorem D1 (T D V R W:List Keyed)(e:T++D=W):(T++V++(D++R)).Perm (W++V++R):=by
 rw[← e,GT,GT,GT];refine List.Perm.append_left _ ?_;rw[← GT,← GT];exact List.Perm.append_right _ IC
theorem D0 (T D U R W:List Keyed)(e:T++D=W):(U++T++(D++R)).Perm (U++W++R):=by
 rw[← e];simp only[GT];exact List.Perm.refl _
theorem HI.takeA {u v o o':Array Keyed}{i j k:Nat}(h:HI key u v o i j)(ho:o'.toList.reverse=(u.toList.take i).drop k++o.toList.reverse)(hk:k≤i)(hl:∀ x∈v.toList.take j,∀ y∈(u.toList.take i).drop k,key x≤key y):HI key u v o' k j:=by
 have e:=n5 u.toList hk;have hi:=h.hi;refine⟨?_,?_,?_,by lia,h.hj⟩
 ·rw[ho];exact (D1 _ _ _ _ _ e).trans h.perm
 ·rw[ho,← GT,e];exact h.sa
 ·rw[ho];have h1:Srt key ((u.toList.take i).drop k++o.toList.reverse):=by
   have:=h.sa
   rw[← e,GT]at this;exact (Hh.mp this).2.1
  exact n9 h1 h.sb hl
theorem HI.takeB {u v o o':Array Keyed}{i j k:Nat}(h:HI key u v o i j)(ho:o'.toList.reverse=(v.toList.take j).drop k++o.toList.reverse)(hk:k≤j)(hl:∀ x∈u.toList.take i,∀ y∈(v.toList.take j).drop k,key x≤key y):HI key u v o' i k:=by
 have e:=n5 v.toList hk;have hj:=h.hj;refine⟨?_,?_,?_,h.hi,by lia⟩
 ·rw[ho];exact (D0 _ _ _ _ _ e).trans h.perm
 ·rw[ho];have h1:Srt key ((v.toList.take j).drop k++o.toList.reverse):=by
   have:=h.sb
   rw[← e,GT]at this;exact (Hh.mp this).2.1
  exact n9 h1 h.sa hl
 ·rw[ho,← GT,e];exact h.sb
theorem kT (u:Array Keyed)(i:Nat):(u.extract 0 i).toList=u.toList.take i:=by
 rw[IJ,Im];simp
theorem gW (u:Array Keyed)(k i:Nat):(u.extract k i).toList=(u.toList.take i).drop k:=by
 rw[IJ,Im,Jc]
theorem kP {u v o:Array Keyed}{i j:Nat}(h:HI key u v o i j)(he:i=0∨j=0):Res key u v (pE u v o i j):=by
 have e:(pE u v o i j).toList=u.toList.take i++v.toList.take j++o.toList.reverse:=by
  unfold pE;rw[Hr,Hr,kT,kT,Jn]
 refine⟨by rw[e];exact h.perm,?_⟩;rw[e];rcases he with he | he
 ·rw[he];simpa using h.sb
 ·have:=h.sa
  rw[he];simpa using this
theorem nQ {u v o:Array Keyed}{i j:Nat}(h:HI key u v o i j)(hl:∀ x∈v.toList.take j,∀ y∈u.toList.take i,key x≤key y):Res key u v (wn u v o i j):=by
 have e:(wn u v o i j).toList=v.toList.take j++u.toList.take i++o.toList.reverse:=by
  unfold wn;rw[Hr,Hr,kT,kT,Jn]
 refine⟨?_,?_⟩
 ·rw[e];exact (List.Perm.append_right _ IC).trans h.perm
 ·rw[e,GT];exact n9 h.sa h.sb hl
theorem eW {u:Array Keyed}{i:Nat}{y:Keyed}(h:y∈u.toList.take i):∃ t,t < i∧t < u.size∧u[t]? = some y:=by
 obtain⟨t,ht,e⟩:=Jw h;rw[Ht,G5]at ht;rw[List.getElem_take]at e;refine⟨t,by lia,by lia,?_⟩;rw[← e,Io];exact GD _
theorem eV {u:Array Keyed}{i k:Nat}{y:Keyed}(h:y∈(u.toList.take i).drop k):∃ t,k≤t∧t < i∧t < u.size∧u[t]? = some y:=by
 rw[Jc]at h;obtain⟨t,t1,t2,t3,t4⟩:=fY h;exact⟨t,t1,by lia,t3,t4⟩
theorem Pre.firstB {u v:Array Keyed}{i j:Nat}(P:Pre a₀ key u v)(hj:j=1):∀ x∈v.toList.take j,∀ y∈u.toList.take i,key x≤key y:=fun x hx y hy=>by
 obtain⟨t,h1,h2,h3⟩:=eW hx;obtain⟨r,g1,g2,g3⟩:=eW hy;have e:t=0:=by lia
 rw[e]at h3;rw[← ao (key:=key) h3,← ao (key:=key) g3]
 have:=P.su 0 r (GF _) (GF _) g2
 have:=P.first
 lia
theorem jk (o u:Array Keyed){i:Nat}{x:Keyed}(h1:1≤i)(h:u[i - 1]? = some x):(o.push x).toList.reverse=(u.toList.take i).drop (i - 1)++o.toList.reverse:=by
 obtain⟨hi,e⟩:=HW.mp h
 have:(u.toList.take i).drop (i - 1)=[x]:=by
  rw[Jc,show i - (i - 1)=1 by lia,HA (by simpa using hi),Io,e];rfl
 rw[this];simp
theorem xS (o u:Array Keyed)(k i:Nat):(o++(u.extract k i).reverse).toList.reverse=(u.toList.take i).drop k++o.toList.reverse:=by
 rw[Hr,Jn,List.reverse_append,List.reverse_reverse,gW]
theorem AD (L:cW prog w A E s a₀ κ key){u v o:Array Keyed}{i j g ca cb:Nat}{st:SortSt}{Q:ForInStep Sh6→SortSt→Prop}(hk:kindOf st=κ)(P:Pre a₀ key u v)(M:HI key u v o i j)(hi:1≤i)(hj:2≤j)
  (hd:∀ z r,Res key u v z→Q (.done (some z,r)) st) (hn:∀ o' i' j' ca' cb',HI key u v o' i' j'→1≤i'→2≤j'→o.size < o'.size→Q (.done (none,i',j',o',ca',cb')) st∧Q (.yield (none,i',j',o',ca',cb')) st) :
  wpS (model prog w) A E s (AE u v g (none,i,j,o,ca,cb)) Q st:=by
 unfold AE;have b1:=M.hi;have b2:=M.hj;have e1:v[j - 1]? = some v[j - 1]:=GD (by omega);have e2:u[i - 1]? = some u[i - 1]:=GD (by omega);dsimp only;refine GP (cJ e1 (GP (cJ e2 (GP (ug L hk (P.mv _ (dO e1)) (P.mu _ (dO e2)) ?_)))));dsimp only;have ml:=M.len;by_cases c:key v[j - 1] < key u[i - 1]
 ·rw[if_pos (GH c)];refine GP (cJ e2 ?_);have M':HI key u v (o.push u[i - 1]) (i - 1) j:=M.takeA (jk o u hi e2) (by simp) fun x hx y hy=>by
   obtain⟨r,r1,r2,r3⟩:=eW hx;obtain⟨t,t1,t2,t3,t4⟩:=eV hy;have et:t=i - 1:=by lia
   rw[et,e2]at t4;have ex:=Option.some.inj t4
   have:=P.sv r (j - 1) (GF _) (by lia) (by lia)
   rw[ao e1,ao r3]at this;rw[← ex];lia
  have ml':=M'.len;by_cases e:i - 1=0
  ·rw[if_pos (by simpa using e)];exact GY (hd _ _ (kP M' (.inl e)))
  ·rw[if_neg (by simpa using e)];obtain⟨q1,q2⟩:=hn _ (i - 1) j (ca + 1) 0 M' (by lia) hj (by simp)
   split
   ·exact GY q1
   ·exact GY q2
 ·rw[if_neg (by simpa using c)];refine GP (cJ e1 ?_);have M':HI key u v (o.push v[j - 1]) i (j - 1):=M.takeB (jk o v (by lia) e1) (by simp) fun x hx y hy=>by
   obtain⟨r,r1,r2,r3⟩:=eW hx;obtain⟨t,t1,t2,t3,t4⟩:=eV hy;have et:t=j - 1:=by lia
   rw[et,e1]at t4;have ex:=Option.some.inj t4
   have:=P.su r (i - 1) (GF _) (by lia) (by lia)
   rw[ao e2,ao r3]at this;rw[← ex];lia
  have ml':=M'.len;by_cases e:j - 1=1
  ·rw[if_pos (by simpa using e)];exact GY (hd _ _ (nQ M' (P.firstB e)))
  ·rw[if_neg (by simpa using e)];obtain⟨q1,q2⟩:=hn _ i (j - 1) 0 (cb + 1) M' hi (by lia) (by simp)
   split
   ·exact GY q1
   ·exact GY q2
theorem uA {u v o:Array Keyed}{i j g ca cb n:Nat}{st:SortSt}{Q:ForInStep Sh7→SortSt→Prop}(P:Pre a₀ key u v)(M:HI key u v o i j)(hi:1≤i)(hj:2≤j)(hx:∀ y∈v.toList.take j,key y≤kat key u (i - 1))(hs:n≤o.size)
  (hd:∀ z r,Res key u v z→Q (.done (some z,r)) st) (hn:∀ o' i' j' g' ca' cb',HI key u v o' i' j'→1≤i'→2≤j'→n < o'.size→Q (.done (none,i',j',o',g',ca',cb')) st∧Q (.yield (none,i',j',o',g',ca',cb')) st) :
  wpS (model prog w) A E s (xA u v o i j g ca cb) Q st:=by
 unfold xA;have b1:=M.hi;have e2:u[i - 1]? = some u[i - 1]:=GD (by omega);refine GP (cJ e2 ?_);have ml:=M.len;have M':HI key u v (o.push u[i - 1]) (i - 1) j:=M.takeA (jk o u hi e2) (by simp) fun x hx' y hy=>by
  obtain⟨t,t1,t2,t3,t4⟩:=eV hy;have et:t=i - 1:=by lia
  rw[et,e2]at t4;have ex:=Option.some.inj t4
  have:=hx x hx'
  rw[ao e2]at this;rw[← ex];exact this
 have ml':=M'.len;by_cases e:i - 1=0
 ·rw[if_pos (by simpa using e)];exact GY (hd _ _ (kP M' (.inl e)))
 ·rw[if_neg (by simpa using e)];obtain⟨q1,q2⟩:=hn _ (i - 1) j g ca cb M' (by lia) hj (by lia)
  split
  ·exact GY q1
  ·exact GY q2
theorem uz (L:cW prog w A E s a₀ κ key){u v o:Array Keyed}{i j g ca cb n:Nat}{st:SortSt}{Q:ForInStep Sh7→SortSt→Prop}(hk:kindOf st=κ)(P:Pre a₀ key u v)(M:HI key u v o i j)(hi:1≤i)(hj:2≤j)(hx:∀ y∈u.toList.take i,key y≤kat key v (j - 1))(hs:n≤o.size)
  (hd:∀ z r,Res key u v z→Q (.done (some z,r)) st) (hn:∀ o' i' j' g' ca' cb',HI key u v o' i' j'→1≤i'→2≤j'→n < o'.size→Q (.done (none,i',j',o',g',ca',cb')) st∧Q (.yield (none,i',j',o',g',ca',cb')) st) :
  wpS (model prog w) A E s (xz u v o i j g ca cb) Q st:=by
 unfold xz;have b1:=M.hi;have b2:=M.hj;have e1:v[j - 1]? = some v[j - 1]:=GD (by omega);have e2:u[i - 1]? = some u[i - 1]:=GD (by omega);refine GP (cJ e1 ?_);have ml:=M.len;have M':HI key u v (o.push v[j - 1]) i (j - 1):=M.takeB (jk o v (by lia) e1) (by simp) fun x hx' y hy=>by
  obtain⟨t,t1,t2,t3,t4⟩:=eV hy;have et:t=j - 1:=by lia
  rw[et,e1]at t4;have ex:=Option.some.inj t4
  have:=hx x hx'
  rw[ao e1]at this;rw[← ex];exact this
 have ml':=M'.len;by_cases e:j - 1=1
 ·rw[if_pos (by simpa using e)];exact GY (hd _ _ (nQ M' (P.firstB e)))
 ·rw[if_neg (by simpa using e)];refine GP (cJ e2 (GP (fj L hk (P.mu _ (dO e2)) P.mv (by lia) (by lia) (ny P.sv (by simp) (by lia)) fun k k1 k2 k3 =>?_)));dsimp only;have lo:∀ t,t < k→kat key v t < key u[i - 1]:=fun t t1=>by
   have:=k2 t t1
   unfold aJ at this;rw[if_pos rfl,Ii]at this;exact G6 this
  have up:∀ t,k≤t→t < j - 1→key u[i - 1]≤kat key v t:=fun t t1 t2=>by
   have:=k3 t t1 t2
   unfold aJ at this;rw[if_pos rfl,Ii]at this
   have:=Jy this
   lia
  have endx:∀ y∈v.toList.take k,key y≤kat key u (i - 1):=fun y hy=>by
   obtain⟨r,r1,r2,r3⟩:=eW hy
   have:=lo r r1
   rw[ao r3]at this;rw[ao e2];lia
  by_cases hk0:j - 1 - k > 0
  ·rw[if_pos hk0];have M2:HI key u v (o.push v[j - 1]++(v.extract k (j - 1)).reverse) i k:=M'.takeB (xS _ v k (j - 1)) (by omega) fun x hx' y hy=>by
    obtain⟨r,r1,r2,r3⟩:=eW hx';obtain⟨t,t1,t2,t3,t4⟩:=eV hy;have a1:=up t t1 t2;have a2:=P.su r (i - 1) (GF _) (by lia) (by lia);rw[ao t4]at a1;rw[ao e2,ao r3]at a2
    lia
   have ml2:=M2.len;by_cases e3:k=1
   ·rw[if_pos (by simpa using e3)];exact GY (hd _ _ (nQ M2 (P.firstB e3)))
   ·rw[if_neg (by simpa using e3)];by_cases e4:k=0
    ·rw[if_pos (by simpa using e4)];exact GY (hd _ _ (kP M2 (.inr e4)))
    ·rw[if_neg (by simpa using e4)];exact uA P M2 hi (by lia) endx (by lia) hd hn
  ·rw[if_neg hk0];have k0:k=j - 1:=by lia
   subst k0;exact uA P M' hi (by lia) endx (by lia) hd hn
theorem uw (L:cW prog w A E s a₀ κ key){u v o:Array Keyed}{i j g ca cb:Nat}{st:SortSt}{Q:ForInStep Sh7→SortSt→Prop}(hk:kindOf st=κ)(P:Pre a₀ key u v)(M:HI key u v o i j)(hi:1≤i)(hj:2≤j)
  (hd:∀ z r,Res key u v z→Q (.done (some z,r)) (aO st g)) (hn:∀ o' i' j' g' ca' cb',HI key u v o' i' j'→1≤i'→2≤j'→o.size < o'.size→Q (.done (none,i',j',o',g',ca',cb')) (aO st g)∧Q (.yield (none,i',j',o',g',ca',cb')) (aO st g)) :
  wpS (model prog w) A E s (xy u v o i j g ca cb) Q st:=by
 unfold xy;have b1:=M.hi;have b2:=M.hj;have e1:v[j - 1]? = some v[j - 1]:=GD (by omega);refine GP (wpS_modify (GP (cJ e1 (GP (fj L hk (P.mv _ (dO e1)) P.mu (by lia) (by lia) (ny P.su (by simp) (by lia)) fun k k1 k2 k3 =>?_)))));dsimp only;have ml:=M.len;have lo:∀ t,t < k→kat key u t≤key v[j - 1]:=fun t t1=>by
  have:=k2 t t1
  unfold aJ at this;rw[if_neg (by decide),Ii]at this
  have:¬ key v[j - 1] < kat key u t:=by simpa using this
  lia
 have up:∀ t,k≤t→t < i→key v[j - 1] < kat key u t:=fun t t1 t2=>by
  have:=k3 t t1 t2
  unfold aJ at this;rw[if_neg (by decide),Ii]at this
  have:key v[j - 1] < kat key u t:=by simpa using this
  exact this
 have midx:∀ y∈u.toList.take k,key y≤kat key v (j - 1):=fun y hy=>by
  obtain⟨r,r1,r2,r3⟩:=eW hy
  have:=lo r r1
  rw[ao r3]at this;rw[ao e1];omega
 by_cases hk0:i - k > 0
 ·rw[if_pos hk0];have M2:HI key u v (o++(u.extract k i).reverse) k j:=M.takeA (xS _ u k i) (by omega) fun x hx' y hy=>by
   obtain⟨r,r1,r2,r3⟩:=eW hx';obtain⟨t,t1,t2,t3,t4⟩:=eV hy;have a1:=up t t1 t2;have a2:=P.sv r (j - 1) (GF _) (by lia) (by lia);rw[ao t4]at a1;rw[ao e1,ao r3]at a2
   lia
  have ml2:=M2.len;by_cases e3:k=0
  ·rw[if_pos (by simpa using e3)];exact GY (hd _ _ (kP M2 (.inl e3)))
  ·rw[if_neg (by simpa using e3)];exact uz L (st:=aO st g) hk P M2 (by lia) hj midx (by simp) hd hn
 ·rw[if_neg hk0];have k0:k=i:=by lia
  subst k0;exact uz L (st:=aO st g) hk P M hi hj midx (by simp) hd hn
theorem vE (L:cW prog w A E s a₀ κ key){u v o:Array Keyed}{i j g:Nat}{st:SortSt}{Q:ForInStep Sh5→SortSt→Prop}(hk:kindOf st=κ)(P:Pre a₀ key u v)(M:HI key u v o i j)(hi:1≤i)(hj:2≤j)
  (hd:∀ z r g',Res key u v z→Q (.done (some z,r)) (aO st g')) (hn:∀ o' i' j' g' g'',HI key u v o' i' j'→1≤i'→2≤j'→o.size < o'.size→Q (.yield (none,i',j',o',g')) (aO st g'')) :
  wpS (model prog w) A E s (rz u v (none,i,j,o,g)) Q st:=by
 unfold rz;have ml:=M.len;refine GP (Jx (wpS_forRange (I:=fun t c st'=>st'=st∧∃ o' i' j' ca cb,c=(none,i',j',o',ca,cb)∧HI key u v o' i' j'∧1≤i'∧2≤j'∧o.size + t≤o'.size)
  (Q:=fun c st'=>st'=st∧((∃ z r,c=(some z,r)∧Res key u v z)∨∃ o' i' j' ca cb,c=(none,i',j',o',ca,cb)∧HI key u v o' i' j'∧1≤i'∧2≤j'∧o.size < o'.size)) ?step ?fin ⟨rfl,o,i,j,0,0,rfl,M,hi,hj,by simp⟩) ?post)
 case fin =>
  rintro c st' ⟨rfl,o',i',j',ca,cb,rfl,M',h1,h2,h3⟩
  have:=M'.len
  lia
 case step =>
  rintro t c st' _ ht ⟨rfl,o',i',j',ca,cb,rfl,M',h1,h2,h3⟩;exact AD L hk P M' h1 h2 (fun z r hz=>⟨rfl,.inl ⟨z,r,rfl,hz⟩⟩) fun o2 i2 j2 ca2 cb2 M2 g1 g2 g3=>⟨⟨rfl,.inr ⟨o2,i2,j2,ca2,cb2,rfl,M2,g1,g2,by lia⟩⟩,rfl,o2,i2,j2,ca2,cb2,rfl,M2,g1,g2,by lia⟩
 case post =>
  rintro c st' ⟨rfl,h⟩;rcases h with⟨z,r,rfl,hz⟩ | ⟨o',i',j',ca,cb,rfl,M',h1,h2,h3⟩
  ·exact GY (hd z _ (gallopOf st') hz)
  ·dsimp only;refine GP (wpS_lift (wpAny_rule ⟨rfl,?_⟩));refine GP (Jx (wpS_forRange (I:=fun t c st''=>∃ g',st''=aO st' g'∧∃ o2 i2 j2 g2 ca cb,c=(none,i2,j2,o2,g2,ca,cb)∧HI key u v o2 i2 j2∧1≤i2∧2≤j2∧o'.size + t≤o2.size)
    (Q:=fun c st''=>∃ g',st''=aO st' g'∧((∃ z r,c=(some z,r)∧Res key u v z)∨∃ o2 i2 j2 g2 ca cb,c=(none,i2,j2,o2,g2,ca,cb)∧HI key u v o2 i2 j2∧1≤i2∧2≤j2∧o.size < o2.size)) ?gstep ?gfin ⟨gallopOf st',rfl,o',i',j',g + 1,ca,cb,rfl,M',h1,h2,by simp⟩) ?gpost)
   case gfin =>
    rintro c st'' ⟨g',rfl,o2,i2,j2,g2,ca,cb,rfl,M2,q1,q2,q3⟩
    have:=M2.len
    have:=M'.len
    lia
   case gstep =>
    rintro t c st'' _ ht ⟨g',rfl,o2,i2,j2,g2,ca,cb,rfl,M2,q1,q2,q3⟩;show wpS _ _ _ _ (wg u v (none,i2,j2,o2,g2,ca,cb)) _ _;unfold wg;dsimp only
    split
    ·exact uw L (st:=aO st' g') hk P M2 q1 q2 (fun z r hz=>⟨_,rfl,.inl ⟨z,r,rfl,hz⟩⟩) fun o3 i3 j3 g3 ca3 cb3 M3 k1 k2 k3=>⟨⟨_,rfl,.inr ⟨o3,i3,j3,g3,ca3,cb3,rfl,M3,k1,k2,by lia⟩⟩,_,rfl,o3,i3,j3,g3,ca3,cb3,rfl,M3,k1,k2,by lia⟩
    ·exact uw L (st:=aO st' g') hk P M2 q1 q2 (fun z r hz=>⟨_,rfl,.inl ⟨z,r,rfl,hz⟩⟩) fun o3 i3 j3 g3 ca3 cb3 M3 k1 k2 k3=>⟨⟨_,rfl,.inr ⟨o3,i3,j3,g3,ca3,cb3,rfl,M3,k1,k2,by lia⟩⟩,_,rfl,o3,i3,j3,g3,ca3,cb3,rfl,M3,k1,k2,by lia⟩
   case gpost =>
    rintro c st'' ⟨g',rfl,h⟩;rcases h with⟨z,r,rfl,hz⟩ | ⟨o2,i2,j2,g2,ca,cb,rfl,M2,q1,q2,q3⟩
    ·exact GY (hd z _ g' hz)
    ·dsimp only;exact GP (wpS_modify (GY (hn o2 i2 j2 _ _ M2 q1 q2 q3)))
theorem FK (L:cW prog w A E s a₀ κ key){u v:Array Keyed}{st:SortSt}{Q:Array Keyed→SortSt→Prop}(hk:kindOf st=κ)(P:Pre a₀ key u v)(hd:∀ z g',Res key u v z→Q z (aO st g')):wpS (model prog w) A E s (hiP u v) Q st:=by
 rw[Ey];refine GP (wpS_lift (wpAny_rule ⟨rfl,?_⟩));have hu:=P.hu;have hv:=P.hv;have e2:u[u.size - 1]? = some u[u.size - 1]:=GD (by omega);refine GP (cJ e2 ?_);have tu:u.toList.take u.size=u.toList:=GV (by simp);have tv:v.toList.take v.size=v.toList:=GV (by simp);have M0:HI key u v #[] u.size v.size:=⟨by rw[tu,tv];simp,by rw[tu];simpa using kq.mpr P.su,by rw[tv];simpa using kq.mpr P.sv,GB _,GB _⟩;have M:HI key u v #[u[u.size - 1]] (u.size - 1) v.size:=M0.takeA (by have:=jk #[] u (by omega) e2;simpa using this) (by simp) fun x hx y hy=>by
  obtain⟨r,r1,r2,r3⟩:=eW hx;obtain⟨t,t1,t2,t3,t4⟩:=eV hy;have et:t=u.size - 1:=by lia
  rw[et]at t4;have a1:=P.sv r (v.size - 1) (GF _) (by lia) (by lia);have a2:=P.last;rw[ao t4]at a2;rw[ao r3]at a1
  lia
 by_cases c1:u.size - 1=0
 ·rw[if_pos (by simpa using c1)];exact GY (hd _ (gallopOf st) (kP M (.inl c1)))
 ·rw[if_neg (by simpa using c1)];by_cases c2:v.size=1
  ·rw[if_pos (by simpa using c2)];exact GY (hd _ (gallopOf st) (nQ M (P.firstB c2)))
  ·rw[if_neg (by simpa using c2)];refine GP (wpS_get ?_);refine GP (Jx (wpS_forRange (I:=fun t c st'=>∃ g',st'=aO st g'∧∃ o i j g,c=(none,i,j,o,g)∧HI key u v o i j∧1≤i∧2≤j∧t < o.size)
    (Q:=fun c st'=>∃ g',st'=aO st g'∧∃ z r,c=(some z,r)∧Res key u v z) ?step ?fin ⟨gallopOf st,rfl,#[u[u.size - 1]],u.size - 1,v.size,_,rfl,M,by lia,by lia,by simp⟩) ?post)
   case fin =>
    rintro c st' ⟨g',rfl,o,i,j,g,rfl,M',h1,h2,h3⟩
    have:=M'.len
    lia
   case step =>
    rintro t c st' _ ht ⟨g',rfl,o,i,j,g,rfl,M',h1,h2,h3⟩;exact vE L (st:=aO st g') hk P M' h1 h2 (fun z r g2 hz=>⟨g2,rfl,z,r,rfl,hz⟩) fun o2 i2 j2 g2 g3 M2 q1 q2 q3=>⟨g3,rfl,o2,i2,j2,g2,rfl,M2,q1,q2,by lia⟩
   case post =>
    rintro c st' ⟨g',rfl,z,r,rfl,hz⟩;exact GY (hd z g' hz)
end
section
variable {w:World}
abbrev Sa:=Option (Option Nat) × Nat
abbrev Sd:=Option (Option Nat) × Nat × Nat
def wU (lo a n:Nat):StateT SortSt Sem Sa :=
 forIn [a:n] ((none,a):Sa) fun _ r=>do
  let z ← ltAt' (lo + r.2) (lo + r.2 - 1)
  match z with
  | some less=>if less=true then pure (.done (none,r.2)) else pure (.yield (none,r.2 + 1))
  | _=>pure (.done (some none,r.2))
def Br (lo a n:Nat):StateT SortSt Sem Sd :=
 forIn [a:n] ((none,a,0):Sd) fun _ r=>do
  let z ← ltAt' (lo + r.2.1) (lo + r.2.1 - 1)
  match z with
  | some less =>
   if less=true then
    if r.2.2 > 0 then do
     reverseSlice' (lo + r.2.1 - (r.2.2 + 1)) (lo + r.2.1)
     pure (.yield (none,r.2.1 + 1,0))
    else pure (.yield (none,r.2.1 + 1,0))
   else do
    let y ← ltAt' (lo + r.2.1 - 1) (lo + r.2.1)
    match y with
    | some more=>if more=true then pure (.done (none,r.2.1,r.2.2)) else pure (.yield (none,r.2.1 + 1,r.2.2 + 1))
    | _=>pure (.done (some none,r.2.1,r.2.2))
  | _=>pure (.done (some none,r.2.1,r.2.2))
def nA (lo m n:Nat):StateT SortSt Sem (Option Nat):=do
 reverseSlice' lo (lo + m)
 let r ← wU lo m n
 match r.1 with
 | some v=>pure v
 | none=>pure (some r.2)
def kQ (lo m n:Nat):StateT SortSt Sem (Option Nat):=do
 liftM (rule "list.sort.descending-run")
 let r ← Br lo (m + 1) n
 match r.1 with
 | some v=>pure v
 | none =>
  if r.2.2 > 0 then do
   reverseSlice' (lo + r.2.1 - (r.2.2 + 1)) (lo + r.2.1)
   nA lo r.2.1 n
  else nA lo r.2.1 n
theorem DW (lo n:Nat):countRun' lo n=(do
  let r ← wU lo 1 n
  match r.1 with
  | some v=>pure v
  | none =>
   if (r.2 == n)=true then pure (some r.2)
   else if r.2 > 1 then do
    let z ← ltAt' lo (lo + r.2 - 1)
    match z with
    | some up=>if up=true then pure (some r.2) else do
      reverseSlice' lo (lo + r.2)
      kQ lo r.2 n
    | _=>pure none
   else kQ lo r.2 n):=by
 kernel_rfl
def Fal (key:Keyed→Int)(xs:Array Keyed)(lo hi:Nat):Prop:=∀ i j,lo≤i→i≤j→j < hi→kat key xs j≤kat key xs i
def Off (xs ys:Array Keyed)(lo hi:Nat):Prop:=∀ t,(t < lo∨hi≤t)→ys[t]? = xs[t]?
theorem Off.refl (xs:Array Keyed)(lo hi:Nat):Off xs xs lo hi:=fun _ _=>rfl
theorem Off.trans {xs ys zs:Array Keyed}{lo hi:Nat}(h:Off xs ys lo hi)(g:Off ys zs lo hi):Off xs zs lo hi:=fun t ht=>(g t ht).trans (h t ht)
theorem r_ {xs:Array Keyed}{i j:Nat}(hj:j≤xs.size)(k:Nat):kat key (mirror xs i j ((j - i) / 2)) k=if i≤k∧k < j then kat key xs (i + j - 1 - k) else kat key xs k:=by
 have e:=getElem?_mirror_all (i:=i) hj k;by_cases h1:i≤k∧k < j
 ·rw[if_pos h1]at e ⊢;exact fN e
 ·rw[if_neg h1]at e ⊢;exact fN e
theorem nF {xs:Array Keyed}{i j lo hi:Nat}(hj:j≤xs.size)(h1:lo≤i)(h2:j≤hi):Off xs (mirror xs i j ((j - i) / 2)) lo hi:=fun t ht=>by
 rw[getElem?_mirror_all hj,if_neg (by lia)]
theorem dv {xs:Array Keyed}{i j:Nat}(hj:j≤xs.size)(he:∀ k,i≤k→k < j→kat key xs k=kat key xs (j - 1))(k:Nat):kat key (mirror xs i j ((j - i) / 2)) k=kat key xs k:=by
 rw[r_ hj]
 split
 ·rw[he _ (by lia) (by lia),he k (by lia) (by lia)]
 ·rfl
theorem rD {st:SortSt}{i j:Nat}{Q:Unit→SortSt→Prop}(h:Q () (setArr st (mirror (arrOf st) i j ((j - i) / 2)))):wpS (model prog w) A E s (reverseSlice' i j) Q st:=by
 rw[reverseSlice'_eq];exact wpS_modify h
theorem wT (L:cW prog w A E s a₀ κ key){lo a n:Nat}{st:SortSt}{Q:Sa→SortSt→Prop}(hB:SB a₀ κ st)(hz:lo + n≤a₀.size)(h1:1≤a)(han:a≤n)(hs:Seg key (arrOf st) lo (lo + a))
  (h:∀ m,a≤m→m≤n→Seg key (arrOf st) lo (lo + m)→(m=n∨kat key (arrOf st) (lo + m) < kat key (arrOf st) (lo + m - 1))→Q (none,m) st):wpS (model prog w) A E s (wU lo a n) Q st:=by
 unfold wU;refine wpS_forRange (I:=fun t c st'=>st'=st∧c=(none,t)∧Seg key (arrOf st) lo (lo + t)) ?step ?fin ⟨rfl,rfl,hs⟩
 case fin =>
  rintro c st' ⟨rfl,rfl,hs'⟩;rw[show max a n=n by lia]at hs' ⊢;exact h n han (GB _) hs' (.inl rfl)
 case step =>
  rintro t c st' ht htn ⟨rfl,rfl,hs'⟩;refine GP (kK L hB (by dsimp only;lia) (by dsimp only;lia) ?_);dsimp only;by_cases e:kat key (arrOf st') (lo + t) < kat key (arrOf st') (lo + t - 1)
  ·rw[if_pos (GH e)];exact GY (h t ht (by lia) hs' (.inr e))
  ·rw[if_neg (by simpa using e)];refine GY ⟨rfl,rfl,fun i j x y z =>?_⟩;by_cases q:j < lo + t
   ·exact hs' i j x y q
   ·have ej:j=lo + t:=by lia
    subst ej;by_cases q2:i=lo + t
    ·rw[q2];exact Ic _
    ·have:=hs' i (lo + t - 1) x (by lia) (by lia)
     lia
theorem oz (L:cW prog w A E s a₀ κ key){lo m n:Nat}{st:SortSt}{Q:Option Nat→SortSt→Prop}(hB:SB a₀ κ st)(hz:lo + n≤a₀.size)(h1:1≤m)(hmn:m≤n)(hs:Fal key (arrOf st) lo (lo + m))
  (h:∀ k xs,1≤k→k≤n→xs.Perm (arrOf st)→Off (arrOf st) xs lo (lo + n)→Seg key xs lo (lo + k)→Q (some k) (setArr st xs)):wpS (model prog w) A E s (nA lo m n) Q st:=by
 unfold nA;have hsz:lo + m≤(arrOf st).size:=by rw[hB.size];lia
 refine GP (rD ?_);have hp:(mirror (arrOf st) lo (lo + m) ((lo + m - lo) / 2)).Perm (arrOf st):=mirror_perm _ _ _ _;have hB':=hB.set hp;refine GP (wT L hB' hz h1 hmn (fun i j x y z =>?_) fun k k1 k2 k3 _=>GY (h k _ (by lia) k2 hp (nF hsz (by simp) (by lia)) k3));show kat key (mirror (arrOf st) lo (lo + m) ((lo + m - lo) / 2)) i≤kat key (mirror (arrOf st) lo (lo + m) ((lo + m - lo) / 2)) j;rw[r_ hsz,r_ hsz,if_pos (by lia),if_pos (by lia)];exact hs _ _ (by lia) (by lia) (by lia)
theorem C5 (L:cW prog w A E s a₀ κ key){lo a n:Nat}{st:SortSt}{Q:Sd→SortSt→Prop}(hB:SB a₀ κ st)(hz:lo + n≤a₀.size)(h1:1≤a)(han:a≤n)(hs:Fal key (arrOf st) lo (lo + a))
  (h:∀ m q xs,a≤m→m≤n→xs.Perm (arrOf st)→Off (arrOf st) xs lo (lo + n)→Fal key xs lo (lo + m)→q + 1≤m→(∀ i,lo + m - (q + 1)≤i→i < lo + m→kat key xs i=kat key xs (lo + m - 1))→Q (none,m,q) (setArr st xs)):wpS (model prog w) A E s (Br lo a n) Q st:=by
 unfold Br;refine wpS_forRange (I:=fun t c st'=>∃ q xs,st'=setArr st xs∧c=(none,t,q)∧xs.Perm (arrOf st)∧Off (arrOf st) xs lo (lo + n)∧Fal key xs lo (lo + t)∧q + 1≤t∧∀ i,lo + t - (q + 1)≤i→i < lo + t→kat key xs i=kat key xs (lo + t - 1)) ?step ?fin
  ⟨0,arrOf st,rfl,rfl,Array.Perm.refl _,Off.refl _ _ _,hs,by omega,fun i x y=>by congr 1;lia⟩
 case fin =>
  rintro c st' ⟨q,xs,rfl,rfl,hp,ho,hf,hq,he⟩;rw[show max a n=n by lia]at hf hq he ⊢;exact h n q xs han (GB _) hp ho hf hq he
 case step =>
  rintro t c st' ht htn ⟨q,xs,rfl,rfl,hp,ho,hf,hq,he⟩;have hB':=hB.set hp;have hsz:lo + t≤xs.size:=by rw[hp.size_eq,hB.size];lia
  refine GP (kK L hB' (by dsimp only;lia) (by dsimp only;lia) ?_);dsimp only;show wpS _ _ _ _ (if decide (kat key xs (lo + t) < kat key xs (lo + t - 1))=true then _ else _) _ _;by_cases e:kat key xs (lo + t) < kat key xs (lo + t - 1)
  ·rw[if_pos (GH e)];have step1:∀ ys:Array Keyed,(∀ k,kat key ys k=kat key xs k)→Fal key ys lo (lo + (t + 1)):=by
    intro ys hk i j x y z;rw[hk,hk];by_cases r:j < lo + t
    ·exact hf i j x y r
    ·have ej:j=lo + t:=by lia
     subst ej;by_cases q2:i=lo + t
     ·rw[q2];exact Ic _
     ·have:=hf i (lo + t - 1) x (by lia) (by lia)
      lia
   by_cases hq0:q > 0
   ·rw[if_pos hq0];refine GP (rD (GY ⟨0,mirror xs (lo + t - (q + 1)) (lo + t) ((lo + t - (lo + t - (q + 1))) / 2),rfl,rfl,(mirror_perm _ _ _ _).trans hp,ho.trans (nF hsz (by lia) (by lia)),step1 _ (dv hsz he),by simp,fun i x y=>by congr 1;lia⟩))
   ·rw[if_neg hq0];exact GY ⟨0,xs,rfl,rfl,hp,ho,step1 _ (fun _=>rfl),by simp,fun i x y=>by congr 1;lia⟩
  ·rw[if_neg (by simpa using e)];refine GP (kK L hB' (by lia) (by lia) ?_);dsimp only;show wpS _ _ _ _ (if decide (kat key xs (lo + t - 1) < kat key xs (lo + t))=true then _ else _) _ _;by_cases e2:kat key xs (lo + t - 1) < kat key xs (lo + t)
   ·rw[if_pos (GH e2)];exact GY (h t q xs ht (by lia) hp ho hf hq he)
   ·rw[if_neg (by simpa using e2)];have eq:kat key xs (lo + t)=kat key xs (lo + t - 1):=by lia
    refine GY ⟨q + 1,xs,rfl,rfl,hp,ho,fun i j x y z =>?_,by lia,fun i x y =>?_⟩
    ·by_cases r:j < lo + t
     ·exact hf i j x y r
     ·have ej:j=lo + t:=by lia
      subst ej;by_cases q2:i=lo + t
      ·rw[q2];exact Ic _
      ·rw[eq];exact hf i (lo + t - 1) x (by lia) (by lia)
    ·rw[show lo + (t + 1) - 1=lo + t by rfl];by_cases q2:i=lo + t
     ·rw[q2]
     ·rw[eq];exact he i (by lia) (by lia)
theorem mF (L:cW prog w A E s a₀ κ key){lo m n:Nat}{st:SortSt}{Q:Option Nat→SortSt→Prop}(hB:SB a₀ κ st)(hz:lo + n≤a₀.size)(hmn:m + 1≤n)(hs:Fal key (arrOf st) lo (lo + (m + 1)))
  (h:∀ k xs,1≤k→k≤n→xs.Perm (arrOf st)→Off (arrOf st) xs lo (lo + n)→Seg key xs lo (lo + k)→Q (some k) (setArr st xs)):wpS (model prog w) A E s (kQ lo m n) Q st:=by
 unfold kQ;refine GP (wpS_lift (wpAny_rule ⟨rfl,?_⟩));refine GP (C5 L hB hz (by simp) hmn hs fun k q xs k1 k2 hp ho hf hq he =>?_);dsimp only;have hsz:lo + k≤xs.size:=by rw[hp.size_eq,hB.size];lia
 by_cases hq0:q > 0
 ·rw[if_pos hq0];refine GP (rD ?_);have hp2:(mirror xs (lo + k - (q + 1)) (lo + k) ((lo + k - (lo + k - (q + 1))) / 2)).Perm (arrOf st):=(mirror_perm _ _ _ _).trans hp;refine oz L (st:=setArr st (mirror xs (lo + k - (q + 1)) (lo + k) ((lo + k - (lo + k - (q + 1))) / 2))) (hB.set hp2) hz (by lia) k2 (fun i j x y z =>?_) fun r ys r1 r2 r3 r4 r5=>h r ys r1 r2 (r3.trans hp2) ((ho.trans (nF hsz (by lia) (by lia))).trans r4) r5;show kat key (mirror xs _ _ _) j≤kat key (mirror xs _ _ _) i;rw[dv hsz he,dv hsz he];exact hf i j x y z
 ·rw[if_neg hq0];exact oz L (st:=setArr st xs) (hB.set hp) hz (by lia) k2 hf fun r ys r1 r2 r3 r4 r5=>h r ys r1 r2 (r3.trans hp) (ho.trans r4) r5
theorem DU (L:cW prog w A E s a₀ κ key){lo n:Nat}{st:SortSt}{Q:Option Nat→SortSt→Prop}(hB:SB a₀ κ st)(hz:lo + n≤a₀.size)(h1:1≤n)
  (h:∀ k xs,1≤k→k≤n→xs.Perm (arrOf st)→Off (arrOf st) xs lo (lo + n)→Seg key xs lo (lo + k)→Q (some k) (setArr st xs)):wpS (model prog w) A E s (countRun' lo n) Q st:=by
 rw[DW];refine GP (wT L hB hz (GB 1) h1 (fun i j x y z=>by rw[show i=j by lia];exact Ic _) fun m m1 m2 hsm hor =>?_);dsimp only;by_cases e:m=n
 ·rw[if_pos (by simpa using e)];exact GY (h m (arrOf st) m1 m2 (Array.Perm.refl _) (Off.refl _ _ _) hsm)
 ·rw[if_neg (by simpa using e)];have lt:kat key (arrOf st) (lo + m) < kat key (arrOf st) (lo + m - 1):=hor.resolve_left e;by_cases g:m > 1
  ·rw[if_pos g];refine GP (kK L hB (by lia) (by lia) ?_);dsimp only;by_cases c:kat key (arrOf st) lo < kat key (arrOf st) (lo + m - 1)
   ·rw[if_pos (GH c)];exact GY (h m (arrOf st) m1 m2 (Array.Perm.refl _) (Off.refl _ _ _) hsm)
   ·rw[if_neg (by simpa using c)];have hsz:lo + m≤(arrOf st).size:=by rw[hB.size];lia
    have all:∀ k,lo≤k→k < lo + m→kat key (arrOf st) k=kat key (arrOf st) (lo + m - 1):=by
     intro k x y;have a1:=hsm lo k (GB _) x y;have a2:=hsm k (lo + m - 1) x (by lia) (by lia)
     lia
    refine GP (rD ?_);have hp:(mirror (arrOf st) lo (lo + m) ((lo + m - lo) / 2)).Perm (arrOf st):=mirror_perm _ _ _ _;refine mF L (hB.set hp) hz (by lia) (fun i j x y z =>?_) fun r ys r1 r2 r3 r4 r5=>h r ys r1 r2 (r3.trans hp) ((nF hsz (by simp) (by lia)).trans r4) r5;show kat key (mirror (arrOf st) _ _ _) j≤kat key (mirror (arrOf st) _ _ _) i;rw[dv hsz all,dv hsz all];by_cases q:j < lo + m
    ·rw[all i x (by lia),all j (by lia) q];exact Ic _
    ·have ej:j=lo + m:=by lia
     subst ej;by_cases q2:i=lo + m
     ·rw[q2];exact Ic _
     ·rw[all i x (by lia)];lia
  ·rw[if_neg g];have em:m=1:=by lia
   subst em;refine mF L hB hz (by lia) (fun i j x y z =>?_) h;by_cases q:i=j
   ·rw[q];exact Ic _
   ·have ei:i=lo:=by lia
    have ej:j=lo + 1:=by lia
    subst ei;subst ej
    have:i + 1 - 1=i:=by simp
    rw[this]at lt
    lia
end
section
variable {w:World}
theorem xq {xs:Array Keyed}{src d:Nat}(hs:src < xs.size)(hd:d≤src)(k:Nat):kat key (bubble xs src d) k=if k=src - d then kat key xs src else if src - d < k∧k≤src then kat key xs (k - 1) else kat key xs k:=by
 have e:=getElem?_bubble hs d hd k;by_cases h1:k=src - d
 ·rw[if_pos h1]at e ⊢;exact fN e
 ·rw[if_neg h1]at e ⊢;by_cases h2:src - d < k∧k≤src
  ·rw[if_pos h2]at e ⊢;exact fN e
  ·rw[if_neg h2]at e ⊢;exact fN e
def Bn (lo k:Nat):StateT SortSt Sem (Option Bool × Nat × Nat) :=
 forIn [0:k] ((none,0,k):Option Bool × Nat × Nat) fun _ r =>
  if r.2.1 ≥ r.2.2 then pure (.done (none,r.2.1,r.2.2)) else do
   let z ← ltAt' (lo + k) (lo + (r.2.1 + r.2.2) / 2)
   match z with
   | some less=>if less=true then pure (.yield (none,r.2.1,(r.2.1 + r.2.2) / 2)) else pure (.yield (none,(r.2.1 + r.2.2) / 2 + 1,r.2.2))
   | _=>pure (.done (some false,r.2.1,r.2.2))
def FF (lo n ok:Nat):StateT SortSt Sem (Option Bool × Unit) :=
 forIn [max ok 1:n] ((none,()):Option Bool × Unit) fun k _=>do
  let r ← Bn lo k
  match r.1 with
  | some v=>pure (.done (some v,()))
  | none=>do
   moveDown' (lo + k) (lo + r.2.1)
   pure (.yield (none,()))
theorem Ex (lo n ok:Nat):binarySort' lo n ok=(do
  let r ← FF lo n ok
  match r.1 with
  | some v=>pure v
  | none=>pure true):=by kernel_rfl
theorem C3 (L:cW prog w A E s a₀ κ key){lo k:Nat}{st:SortSt}{Q:Option Bool × Nat × Nat→SortSt→Prop}(hB:SB a₀ κ st)(hz:lo + k < a₀.size)(hs:Seg key (arrOf st) lo (lo + k))
  (h:∀ l,l≤k→(∀ i,lo≤i→i < lo + l→kat key (arrOf st) i≤kat key (arrOf st) (lo + k))→(∀ i,lo + l≤i→i < lo + k→kat key (arrOf st) (lo + k) < kat key (arrOf st) i)→Q (none,l,l) st):wpS (model prog w) A E s (Bn lo k) Q st:=by
 unfold Bn;refine wpS_forRange (I:=fun t c st'=>st'=st∧∃ l r,c=(none,l,r)∧l≤r∧r≤k∧r - l≤k - t∧(∀ i,lo≤i→i < lo + l→kat key (arrOf st) i≤kat key (arrOf st) (lo + k))∧(∀ i,lo + r≤i→i < lo + k→kat key (arrOf st) (lo + k) < kat key (arrOf st) i)) ?step ?fin
  ⟨rfl,0,k,rfl,by simp,by simp,by simp,fun i x y=>by lia,fun i x y=>by lia⟩
 case fin =>
  rintro c st' ⟨rfl,l,r,rfl,h1,h2,h3,h4,h5⟩;have e:l=r:=by lia
  subst e;exact h l h2 h4 h5
 case step =>
  rintro t c st' _ ht ⟨rfl,l,r,rfl,h1,h2,h3,h4,h5⟩;dsimp only;by_cases e:l ≥ r
  ·rw[if_pos e];have e':l=r:=by lia
   subst e';exact GY (h l h2 h4 h5)
  ·rw[if_neg e];refine GP (kK L hB hz (by lia) ?_);dsimp only;by_cases c:kat key (arrOf st') (lo + k) < kat key (arrOf st') (lo + (l + r) / 2)
   ·rw[if_pos (GH c)];refine GY ⟨rfl,_,_,rfl,by lia,by lia,by lia,h4,fun i x y =>?_⟩
    have:=hs (lo + (l + r) / 2) i (by simp) x y
    lia
   ·rw[if_neg (by simpa using c)];refine GY ⟨rfl,_,_,rfl,by lia,by omega,by lia,fun i x y =>?_,h5⟩
    have:=hs i (lo + (l + r) / 2) x (by lia) (by lia)
    lia
theorem Dd {xs:Array Keyed}{lo p q:Nat}(h1:lo≤q)(h2:q≤p)(hks:p < xs.size)(hs:Seg key xs lo p)(h4:∀ i,lo≤i→i < q→kat key xs i≤kat key xs p)(h5:∀ i,q≤i→i < p→kat key xs p < kat key xs i):Seg key (bubble xs p (p - q)) lo (p + 1):=by
 intro i j x y z;rw[xq hks (Nat.sub_le _ _),xq hks (Nat.sub_le _ _),show p - (p - q)=q from Nat.sub_sub_self h2]
 clear hks
 repeat' split
 all_goals first
  | (exfalso;lia)
  | exact Ic _
  | exact h4 _ (by omega) (by lia)
  | exact Int.le_of_lt (h5 _ (by lia) (by lia))
  | exact hs _ _ (by lia) (by lia) (by lia)
theorem Ew (L:cW prog w A E s a₀ κ key){lo n ok:Nat}{st:SortSt}{Q:Bool→SortSt→Prop}(hB:SB a₀ κ st)(hz:lo + n≤a₀.size)(hok:ok≤n)(hs:Seg key (arrOf st) lo (lo + ok))
  (h:∀ xs,xs.Perm (arrOf st)→Off (arrOf st) xs lo (lo + n)→Seg key xs lo (lo + n)→Q true (setArr st xs)):wpS (model prog w) A E s (binarySort' lo n ok) Q st:=by
 rw[Ex];unfold FF;refine GP (Jx (wpS_forRange (I:=fun t c st'=>c=(none,())∧∃ xs,st'=setArr st xs∧xs.Perm (arrOf st)∧Off (arrOf st) xs lo (lo + n)∧Seg key xs lo (lo + min t n))
  (Q:=fun c st'=>c=(none,())∧∃ xs,st'=setArr st xs∧xs.Perm (arrOf st)∧Off (arrOf st) xs lo (lo + n)∧Seg key xs lo (lo + n)) ?step ?fin ?init) ?post)
 case post =>
  rintro c st' ⟨rfl,xs,rfl,hp,ho,hs'⟩;exact GY (h xs hp ho hs')
 case init =>
  refine⟨rfl,arrOf st,rfl,Array.Perm.refl _,Off.refl _ _ _,fun i j x y z =>?_⟩;by_cases h1:ok=0
  ·rw[show i=j by lia];exact Ic _
  ·exact hs i j x y (by lia)
 case fin =>
  rintro c st' ⟨rfl,xs,rfl,hp,ho,hs'⟩;refine⟨rfl,xs,rfl,hp,ho,?_⟩
  rwa [show min (max (max ok 1) n) n=n by lia]at hs'
 case step =>
  rintro k c st' hk hkn ⟨rfl,xs,rfl,hp,ho,hs'⟩;rw[show min k n=k by lia]at hs';have hB':=hB.set hp;refine GP (C3 L hB' (by lia) hs' fun l hl h4 h5 =>?_);dsimp only;rw[moveDown'_eq];refine GP (wpS_modify (GY ⟨rfl,bubble xs (lo + k) (lo + k - (lo + l)),rfl,(bubble_perm _ _ _).trans hp,?_,?_⟩))
  ·have hks:lo + k < xs.size:=by rw[hp.size_eq,hB.size];lia
   refine ho.trans fun t ht =>?_;rw[getElem?_bubble hks _ (by simp),if_neg (by lia),if_neg (by lia)]
  ·rw[show min (k + 1) n=k + 1 by lia];have hks:lo + k < xs.size:=by rw[hp.size_eq,hB.size];lia
   exact Dd (Jh _ _) (by lia) hks hs' h4 h5
def iI (xs:Array Keyed)(p:Nat)(z:List Keyed):Array Keyed:=z.zipIdx.foldl (fun a q=>a.setIfInBounds (p + q.2) q.1) xs
theorem sW (p:Nat):∀ (z:List Keyed) (n:Nat) (xs:Array Keyed),p + n + z.length≤xs.size→∀ t:Nat,((z.zipIdx n).foldl (fun a q=>a.setIfInBounds (p + q.2) q.1) xs)[t]? = if p + n≤t∧t < p + n + z.length then z[t - (p + n)]? else xs[t]?
 | [],n,xs,_,t=>by
  rw[if_neg (by simp)];rfl
 | x::z,n,xs,h,t=>by
  rw[List.zipIdx_cons,IT];have hl:(x::z).length=z.length + 1:=rfl;rw[sW p z (n + 1) _ (by rw[Array.size_setIfInBounds];lia) t];by_cases c:p + n≤t∧t < p + n + (x::z).length
  ·rw[if_pos c];by_cases c2:t=p + n
   ·rw[if_neg (by lia),c2]
    have:p + n < xs.size:=by lia
    simp[Jp,this]
   ·rw[if_pos (by lia)];have e:t - (p + n)=t - (p + (n + 1)) + 1:=by lia
    rw[e,List.getElem?_cons_succ]
  ·rw[if_neg c,if_neg (by lia),Jp]
   have:p + n≠t:=by lia
   simp[this]
theorem jw {xs:Array Keyed}{p:Nat}{z:List Keyed}(h:p + z.length≤xs.size)(t:Nat):(iI xs p z)[t]? = if p≤t∧t < p + z.length then z[t - p]? else xs[t]? := by
 have:=sW p z 0 xs (by omega) t
 simpa[iI] using this
theorem ve {xs:Array Keyed}{p:Nat}{z:List Keyed}(h:p + z.length≤xs.size):(iI xs p z).toList=xs.toList.take p++z++xs.toList.drop (p + z.length):=by
 refine I9 fun t =>?_;rw[HD,jw h];have lt:(xs.toList.take p).length=p:=by simp;lia
 by_cases c1:t < p
 ·rw[if_neg (by lia),GT,Hf (by rw[lt];exact c1),List.getElem?_take_of_lt c1,HD]
 ·by_cases c2:t < p + z.length
  ·rw[if_pos ⟨by lia,c2⟩,Hf (by rw[GE,lt];omega),Hm (by rw[lt];lia),lt]
  ·rw[if_neg (by lia),Hm (by rw[GE,lt];lia),GE,lt,JA,HD]
   congr 1
   lia
abbrev fz (st:SortSt)(p:Array (Nat × Nat × Nat)):SortSt:=SortSt.mk' (kindOf st) (arrOf st) p (gallopOf st) (failedOf st)
theorem CZ (i:Nat):mergeAt' i=(do
  let st ← get
  match (pendingOf st)[i]?,(pendingOf st)[i + 1]? with
  | some (sa,na,pw),some (sb,nb,_)=>do
   set (fz st (((pendingOf st).setIfInBounds i (sa,na + nb,pw)).eraseIdxIfInBounds (i + 1)))
   let y ← elem' (arrOf st) sb
   let z ← e_ false y (arrOf st) sa na 0
   match z with
   | some k =>
    if (na - k == 0)=true then pure true else do
     let x ← elem' (arrOf st) (sa + k + (na - k) - 1)
     let r ← e_ true x (arrOf st) sb nb (nb - 1)
     match r with
     | some m =>
      if (m == 0)=true then pure true else do
       let t ← if na - k≤m then loP ((arrOf st).extract (sa + k) sb) ((arrOf st).extract sb (sb + m)) else hiP ((arrOf st).extract (sa + k) sb) ((arrOf st).extract sb (sb + m))
       modify fun st=>setArr st (iI (arrOf st) (sa + k) t.toList)
       let st ← get
       pure (failedOf st).isNone
     | _=>pure false
   | _=>pure false
  | _,_=>liftM (unsupported "internal:list.sort.pending" : Sem Bool)):=by
 kernel_rfl
end
section
variable {w:World}
abbrev Tri:=Nat × Nat × Nat
theorem Cy {p:Array Tri}{l1 l2:List Tri}{a b:Tri}(h:p.toList=l1++a::b::l2):p[l1.length]? = some a∧p[l1.length + 1]? = some b:=by
 rw[← HD,← HD,h];constructor
 ·rw[Hm (GB _)];simp
 ·rw[Hm (by simp)];simp
theorem Aj {p:Array Tri}{l1 l2:List Tri}{a b c:Tri}(h:p.toList=l1++a::b::l2):((p.setIfInBounds l1.length c).eraseIdxIfInBounds (l1.length + 1)).toList=l1++c::l2:=by
 have hs:p.size=l1.length + (l2.length + 2):=by rw[← G5,h];simp
 rw[Array.eraseIdxIfInBounds,dif_pos (by rw[Array.size_setIfInBounds];lia),Array.toList_eraseIdx,Array.toList_setIfInBounds,h];rw[List.set_append_right _ _ (GB _),JI,List.set_cons_zero,List.eraseIdx_append_of_length_le (by simp)];simp
theorem fZ {xs:Array Keyed}{a b i:Nat}(hb:b≤xs.size)(hi:a + i < b):kat key (xs.extract a b) i=kat key xs (a + i):=by
 apply fN
 rw[Array.getElem?_extract];simp
 lia
theorem kR {xs:Array Keyed}{a b:Nat}(hb:b≤xs.size):(xs.extract a b).size=b - a:=by
 rw[Array.size_extract];lia
theorem xF {xs:Array Keyed}{a b:Nat}{y:Keyed}(h:y∈(xs.extract a b).toList):y∈xs.toList:=by
 rw[gW]at h;exact HR (Jl h)
theorem merged {xs z:Array Keyed}{lo p q r hi:Nat}(h1:lo≤p)(h2:p≤q)(h3:q≤r)(h4:r≤hi)(h5:hi≤xs.size)(R:Res key (xs.extract p q) (xs.extract q r) z)(s1:Seg key xs lo q)(s2:Seg key xs q hi)
  (lo1:∀ t,lo≤t→t < p→kat key xs t≤kat key xs q) (up2:∀ t,r≤t→t < hi→kat key xs (q - 1)≤kat key xs t):(iI xs p z.toList).Perm xs∧Off xs (iI xs p z.toList) lo hi∧Seg key (iI xs p z.toList) lo hi:=by
 obtain⟨zp,zs⟩:=R;have zl:z.toList.length=r - p:=by
  have e:=zp.length_eq;simp only[GE,G5]at e ⊢;rw[kR (by lia),kR (by lia)]at e
  lia
 have hfit:p + z.toList.length≤xs.size:=by lia
 have em:xs.toList=xs.toList.take p++((xs.extract p q).toList++(xs.extract q r).toList)++xs.toList.drop (p + z.toList.length):=by
  rw[gW,gW];have a1:(xs.toList.take q).drop p++(xs.toList.take r).drop q=(xs.toList.drop p).take z.toList.length:=by
   rw[Jc,Jc,show z.toList.length=(q - p) + (r - q) by lia,List.take_add,JD,show p + (q - p)=q by lia]
  have a2:(xs.toList.drop p).take z.toList.length++xs.toList.drop (p + z.toList.length)=xs.toList.drop p:=by
   have:=Hi z.toList.length (xs.toList.drop p)
   rwa [JD]at this
  rw[a1,GT,a2];exact (Hi _ _).symm
 have zseg:Seg key z 0 z.size:=kq.mp zs;have old:∀ t,(t < p∨r≤t)→kat key (iI xs p z.toList) t=kat key xs t:=fun t ht=>fN (by rw[jw hfit,if_neg (by lia)]);have kz:∀ t,p≤t→t < r→∃ x,x∈z.toList∧(iI xs p z.toList)[t]? = some x∧z[t - p]? = some x:=fun t t1 t2=>by
  have hlt:t - p < z.toList.length:=by lia
  refine⟨z.toList[t - p],List.getElem_mem hlt,?_,?_⟩
  ·rw[jw hfit,if_pos ⟨t1,by lia⟩];exact G0 hlt
  ·rw[← HD];exact G0 hlt
 have from2:∀ x∈z.toList,∃ t,((p≤t∧t < q)∨(q≤t∧t < r))∧key x=kat key xs t:=fun x hx=>by
  rcases GS.mp (zp.mem_iff.mp hx) with hx|hx
  ·rw[gW]at hx;obtain⟨t,t1,t2,t3,t4⟩:=eV hx;exact⟨t,.inl ⟨t1,t2⟩,(ao t4).symm⟩
  ·rw[gW]at hx;obtain⟨t,t1,t2,t3,t4⟩:=eV hx;exact⟨t,.inr ⟨t1,t2⟩,(ao t4).symm⟩
 refine⟨?_,fun t ht=>by rw[jw hfit,if_neg (by lia)],?_⟩
 ·rw[HV,ve hfit]
  conv=>rhs;rw[em]
  exact List.Perm.append_right _ (List.Perm.append_left _ zp)
 have zz2:z.size=r - p:=by rw[← G5];exact zl
 clear em hfit zl
 intro i j x y zz;by_cases i1:i < p
 ·rw[old i (.inl i1)];by_cases j1:j < p
  ·rw[old j (.inl j1)];exact s1 i j x y (GK j1 h2)
  ·by_cases j2:j < r
   ·obtain⟨v,v1,v2,v3⟩:=kz j (Ie j1) j2;rw[ao v2];obtain⟨t,ht,et⟩:=from2 v v1;rw[et];rcases ht with⟨t1,t2⟩|⟨t1,t2⟩
    ·exact s1 i t x (G8 (HU i1) t1) t2
    ·exact JN (lo1 i x i1) (s2 q t (GB _) t1 (GK t2 h4))
   ·rw[old j (.inr (Ie j2))];exact JN (lo1 i x i1) (s2 q j (GB _) (G8 h3 (Ie j2)) zz)
 ·have i1':=Ie i1;by_cases i2:i < r
  ·obtain⟨u,u1,u2,u3⟩:=kz i i1' i2;by_cases j2:j < r
   ·obtain⟨v,v1,v2,v3⟩:=kz j (G8 i1' y) j2;rw[ao u2,ao v2];have e:=zseg (i - p) (j - p) (GF _) (Nat.sub_le_sub_right y p) (by rw[zz2];exact Nat.sub_lt_sub_right (G8 i1' y) j2);rw[ao u3,ao v3]at e;exact e
   ·have j2':=Ie j2;rw[old j (.inr j2'),ao u2];obtain⟨t,ht,et⟩:=from2 u u1;rw[et];rcases ht with⟨t1,t2⟩ | ⟨t1,t2⟩
    ·exact JN (s1 t (q - 1) (G8 h1 t1) (Nat.le_sub_one_of_lt t2) (Nat.sub_one_lt (Ij (IR (GF _) t2)))) (up2 j j2' zz)
    ·exact s2 t j t1 (G8 (HU t2) j2') zz
  ·have i2':=Ie i2;rw[old i (.inr i2'),old j (.inr (G8 i2' y))];exact s2 i j (G8 h3 i2') y zz
theorem yC {xs:Array Keyed}{lo p q r hi:Nat}(h1:lo≤p)(h2:p < q)(h3:q < r)(h4:r≤hi)(h5:hi≤xs.size)(all:∀ y∈xs.toList,y∈a₀.toList)(s1:Seg key xs lo q)(s2:Seg key xs q hi)
  (up1:kat key xs q < kat key xs p) (lo2:kat key xs (r - 1) < kat key xs (q - 1)):Pre a₀ key (xs.extract p q) (xs.extract q r):=by
 have zu:(xs.extract p q).size=q - p:=kR (by lia);have zv:(xs.extract q r).size=r - q:=kR (by lia);refine⟨fun y hy=>all y (xF hy),fun y hy=>all y (xF hy),fun i j x y z =>?_,fun i j x y z =>?_,by lia,by lia,?_,?_⟩
 ·rw[zu]at z;rw[fZ (by lia) (by lia),fZ (by lia) (by lia)];exact s1 _ _ (by lia) (by lia) (by lia)
 ·rw[zv]at z;rw[fZ (by lia) (by lia),fZ (by lia) (by lia)];exact s2 _ _ (by simp) (by lia) (by lia)
 ·rw[fZ (by lia) (by omega),fZ (by lia) (by omega)];exact up1
 ·rw[zu,zv,fZ (by lia) (by lia),fZ (by lia) (by lia),show q + (r - q - 1)=r - 1 by lia,show p + (q - p - 1)=q - 1 by lia];exact lo2
theorem CY (L:cW prog w A E s a₀ κ key){st:SortSt}{Q:Bool→SortSt→Prop}(hB:SB a₀ κ st){l1 l2:List Tri}{sa na p sb nb q:Nat}(hp:(pendingOf st).toList=l1++(sa,na,p)::(sb,nb,q)::l2)(hsb:sb=sa + na)(h1:1≤na)(h2:1≤nb)(hz:sb + nb≤a₀.size)
  (s1:Seg key (arrOf st) sa sb) (s2:Seg key (arrOf st) sb (sb + nb))
  (h:∀ st',SB a₀ κ st'→(pendingOf st').toList=l1++(sa,na + nb,p)::l2→Seg key (arrOf st') sa (sb + nb)→Off (arrOf st) (arrOf st') sa (sb + nb)→Q true st'):wpS (model prog w) A E s (mergeAt' l1.length) Q st:=by
 rw[CZ];refine GP (wpS_get ?_);obtain⟨e1,e2⟩:=Cy hp;rw[e1,e2];dsimp only;have hsz:=hB.size;have mem:∀ {i:Nat} {x:Keyed},(arrOf st)[i]? = some x→x∈a₀.toList:=fun e=>hB.mem (dO e);have all:∀ y∈(arrOf st).toList,y∈a₀.toList:=fun y hy=>hB.mem hy;refine GP ?_;show wpS _ _ _ _ (set _) _ _;have hset:∀ (t:SortSt) (R:PUnit→SortSt→Prop),R ⟨⟩ t→wpS (model prog w) A E s (set t:StateT SortSt Sem PUnit) R st:=fun t R hr=>by
  unfold wpS;rw[StateT.run_set];exact GN ⟨rfl,hr⟩
 refine hset _ _ ?_;have pn:=Aj (c:=(sa,na + nb,p)) hp;generalize hP:((pendingOf st).setIfInBounds l1.length (sa,na + nb,p)).eraseIdxIfInBounds (l1.length + 1)=P at pn ⊢;have f1:(arrOf st)[sb]? = some (arrOf st)[sb]:=GD (by omega);refine GP (cJ f1 (GP (fj L (st:=fz st P) hB.kind (mem f1) all (by lia) (by assumption) (by rw[← hsb];exact s1) fun k k1 k2 k3 =>?_)));dsimp only;have lo1:∀ t,sa≤t→t < sa + k→kat key (arrOf st) t≤kat key (arrOf st) sb:=fun t t1 t2=>by
  have:=k2 (t - sa) (by lia)
  unfold aJ at this;rw[if_neg (by decide),show sa + (t - sa)=t by lia,← ao (key:=key) f1]at this
  have:¬ kat key (arrOf st) sb < kat key (arrOf st) t:=by simpa using this
  lia
 have up1:∀ t,sa + k≤t→t < sb→kat key (arrOf st) sb < kat key (arrOf st) t:=fun t t1 t2=>by
  have:=k3 (t - sa) (by lia) (by lia)
  unfold aJ at this;rw[if_neg (by decide),show sa + (t - sa)=t by lia,← ao (key:=key) f1]at this
  have:kat key (arrOf st) sb < kat key (arrOf st) t:=by simpa using this
  exact this
 have B1:SB a₀ κ (fz st P):=⟨hB.perm,hB.kind,hB.ok⟩;by_cases c1:na - k=0
 ·rw[if_pos (by simpa using c1)];refine GY (h _ B1 pn (fun i j x y z =>?_) (Off.refl _ _ _));show kat key (arrOf st) i≤kat key (arrOf st) j;by_cases a1:j < sb
  ·exact s1 i j x y a1
  ·by_cases a2:sb≤i
   ·exact s2 i j a2 y z
   ·have:=lo1 i x (by lia)
    have:=s2 sb j (GB _) (by lia) z
    lia
 ·rw[if_neg (by simpa using c1)];have f2:(arrOf st)[sa + k + (na - k) - 1]? = some (arrOf st)[sb - 1]:=by
   rw[show sa + k + (na - k) - 1=sb - 1 by lia];exact GD (by omega)
  have f3:(arrOf st)[sb - 1]? = some (arrOf st)[sb - 1]:=GD (by omega);refine GP (cJ f2 (GP (fj L (st:=fz st P) hB.kind (mem f2) all (by lia) (by lia) s2 fun m m1 m2 m3 =>?_)));dsimp only;have lo2:∀ t,sb≤t→t < sb + m→kat key (arrOf st) t < kat key (arrOf st) (sb - 1):=fun t t1 t2=>by
   have:=m2 (t - sb) (by lia)
   unfold aJ at this;rw[if_pos rfl,show sb + (t - sb)=t by lia,← ao (key:=key) f3]at this;exact G6 this
  have up2:∀ t,sb + m≤t→t < sb + nb→kat key (arrOf st) (sb - 1)≤kat key (arrOf st) t:=fun t t1 t2=>by
   have:=m3 (t - sb) (by lia) (by lia)
   unfold aJ at this;rw[if_pos rfl,show sb + (t - sb)=t by lia,← ao (key:=key) f3]at this
   have:=Jy this
   lia
  by_cases c2:m=0
  ·rw[if_pos (by simpa using c2)];refine GY (h _ B1 pn (fun i j x y z =>?_) (Off.refl _ _ _));show kat key (arrOf st) i≤kat key (arrOf st) j;by_cases a1:j < sb
   ·exact s1 i j x y a1
   ·by_cases a2:sb≤i
    ·exact s2 i j a2 y z
    ·have:=s1 i (sb - 1) x (by lia) (by lia)
     have:=up2 j (by lia) z
     lia
  ·rw[if_neg (by simpa using c2)];have o1:sa≤sa + k:=Jh _ _;have o2:sa + k < sb:=by lia
   have o3:sb < sb + m:=by lia
   have o4:sb + m≤sb + nb:=by lia
   have o5:sb + nb≤(arrOf st).size:=by lia
   have PR:Pre a₀ key ((arrOf st).extract (sa + k) sb) ((arrOf st).extract sb (sb + m)):=yC o1 o2 o3 o4 o5 all s1 s2 (up1 _ (GB _) o2) (lo2 _ (Nat.le_sub_one_of_lt o3) (Nat.sub_one_lt (Ij (IR (GF _) o3))));have fin:∀ (z:Array Keyed) (g':Nat),Res key ((arrOf st).extract (sa + k) sb) ((arrOf st).extract sb (sb + m)) z →
     wpS (model prog w) A E s (do
      modify fun st=>setArr st (iI (arrOf st) (sa + k) z.toList)
      let st ← get
      pure (failedOf st).isNone:StateT SortSt Sem Bool) Q (aO (fz st P) g'):=fun z g' hz=>by
    obtain⟨hperm,hoff,hseg⟩:=merged o1 (HU o2) (HU o3) o4 o5 hz s1 s2 lo1 up2;refine GP (wpS_modify (GP (wpS_get (GY ?_))));have okf:(failedOf (setArr (aO (fz st P) g') (iI (arrOf st) (sa + k) z.toList))).isNone=true:=by
     show (failedOf st).isNone=true;rw[hB.ok];rfl
    show Q (failedOf (setArr (aO (fz st P) g') (iI (arrOf st) (sa + k) z.toList))).isNone _;rw[okf];exact h _ ⟨hperm.trans hB.perm,hB.kind,hB.ok⟩ pn hseg hoff
   split
   ·exact GP (Fw L (st:=fz st P) hB.kind PR fun z g' hz=>fin z g' hz)
   ·exact GP (FK L (st:=fz st P) hB.kind PR fun z g' hz=>fin z g' hz)
end
section
variable {w:World}
abbrev So:=Option Unit × Unit
def Bt (size pw:Nat):StateT SortSt Sem So :=
 forIn [0:size] ((none,()):So) fun _ _=>do
  let st ← get
  match (if (pendingOf st).size > 1 then (pendingOf st)[(pendingOf st).size - 2]? else none) with
  | some (_,_,older)=>if older≤pw then pure (.done (none,())) else do
    let b ← mergeAt' ((pendingOf st).size - 2)
    if (!b)=true then pure (.done (some (),())) else pure (.yield (none,()))
  | _=>pure (.done (none,()))
def nD (lo n:Nat):StateT SortSt Sem (ForInStep (Option Unit × Nat)):=do
 modify fun st=>fz st ((pendingOf st).push (lo,n,0))
 pure (.yield (none,lo + n))
def nB (size lo n:Nat):StateT SortSt Sem (ForInStep (Option Unit × Nat)):=do
 let st ← get
 match (pendingOf st).back? with
 | some (s1,n1,_)=>do
  let q ← Bt size (power' size (2 * s1 + n1) (2 * s1 + n1 + n1 + n) size)
  match q.1 with
  | some v=>pure (.done (some v,lo))
  | none=>do
   modify fun st=>fz st ((pendingOf st).modify ((pendingOf st).size - 1) fun (a,b,_)=>(a,b,power' size (2 * s1 + n1) (2 * s1 + n1 + n1 + n) size))
   nD lo n
 | _=>nD lo n
def oW (size minrun:Nat)(r:Option Unit × Nat):StateT SortSt Sem (ForInStep (Option Unit × Nat)) :=
 if r.2 ≥ size then pure (.done (none,r.2)) else do
  let z ← countRun' r.2 (size - r.2)
  match z with
  | some found =>
   if found < minrun then do
    liftM (rule "list.sort.binary-insertion")
    let b ← binarySort' r.2 (min (size - r.2) minrun) found
    if (!b)=true then pure (.done (some (),r.2)) else nB size r.2 (min (size - r.2) minrun)
   else nB size r.2 found
  | _=>pure (.done (some (),r.2))
def v_ (p:Array Tri):Nat:=if (if p.size - 2 > 0 then p[p.size - 2 - 1]?.map (·.2.1) else none).any (· < (p[p.size - 2 + 1]?.elim 0 (·.2.1))) then p.size - 2 - 1 else p.size - 2
def AV (size:Nat):StateT SortSt Sem So :=
 forIn [0:size] ((none,()):So) fun _ _=>do
  let st ← get
  if (pendingOf st).size≤1 then pure (.done (none,())) else do
   let b ← mergeAt' (v_ (pendingOf st))
   if (!b)=true then pure (.done (some (),())) else pure (.yield (none,()))
theorem Cc:sortRuns'=(do
  let st ← get
  let r ← forIn [0:(arrOf st).size] ((none,0):Option Unit × Nat) fun _ r=>oW (arrOf st).size (minRun' (arrOf st).size (arrOf st).size 0) r
  match r.1 with
  | some v=>pure v
  | none=>do
   let q ← AV (arrOf st).size
   match q.1 with
   | some v=>pure v
   | none=>pure ()):=by kernel_rfl
def bC (key:Keyed→Int)(xs:Array Keyed):Nat→List Tri→Nat→Prop
 | a,[],e=>a=e
 | a,t::r,e=>t.1=a∧1≤t.2.1∧Seg key xs a (a + t.2.1)∧bC key xs (a + t.2.1) r e
theorem bC.le {xs:Array Keyed}:∀ {l:List Tri} {a e:Nat},bC key xs a l e→a + l.length≤e
 | [],a,e,h=>by have:a=e:=h;simp;lia
 | t::r,a,e,h=>by
  obtain⟨_,h1,_,h2⟩:=h
  have:=bC.le h2
  simp;lia
theorem gI {xs:Array Keyed}{l2:List Tri}{e:Nat}:∀ {l1:List Tri} {a:Nat},bC key xs a (l1++l2) e↔∃ m,bC key xs a l1 m∧bC key xs m l2 e
 | [],a=>⟨fun h=>⟨a,rfl,h⟩,fun⟨m,h1,h2⟩=>by have:a=m:=h1;subst this;exact h2⟩
 | t::r,a=>by
  constructor
  ·rintro⟨h1,h2,h3,h4⟩;obtain⟨m,g1,g2⟩:=gI.mp h4;exact⟨m,⟨h1,h2,h3,g1⟩,g2⟩
  ·rintro⟨m,⟨h1,h2,h3,g1⟩,g2⟩;exact⟨h1,h2,h3,gI.mpr ⟨m,g1,g2⟩⟩
theorem bC.same {xs ys:Array Keyed}:∀ {l:List Tri} {a e:Nat},bC key xs a l e→(∀ t,a≤t→t < e→ys[t]? = xs[t]?)→bC key ys a l e
 | [],a,e,h,_=>h
 | t::r,a,e,h,g=>by
  obtain⟨h1,h2,h3,h4⟩:=h;have l4:=h4.le;refine⟨h1,h2,fun i j x y z =>?_,bC.same h4 fun t x y=>g t (by lia) y⟩;rw[fN (g i x (by lia)),fN (g j (by lia) (by lia))];exact h3 i j x y z
theorem bC.alike {xs:Array Keyed}:∀ {l l':List Tri} {a e:Nat},bC key xs a l e→l'.map (fun t=>(t.1,t.2.1))=l.map (fun t=>(t.1,t.2.1))→bC key xs a l' e
 | [],[],_,_,h,_=>h
 | [],_::_,_,_,_,g=>by simp at g
 | _::_,[],_,_,_,g=>by simp at g
 | t::r,t'::r',a,e,h,g=>by
  obtain⟨h1,h2,h3,h4⟩:=h;rw[GX,GX,List.cons.injEq,Prod.mk.injEq]at g;obtain⟨⟨g1,g2⟩,g3⟩:=g;exact⟨by rw[g1];exact h1,by rw[g2];exact h2,by rw[g2];exact h3,by rw[g2];exact bC.alike h4 g3⟩
theorem DS {α:Type}{l:List α}{i:Nat}(h:i + 1 < l.length):∃ l1 a b l2,l=l1++a::b::l2∧l1.length=i:=by
 refine⟨l.take i,l[i],l[i + 1],l.drop (i + 2),?_,by rw[Ht];lia⟩;have e1:l.drop i=l[i]::l.drop (i + 1):=HA (by omega);have e2:l.drop (i + 1)=l[i + 1]::l.drop (i + 2):=HA h;rw[← e2,← e1,Hi]
theorem Dy (L:cW prog w A E s a₀ κ key){st:SortSt}{Q:Bool→SortSt→Prop}{i e:Nat}(hB:SB a₀ κ st)(T:bC key (arrOf st) 0 (pendingOf st).toList e)(he:e≤a₀.size)(hi:i + 1 < (pendingOf st).size)
  (h:∀ st',SB a₀ κ st'→bC key (arrOf st') 0 (pendingOf st').toList e→(pendingOf st').size + 1=(pendingOf st).size→Off (arrOf st) (arrOf st') 0 e→Q true st'):wpS (model prog w) A E s (mergeAt' i) Q st:=by
 obtain⟨l1,⟨sa,na,p⟩,⟨sb,nb,q⟩,l2,hl,rfl⟩:=DS (l:=(pendingOf st).toList) (i:=i) (by simpa using hi);have T':=T;rw[hl]at T';obtain⟨m,T1,⟨a1,a2,a3,b1,b2,b3,T2⟩⟩:=gI.mp T';have l2e:=T2.le;have l1e:=T1.le;dsimp only at a1 a2 a3 b1 b2 b3 T2 l2e;subst a1;subst b1;refine CY L hB hl rfl a2 b2 (by lia) a3 b3 fun st' B' P' S' O' =>?_;have sz:(pendingOf st').size + 1=(pendingOf st).size:=by
  rw[← G5,← G5,P',hl];simp;rfl
 refine h st' B' ?_ sz fun t ht=>O' t (by lia);rw[P'];refine gI.mpr ⟨sa,T1.same fun t x y=>O' t (.inl y),rfl,by dsimp only;lia,?_,?_⟩
 ·dsimp only;rw[← Nat.add_assoc];exact S'
 ·dsimp only;rw[← Nat.add_assoc];exact T2.same fun t x y=>O' t (.inr x)
theorem C7 (L:cW prog w A E s a₀ κ key){st:SortSt}{Q:So→SortSt→Prop}{pw e size:Nat}(hB:SB a₀ κ st)(T:bC key (arrOf st) 0 (pendingOf st).toList e)(he:e≤a₀.size)(hp:1≤(pendingOf st).size)
  (h:∀ st',SB a₀ κ st'→bC key (arrOf st') 0 (pendingOf st').toList e→1≤(pendingOf st').size→Off (arrOf st) (arrOf st') 0 e→Q (none,()) st'):wpS (model prog w) A E s (Bt size pw) Q st:=by
 unfold Bt;refine wpS_forRange (I:=fun _ c st'=>c=(none,())∧SB a₀ κ st'∧bC key (arrOf st') 0 (pendingOf st').toList e∧1≤(pendingOf st').size∧Off (arrOf st) (arrOf st') 0 e) ?step ?fin ⟨rfl,hB,T,hp,Off.refl _ _ _⟩
 case fin =>
  rintro c st' ⟨rfl,B',T',P',O'⟩;exact h st' B' T' P' O'
 case step =>
  rintro t c st' _ _ ⟨rfl,B',T',P',O'⟩;refine GP (wpS_get ?_);by_cases g:(pendingOf st').size > 1
  ·rw[if_pos g,GD (show (pendingOf st').size - 2 < (pendingOf st').size by lia)];dsimp only
   split
   ·exact GY (h st' B' T' P' O')
   ·refine GP (Dy L B' T' he (by lia) fun st2 B2 T2 P2 O2 =>?_);rw[if_neg (by decide)];exact GY ⟨rfl,B2,T2,by lia,O'.trans O2⟩
  ·rw[if_neg g];exact GY (h st' B' T' P' O')
theorem oC {st:SortSt}{Q:ForInStep (Option Unit × Nat)→SortSt→Prop}{lo n:Nat}(hB:SB a₀ κ st)(T:bC key (arrOf st) 0 (pendingOf st).toList lo)(h1:1≤n)(hs:Seg key (arrOf st) lo (lo + n))
  (h:∀ st',SB a₀ κ st'→bC key (arrOf st') 0 (pendingOf st').toList (lo + n)→Q (.yield (none,lo + n)) st'):wpS (model prog w) A E s (nD lo n) Q st:=by
 unfold nD;refine GP (wpS_modify (GY (h _ ⟨hB.perm,hB.kind,hB.ok⟩ ?_)));show bC key (arrOf st) 0 ((pendingOf st).push (lo,n,0)).toList (lo + n);rw[Array.toList_push];exact gI.mpr ⟨lo,T,rfl,h1,hs,rfl⟩
theorem oB (L:cW prog w A E s a₀ κ key){st:SortSt}{Q:ForInStep (Option Unit × Nat)→SortSt→Prop}{lo n size:Nat}(hB:SB a₀ κ st)(T:bC key (arrOf st) 0 (pendingOf st).toList lo)(hz:lo + n≤a₀.size)(h1:1≤n)(hs:Seg key (arrOf st) lo (lo + n))
  (h:∀ st',SB a₀ κ st'→bC key (arrOf st') 0 (pendingOf st').toList (lo + n)→Q (.yield (none,lo + n)) st'):wpS (model prog w) A E s (nB size lo n) Q st:=by
 unfold nB;refine GP (wpS_get ?_);cases hb:(pendingOf st).back? with
 | none=>exact oC hB T h1 hs h
 | some t =>
  obtain⟨s1,n1,p1⟩:=t;dsimp only;have ne:1≤(pendingOf st).size:=by
   rcases Nat.eq_zero_or_pos (pendingOf st).size with e|e
   ·have:pendingOf st = #[]:=Array.eq_empty_of_size_eq_zero e
    rw[this]at hb;cases hb
   ·exact e
  refine GP (C7 L hB T (by lia) ne fun st' B' T' P' O' =>?_);dsimp only;refine GP (wpS_modify ?_);refine oC (key:=key) (a₀:=a₀) (κ:=κ) ⟨B'.perm,B'.kind,B'.ok⟩ ?_ h1 (fun i j x y z =>?_) h
  ·show bC key (arrOf st') 0 ((pendingOf st').modify ((pendingOf st').size - 1) _).toList lo;refine T'.alike ?_;rw[Array.toList_modify];refine I9 fun k =>?_;rw[Ha,Ha,List.getElem?_modify]
   split
   ·cases (pendingOf st').toList[k]?<;>rfl
   ·cases (pendingOf st').toList[k]?<;>rfl
  ·show kat key (arrOf st') i≤kat key (arrOf st') j;rw[fN (O' i (.inr x)),fN (O' j (.inr (by lia)))];exact hs i j x y z
theorem CS (L:cW prog w A E s a₀ κ key){st:SortSt}{Q:ForInStep (Option Unit × Nat)→SortSt→Prop}{lo minrun:Nat}(hB:SB a₀ κ st)(T:bC key (arrOf st) 0 (pendingOf st).toList lo)(hlo:lo≤a₀.size)
  (hd:a₀.size≤lo→Q (.done (none,lo)) st) (h:∀ st' lo',lo < lo'→lo'≤a₀.size→SB a₀ κ st'→bC key (arrOf st') 0 (pendingOf st').toList lo'→Q (.yield (none,lo')) st'):wpS (model prog w) A E s (oW a₀.size minrun (none,lo)) Q st:=by
 unfold oW;dsimp only;by_cases e:lo ≥ a₀.size
 ·rw[if_pos e];exact GY (hd e)
 ·rw[if_neg e];refine GP (DU L hB (by lia) (by lia) fun k xs k1 k2 hp ho hs =>?_);dsimp only;have T1:bC key xs 0 (pendingOf st).toList lo:=T.same fun t x y=>ho t (.inl y);by_cases c:k < minrun
  ·rw[if_pos c];refine GP (wpS_lift (wpAny_rule ⟨rfl,?_⟩));refine GP (Ew L (st:=setArr st xs) (hB.set hp) (by lia) (by lia) hs fun ys yp yo ys' =>?_);rw[if_neg (by decide)];refine oB L (st:=setArr st ys) (hB.set (yp.trans hp)) ?_ (by lia) (by lia) ys' fun st' B' T'=>h st' _ (by lia) (by lia) B' T';exact T1.same fun t x y=>yo t (.inl y)
  ·rw[if_neg c];exact oB L (st:=setArr st xs) (hB.set hp) T1 (by lia) k1 hs fun st' B' T'=>h st' _ (by lia) (by lia) B' T'
theorem yS {p:Array Tri}(h:1 < p.size):v_ p + 1 < p.size:=by
 unfold v_;by_cases g:p.size - 2 > 0
 ·have e:∀ (c:Bool),(if c=true then p.size - 2 - 1 else p.size - 2) + 1 < p.size:=fun c=>by cases c<;>simp<;>omega
  exact e _
 ·rw[if_neg (show ¬ ((if p.size - 2 > 0 then p[p.size - 2 - 1]?.map (·.2.1) else none).any (· < (p[p.size - 2 + 1]?.elim 0 (·.2.1))))=true by rw[if_neg g];simp)]
  lia
theorem CU (L:cW prog w A E s a₀ κ key){st:SortSt}{Q:So→SortSt→Prop}(hB:SB a₀ κ st)(T:bC key (arrOf st) 0 (pendingOf st).toList a₀.size)
  (h:∀ st',SB a₀ κ st'→Seg key (arrOf st') 0 a₀.size→Q (none,()) st'):wpS (model prog w) A E s (AV a₀.size) Q st:=by
 unfold AV;have fin:∀ st',SB a₀ κ st'→bC key (arrOf st') 0 (pendingOf st').toList a₀.size→(pendingOf st').size≤1→Q (none,()) st':=fun st' B' T' h1=>by
  refine h st' B' fun i j x y z =>?_;cases hl:(pendingOf st').toList with
  | nil =>
   rw[hl]at T'
   have:0=a₀.size:=T'
   lia
  | cons t r =>
   have hr:r=[]:=by
    have:=Hn List.length hl
    rw[G5,G2]at this;exact List.length_eq_zero_iff.mp (by lia)
   rw[hl,hr]at T';obtain⟨h2,h3,h4,h5⟩:=T';have h5':0 + t.2.1=a₀.size:=h5;exact h4 i j x y (by lia)
 refine wpS_forRange (I:=fun t c st'=>c=(none,())∧SB a₀ κ st'∧bC key (arrOf st') 0 (pendingOf st').toList a₀.size∧((pendingOf st').size≤1∨(pendingOf st').size + t≤a₀.size)) ?step ?fin ⟨rfl,hB,T,.inr (by have:=T.le;rw[G5]at this;lia)⟩
 case fin =>
  rintro c st' ⟨rfl,B',T',P'⟩;exact fin st' B' T' (by lia)
 case step =>
  rintro t c st' _ _ ⟨rfl,B',T',P'⟩;refine GP (wpS_get ?_);by_cases g:(pendingOf st').size≤1
  ·rw[if_pos g];exact GY (fin st' B' T' g)
  ·rw[if_neg g];refine GP (Dy L B' T' (GB _) (yS (by lia)) fun st2 B2 T2 P2 O2 =>?_);rw[if_neg (by decide)];exact GY ⟨rfl,B2,T2,by lia⟩
theorem wS (L:cW prog w A E s a₀ κ key){st:SortSt}{Q:Unit→SortSt→Prop}(hB:SB a₀ κ st)(hp:pendingOf st = #[])
  (h:∀ st',SB a₀ κ st'→Seg key (arrOf st') 0 a₀.size→Q () st'):wpS (model prog w) A E s sortRuns' Q st:=by
 rw[Cc];refine GP (wpS_get ?_);rw[hB.size];refine GP (Jx (wpS_forRange (I:=fun t c st'=>∃ lo,c=(none,lo)∧t≤lo∧lo≤a₀.size∧SB a₀ κ st'∧bC key (arrOf st') 0 (pendingOf st').toList lo)
  (Q:=fun c st'=>c=(none,a₀.size)∧SB a₀ κ st'∧bC key (arrOf st') 0 (pendingOf st').toList a₀.size) ?step ?fin ⟨0,rfl,GB _,GF _,hB,by rw[hp];rfl⟩) ?post)
 case fin =>
  rintro c st' ⟨lo,rfl,h1,h2,B',T'⟩;have e:lo=a₀.size:=by lia
  subst e;exact⟨rfl,B',T'⟩
 case step =>
  rintro t c st' _ _ ⟨lo,rfl,h1,h2,B',T'⟩;refine CS L B' T' h2 (fun e =>?_) fun st2 lo2 g1 g2 B2 T2=>⟨lo2,rfl,by lia,g2,B2,T2⟩;have e':lo=a₀.size:=by lia
  subst e';exact⟨rfl,B',T'⟩
 case post =>
  rintro c st' ⟨rfl,B',T'⟩;dsimp only;exact GP (CU L B' T' fun st2 B2 S2=>GY (h st2 B2 S2))
end
end Tim
end
section
open Lean in
local macro_rules
 | `(∃ $bs:explicitBinders, $b) =>do
  let r:=bs.raw[0]
  let gs:=if r.getKind == ``Lean.unbracketedExplicitBinders then #[(r[0].getArgs,if r[1].isNone then none else some r[1][1])] else r.getArgs.map fun g=>(g[1].getArgs,some g[3])
  let mut cs := #[]
  let mut c:=b.raw
  while c.getKind == `«term_∧_» do
   cs:=cs.push c[0]
   c:=c[2]
  cs:=cs.push c
  let n:=(gs.map (·.1.size)).sum
  if !([(1,4),(1,5),(1,6),(1,7),(2,2),(2,3),(2,4),(2,5),(2,6),(2,7),(3,1),(3,2),(3,3),(3,4),(3,5),(3,6),(3,7),(3,8),(3,9),(4,1),(4,2),(4,3),(4,4),(4,5),(4,6),(4,7),(5,3),(5,4),(5,5),(5,6),(5,8),(5,9),(6,1),(6,3),(6,5),(6,6),(6,8),(6,9),(7,4),(7,6),(8,1),(8,3),(8,5),(8,10),(17,4)].contains (n,cs.size)) || (cs[0]!.getKind.toString.splitOn "inder").length > 1 || gs.any (fun g=>g.1.any fun x => !x[0].isIdent) then Macro.throwUnsupported
  let mut fs:Array Term := #[]
  for q in cs do
   let mut f:Term:=⟨q⟩
   for g in gs.reverse do
    for x in g.1.reverse do
     let i:Ident:=⟨x[0]⟩
     f ← match g.2 with
      | some t => `(fun ($i : $(⟨t⟩)) => $f)
      | none => `(fun $i => $f)
   fs:=fs.push f
  `($(mkCIdent (.str `L2 s!"EX{n}_{cs.size}")) $fs*)
noncomputable section
namespace L2
inductive EX1_4 {a:Type}(p q r s:a→Prop):Prop
 | mk (A:a) (P:p A) (Q:q A) (R:r A) (S:s A)
inductive EX1_5 {a:Type}(p q r s t:a→Prop):Prop
 | mk (A:a) (P:p A) (Q:q A) (R:r A) (S:s A) (T:t A)
inductive EX1_7 {a:Type}(p q r s t u v:a→Prop):Prop
 | mk (A:a) (P:p A) (Q:q A) (R:r A) (S:s A) (T:t A) (U:u A) (V:v A)
inductive EX2_2 {a b:Type}(p q:a→b→Prop):Prop
 | mk (A:a) (B:b) (P:p A B) (Q:q A B)
inductive EX2_3 {a b:Type}(p q r:a→b→Prop):Prop
 | mk (A:a) (B:b) (P:p A B) (Q:q A B) (R:r A B)
inductive EX2_4 {a b:Type}(p q r s:a→b→Prop):Prop
 | mk (A:a) (B:b) (P:p A B) (Q:q A B) (R:r A B) (S:s A B)
inductive EX2_5 {a b:Type}(p q r s t:a→b→Prop):Prop
 | mk (A:a) (B:b) (P:p A B) (Q:q A B) (R:r A B) (S:s A B) (T:t A B)
inductive EX2_6 {a b:Type}(p q r s t u:a→b→Prop):Prop
 | mk (A:a) (B:b) (P:p A B) (Q:q A B) (R:r A B) (S:s A B) (T:t A B) (U:u A B)
inductive EX3_1 {a b c:Type}(p:a→b→c→Prop):Prop
 | mk (A:a) (B:b) (C:c) (P:p A B C)
inductive EX3_2 {a b c:Type}(p q:a→b→c→Prop):Prop
 | mk (A:a) (B:b) (C:c) (P:p A B C) (Q:q A B C)
inductive EX3_3 {a b c:Type}(p q r:a→b→c→Prop):Prop
 | mk (A:a) (B:b) (C:c) (P:p A B C) (Q:q A B C) (R:r A B C)
inductive EX3_4 {a b c:Type}(p q r s:a→b→c→Prop):Prop
 | mk (A:a) (B:b) (C:c) (P:p A B C) (Q:q A B C) (R:r A B C) (S:s A B C)
inductive EX3_5 {a b c:Type}(p q r s t:a→b→c→Prop):Prop
 | mk (A:a) (B:b) (C:c) (P:p A B C) (Q:q A B C) (R:r A B C) (S:s A B C) (T:t A B C)
inductive EX3_6 {a b c:Type}(p q r s t u:a→b→c→Prop):Prop
 | mk (A:a) (B:b) (C:c) (P:p A B C) (Q:q A B C) (R:r A B C) (S:s A B C) (T:t A B C) (U:u A B C)
inductive EX3_7 {a b c:Type}(p q r s t u v:a→b→c→Prop):Prop
 | mk (A:a) (B:b) (C:c) (P:p A B C) (Q:q A B C) (R:r A B C) (S:s A B C) (T:t A B C) (U:u A B C) (V:v A B C)
inductive EX3_8 {a b c:Type}(p q r s t u v w:a→b→c→Prop):Prop
 | mk (A:a) (B:b) (C:c) (P:p A B C) (Q:q A B C) (R:r A B C) (S:s A B C) (T:t A B C) (U:u A B C) (V:v A B C) (W:w A B C)
inductive EX4_1 {a b c d:Type}(p:a→b→c→d→Prop):Prop
 | mk (A:a) (B:b) (C:c) (D:d) (P:p A B C D)
inductive EX4_3 {a b c d:Type}(p q r:a→b→c→d→Prop):Prop
 | mk (A:a) (B:b) (C:c) (D:d) (P:p A B C D) (Q:q A B C D) (R:r A B C D)
inductive EX4_4 {a b c d:Type}(p q r s:a→b→c→d→Prop):Prop
 | mk (A:a) (B:b) (C:c) (D:d) (P:p A B C D) (Q:q A B C D) (R:r A B C D) (S:s A B C D)
inductive EX4_5 {a b c d:Type}(p q r s t:a→b→c→d→Prop):Prop
 | mk (A:a) (B:b) (C:c) (D:d) (P:p A B C D) (Q:q A B C D) (R:r A B C D) (S:s A B C D) (T:t A B C D)
inductive EX4_6 {a b c d:Type}(p q r s t u:a→b→c→d→Prop):Prop
 | mk (A:a) (B:b) (C:c) (D:d) (P:p A B C D) (Q:q A B C D) (R:r A B C D) (S:s A B C D) (T:t A B C D) (U:u A B C D)
inductive EX4_7 {a b c d:Type}(p q r s t u v:a→b→c→d→Prop):Prop
 | mk (A:a) (B:b) (C:c) (D:d) (P:p A B C D) (Q:q A B C D) (R:r A B C D) (S:s A B C D) (T:t A B C D) (U:u A B C D) (V:v A B C D)
inductive EX5_4 {a b c d e:Type}(p q r s:a→b→c→d→e→Prop):Prop
 | mk (A:a) (B:b) (C:c) (D:d) (E:e) (P:p A B C D E) (Q:q A B C D E) (R:r A B C D E) (S:s A B C D E)
inductive EX5_5 {a b c d e:Type}(p q r s t:a→b→c→d→e→Prop):Prop
 | mk (A:a) (B:b) (C:c) (D:d) (E:e) (P:p A B C D E) (Q:q A B C D E) (R:r A B C D E) (S:s A B C D E) (T:t A B C D E)
inductive EX5_6 {a b c d e:Type}(p q r s t u:a→b→c→d→e→Prop):Prop
 | mk (A:a) (B:b) (C:c) (D:d) (E:e) (P:p A B C D E) (Q:q A B C D E) (R:r A B C D E) (S:s A B C D E) (T:t A B C D E) (U:u A B C D E)
inductive EX5_9 {a b c d e:Type}(p q r s t u v w x:a→b→c→d→e→Prop):Prop
 | mk (A:a) (B:b) (C:c) (D:d) (E:e) (P:p A B C D E) (Q:q A B C D E) (R:r A B C D E) (S:s A B C D E) (T:t A B C D E) (U:u A B C D E) (V:v A B C D E) (W:w A B C D E) (X:x A B C D E)
inductive EX6_1 {a b c d e f:Type}(p:a→b→c→d→e→f→Prop):Prop
 | mk (A:a) (B:b) (C:c) (D:d) (E:e) (F:f) (P:p A B C D E F)
inductive EX6_6 {a b c d e f:Type}(p q r s t u:a→b→c→d→e→f→Prop):Prop
 | mk (A:a) (B:b) (C:c) (D:d) (E:e) (F:f) (P:p A B C D E F) (Q:q A B C D E F) (R:r A B C D E F) (S:s A B C D E F) (T:t A B C D E F) (U:u A B C D E F)
inductive EX6_9 {a b c d e f:Type}(p q r s t u v w x:a→b→c→d→e→f→Prop):Prop
 | mk (A:a) (B:b) (C:c) (D:d) (E:e) (F:f) (P:p A B C D E F) (Q:q A B C D E F) (R:r A B C D E F) (S:s A B C D E F) (T:t A B C D E F) (U:u A B C D E F) (V:v A B C D E F) (W:w A B C D E F) (X:x A B C D E F)
inductive EX7_6 {a b c d e f g:Type}(p q r s t u:a→b→c→d→e→f→g→Prop):Prop
 | mk (A:a) (B:b) (C:c) (D:d) (E:e) (F:f) (G:g) (P:p A B C D E F G) (Q:q A B C D E F G) (R:r A B C D E F G) (S:s A B C D E F G) (T:t A B C D E F G) (U:u A B C D E F G)
inductive EX17_4 {a0 a1 a2 a3 a4 a5 a6 a7 a8 a9 a10 a11 a12 a13 a14 a15 a16:Type}(p q r s:a0→a1→a2→a3→a4→a5→a6→a7→a8→a9→a10→a11→a12→a13→a14→a15→a16→Prop):Prop
 | mk (A0:a0) (A1:a1) (A2:a2) (A3:a3) (A4:a4) (A5:a5) (A6:a6) (A7:a7) (A8:a8) (A9:a9) (A10:a10) (A11:a11) (A12:a12) (A13:a13) (A14:a14) (A15:a15) (A16:a16) (P:p A0 A1 A2 A3 A4 A5 A6 A7 A8 A9 A10 A11 A12 A13 A14 A15 A16) (Q:q A0 A1 A2 A3 A4 A5 A6 A7 A8 A9 A10 A11 A12 A13 A14 A15 A16) (R:r A0 A1 A2 A3 A4 A5 A6 A7 A8 A9 A10 A11 A12 A13 A14 A15 A16) (S:s A0 A1 A2 A3 A4 A5 A6 A7 A8 A9 A10 A11 A12 A13 A14 A15 A16)
end L2
namespace L2
open PySem PySem.Spec PyProof.Rows
variable {H:Hp}{X:Cx}{s:Shared}{pos:Pos}{prog:Program}{A:Around}{K:PySem.W.Frag}
abbrev Key:=Sum Int Str
def kM:Key→Value→Bool
 | .inl k,v=>Value.isInt k v
 | .inr x,v=>Value.isStrOf x v
def Gg (w:World):Key→Int
 | .inl k=>hashInt k
 | .inr x=>hashStr w x
theorem ba:∀ {k:Key} {v:Value},kM k v=true→(∃ i t,k=Sum.inl i∧v=Value.int i t)∨(∃ x t,k=Sum.inr x∧v=Value.str x t)
 | .inl i,v,h=>by
  obtain⟨t,e⟩:=Value.isInt_shape (k:=i) (v:=v) h;exact .inl ⟨i,t,rfl,e⟩
 | .inr x,v,h=>by
  obtain⟨t,e⟩:=Value.isStrOf_shape (x:=x) (v:=v) h;exact .inr ⟨x,t,rfl,e⟩
theorem yU (i:Int)(t:Tok):kM (.inl i) (.int i t)=true:=by simp[kM,Value.isInt]
theorem yT (x:Str)(t:Tok):kM (.inr x) (.str x t)=true:=by simp[kM,Value.isStrOf]
theorem Eu (a b:Int):decide ((Sum.inl a:Key)=Sum.inl b)=(a == b):=by
 by_cases e:a=b
 ·subst e;simp
 ·have h:¬ (Sum.inl a:Key)=Sum.inl b:=fun q=>e (Sum.inl.inj q);rw[Hb h];exact (beq_eq_false_iff_ne.mpr e).symm
theorem Er (a b:Str):decide ((Sum.inr a:Key)=Sum.inr b)=decide (a=b):=by
 by_cases e:a=b
 ·subst e;simp
 ·have h:¬ (Sum.inr a:Key)=Sum.inr b:=fun q=>e (Sum.inr.inj q);rw[Hb h,Hb e]
theorem Et (a:Int)(b:Str):decide ((Sum.inl a:Key)=Sum.inr b)=false:=Hb (fun q=>nomatch q)
theorem Es (a:Str)(b:Int):decide ((Sum.inr a:Key)=Sum.inl b)=false:=Hb (fun q=>nomatch q)
def aI (prog:Program)(w:World):PySem.KeyKind prog w Key where
 is:=kM
 hash:=Gg w
 inj:=fun v a b ha hb=>by
  rcases ba ha with⟨i,t,rfl,rfl⟩|⟨x,t,rfl,rfl⟩
  ·rcases ba hb with⟨j,u,rfl,e⟩|⟨y,u,rfl,e⟩
   ·injection e with e1 _;rw[e1]
   ·exact nomatch e
  ·rcases ba hb with⟨j,u,rfl,e⟩|⟨y,u,rfl,e⟩
   ·exact nomatch e
   ·injection e with e1 _;rw[e1]
 byValue:=fun k v h=>by
  rcases ba h with⟨i,t,rfl,rfl⟩|⟨x,t,rfl,rfl⟩<;>rfl
 pyHash:=fun hv h=>by
  rcases ba hv with⟨i,t,rfl,rfl⟩|⟨x,t,rfl,rfl⟩
  ·exact wpAny_pyHash_int h
  ·exact wpAny_pyHash_str h
 eqBool:=fun hu hv h=>by
  rcases ba hu with⟨i,t,rfl,rfl⟩|⟨x,t,rfl,rfl⟩
  ·rcases ba hv with⟨j,u,rfl,rfl⟩|⟨y,u,rfl,rfl⟩
   ·rw[Eu]at h;exact wpAny_eqBool_int h
   ·rw[Et]at h;exact SeqAt.EqAt.int_str i t y u _ _ _ _ h
  ·rcases ba hv with⟨j,u,rfl,rfl⟩|⟨y,u,rfl,rfl⟩
   ·rw[Es]at h;exact SeqAt.EqAt.str_int x t j u _ _ _ _ h
   ·rw[Er]at h;exact wpAny_eqBool_str h
 «strs» := fun k x t v h=>by
  rcases ba h with⟨i,u,rfl,e⟩|⟨y,u,rfl,e⟩
  ·exact nomatch e
  ·injection e with e1 _;subst e1;cases v<;>rfl
theorem uf (prog:Program)(w:World)(i:Int)(t:Tok):(aI prog w).is (.inl i) (.int i t)=true:=yU i t
theorem ue (prog:Program)(w:World)(x:Str)(t:Tok):(aI prog w).is (.inr x) (.str x t)=true:=yT x t
inductive V where
 | non | bl (b:Bool) | int (i:Int) | str (x:Str) | byt (b:Array UInt8) | flt (b:UInt64) | ref (a:Addr) | ty (n:String)
 deriving DecidableEq
def aV:V→Value→Prop
 | .non,u=>u=Value.none
 | .bl b,u=>u=Value.bool b
 | .int i,u=>∃ t,u=Value.int i t
 | .str x,u=>∃ t,u=Value.str x t
 | .byt b,u=>∃ t,u=Value.bytes b t
 | .flt b,u=>∃ t,u=Value.float b t
 | .ref a,u=>u=Value.ref a
 | .ty n,u=>u=Value.type n
abbrev aN:List V→List Value→Prop:=Paired aV
theorem aN.length {xs:List V}{us:List Value}(r:aN xs us):xs.length=us.length:=Paired.length r
theorem aN.get:∀ {xs:List V} {us:List Value} {i:Nat} {x:V},aN xs us→xs[i]? = some x→∃ u,us[i]? = some u∧aV x u
 | _,_,_,_,.nil,e=>by simp at e
 | _,_,0,_,.cons r _,e=>by simp at e;subst e;exact⟨_,rfl,r⟩
 | _,_,i + 1,x,.cons _ t,e=>by
  obtain⟨u,h1,h2⟩:=aN.get (i:=i) (x:=x) t (by simpa using e);exact⟨u,by simpa using h1,h2⟩
theorem aN.set {x:V}{u:Value}(r:aV x u):∀ {xs:List V} {us:List Value} (i:Nat),aN xs us→aN (xs.set i x) (us.set i u)
 | _,_,_,.nil=>.nil
 | _,_,0,.cons _ t=>.cons r t
 | _,_,i + 1,.cons q t=>.cons q (aN.set r i t)
theorem aN.append:∀ {xs ys:List V} {us ws:List Value},aN xs us→aN ys ws→aN (xs++ys) (us++ws)
 | _,_,_,_,.nil,s=>s
 | _,_,_,_,.cons r t,s=>.cons r (aN.append t s)
def nj:Option V→Option Value→Prop
 | some v,some u=>aV v u
 | none,none=>True
 | _,_=>False
def KV {κ:Type}:List (κ × V)→List (κ × Value)→Prop:=Paired fun (p:κ × V) (q:κ × Value)=>p.1=q.1∧aV p.2 q.2
def kV:Key→V
 | .inl i=>.int i
 | .inr x=>.str x
inductive HO where
 
 | lst (xs:List V)
 
 | tup (xs:List V)
 
 | dK (kvs:List (Key × V)) | dT (kvs:List (List Key × V))
 
 | set (S:Int→Bool) (n:Nat)
 
 | ins (C dx:Addr) (fs:List (Str × V))
 
 | own (x:Addr)
 
 | xd (fs:List (Str × V))
 
 | met (f x:Addr)
 
 | rng (lo hi:Int)
 
 | frz (o:Obj) (u:HO)
 
 | tbl (ps:Array Value)
 
 | ext (φ:Heap→Prop)
abbrev Hp:=Addr→Option HO
def upd (H:Hp)(a:Addr)(o:HO):Hp:=fun b=>if b=a then some o else H b
def Nw (H:Hp)(o:HO)(R:Addr→Hp→Prop):Prop:=∀ p,H p=none→R p (upd H p o)
theorem ah {H:Hp}{a:Addr}{o:HO}:upd H a o a=some o:=by unfold upd;rw[if_pos rfl]
theorem aD {H:Hp}{a b:Addr}{o:HO}(h:b≠a):upd H a o b=H b:=by unfold upd;rw[if_neg h]
theorem BY {H:Hp}{a:Addr}{o u:HO}:upd (upd H a o) a u=upd H a u:=by
 funext b;unfold upd;split<;>rfl
theorem Dt {H:Hp}{a b:Addr}{o u:HO}(h:H a=some o)(h':H b=some u)(d:o≠u):a≠b:=by
 intro e;subst e;rw[h]at h';exact d (Option.some.inj h')
theorem aZ {H:Hp}{a b:Addr}{o:HO}(h:H a=some o)(h':H b=none):a≠b:=by
 intro e;subst e;rw[h]at h';cases h'
section
variable (P:Program)(w:World)
def bo (H:Hp)(h:Heap)(a:Addr):HO→Prop
 | .lst xs=>xs.length≤sizeLine∧∃ (its:List Value) (n:Nat),aN xs its∧h.get? a=some { cls:=.type "list",data:=.seq its.toArray n }
 | .tup xs=>xs.length≤sizeLine∧∃ its:List Value,aN xs its∧IsTup h a its.toArray
 | .dK kvs=>kvs.length≤sizeLine∧(a == sysModules)=false∧∃ vs,KV kvs vs∧h.DictOf (aI P w) a vs
 | .dT kvs=>kvs.length≤sizeLine∧(a == sysModules)=false∧∃ xs:List (List Key × Addr × Value),
   Paired (fun (p:List Key × V) (q:List Key × Addr × Value)=>p.1=q.1∧H q.2.1=some (.tup (p.1.map kV))∧aV p.2 q.2.2) kvs xs ∧
   ∃ o es ep,h.get? a=some o∧o.ExactDict∧o.data=.dict es ep∧es.toList=xs.map (entryOfKey (tupleKind (aI P w)))∧(xs.map (·.1)).Nodup
 | .set S n=>h.SetOf (intKind P w) a S n
 | .ins C dx fs=>H dx=some (.own a)∧fs.length≤1000∧dx≠a∧h.get? a=some (PySem.W.instObj C dx) ∧
   ∃ mA,h.Ns1 dx mA∧(∀ f,nj (fs.lookup f) (mA f))∧PySem.Within mA (fs.map (·.1))
 | .own _=>∃ o,h.get? a=some o
 | .xd fs=>∃ mA,h.Ns1 a mA∧∀ f,nj (fs.lookup f) (mA f)
 | .rng lo hi=>∃ t u v,h.get? a=some { cls:=.type "range",data:=.fields #[.int lo t,.int hi u,.int 1 v] }
 | .frz o u=>h.get? a=some o∧bo H h a u
 | .tbl ps=>h.get? a=some { cls:=.none,data:=.fields ps }
 | .met f x=>h.get? a=some (PySem.W.methodObj (.ref f) (.ref x))
 | .ext φ=>φ h∧(∃ o,h.get? a=some o)∧∀ h1 h2:Heap,φ h1→(∀ o,h1.get? a=some o→h2.get? a=some o)→φ h2
def HOk (H:Hp)(h:Heap):Prop:=∀ a o,H a=some o→bo P w H h a o
end
section
variable {P:Program}{w:World}{H':Hp}{h h':Heap}{a:Addr}{o:HO}
theorem bo.lt (x:bo P w H h a o):a < h.objs.size:=by
 cases o with
 | lst xs=>obtain⟨_,_,_,_,e⟩:=x;exact GJ e
 | tup xs=>obtain⟨_,_,_,p⟩:=x;exact p.lt
 | dK kvs=>obtain⟨_,_,_,_,o,_,_,e,_⟩:=x;exact GJ e
 | dT kvs=>obtain⟨_,_,_,_,o,_,_,e,_⟩:=x;exact GJ e
 | set S n=>obtain⟨o,_,_,_,e,_⟩:=x;exact GJ e
 | ins C dx fs=>obtain⟨_,_,_,e,_⟩:=x;exact GJ e
 | own y=>obtain⟨_,e⟩:=x;exact GJ e
 | xd fs=>obtain⟨_,⟨_,_,_,e,_⟩,_⟩:=x;exact GJ e
 | rng lo hi=>obtain⟨_,_,_,e⟩:=x;exact GJ e
 | frz ob u=>obtain⟨e,_⟩:=x;exact GJ e
 | tbl ps=>exact GJ (show h.get? a=some _ from x)
 | met f y=>exact GJ (show h.get? a=some _ from x)
 | ext φ=>obtain⟨_,⟨_,e⟩,_⟩:=x;exact GJ e
theorem Paired.mapP {α β:Type}{F G:α→β→Prop}:∀ {l₁:List α} {l₂:List β},Paired F l₁ l₂→(∀ a b,F a b→G a b)→Paired G l₁ l₂
 | _,_,.nil,_=>.nil
 | _,_,.cons r t,f=>.cons (f _ _ r) (Paired.mapP t f)
theorem bo.stay (x:bo P w H h a o)(k:∀ b u,(b=a∨H b=some (.own a))→h.get? b=some u→h'.get? b=some u)
  (ho:∀ b,H b=some (.own a)→H' b=some (.own a)) (ht:∀ b xs,H b=some (.tup xs)→H' b=some (.tup xs)):bo P w H' h' a o:=by
 induction o with
 | lst xs=>obtain⟨z,its,n,r,e⟩:=x;exact⟨z,its,n,r,k _ _ (.inl rfl) e⟩
 | tup xs=>obtain⟨z,its,r,ob,e,c⟩:=x;exact⟨z,its,r,ob,k _ _ (.inl rfl) e,c⟩
 | dK kvs=>obtain⟨z,y,vs,r,ob,es,ep,e,c⟩:=x;exact⟨z,y,vs,r,ob,es,ep,k _ _ (.inl rfl) e,c⟩
 | dT kvs =>
  obtain⟨z,y,xs,r,ob,es,ep,e,c,c2,c3,c4⟩:=x;exact⟨z,y,xs,Paired.mapP r fun p q z=>⟨z.1,ht _ _ z.2.1,z.2.2⟩,ob,es,ep,k _ _ (.inl rfl) e,c,c2,c3,c4⟩
 | set S n=>obtain⟨ob,es,ep,t,e,c⟩:=x;exact⟨ob,es,ep,t,k _ _ (.inl rfl) e,c⟩
 | ins C dx fs =>
  obtain⟨d,z,ne,e,mA,⟨od,es,ep,e2,c⟩,r⟩:=x;exact⟨ho _ d,z,ne,k _ _ (.inl rfl) e,mA,⟨od,es,ep,k _ _ (.inr d) e2,c⟩,r⟩
 | own y=>obtain⟨ob,e⟩:=x;exact⟨ob,k _ _ (.inl rfl) e⟩
 | xd fs=>obtain⟨mA,⟨od,es,ep,e,c⟩,r⟩:=x;exact⟨mA,⟨od,es,ep,k _ _ (.inl rfl) e,c⟩,r⟩
 | rng lo hi=>obtain⟨t,u,v,e⟩:=x;exact⟨t,u,v,k _ _ (.inl rfl) e⟩
 | frz ob u ih=>obtain⟨e,q⟩:=x;exact⟨k _ _ (.inl rfl) e,ih q⟩
 | tbl ps =>
  have e:h.get? a=some { cls:=.none,data:=.fields ps }:=x;show h'.get? a=some { cls:=.none,data:=.fields ps };exact k a _ (.inl rfl) e
 | met f y =>
  have e:h.get? a=some (PySem.W.methodObj (.ref f) (.ref y)):=x;show h'.get? a=some (PySem.W.methodObj (.ref f) (.ref y));exact k a _ (.inl rfl) e
 | ext φ=>obtain⟨p,⟨o,e⟩,st⟩:=x;exact⟨st _ _ p fun o q=>k _ _ (.inl rfl) q,⟨o,k _ _ (.inl rfl) e⟩,st⟩
theorem HOk.lt (x:HOk P w H h)(e:H a=some o):a < h.objs.size:=(x a o e).lt
theorem HOk.fresh (x:HOk P w H h)(e:h.objs.size≤a):H a=none:=by
 cases q:H a with
 | none=>rfl
 | some u=>exact absurd (GK (x.lt q) e) (H_ _)
theorem HOk.kept (x:HOk P w H h)(k:∀ b u,h.get? b=some u→h'.get? b=some u):HOk P w H h':=fun a o e =>
 (x a o e).stay (fun b u _ q=>k b u q) (fun _ q=>q) fun _ _ q=>q
theorem HOk.laid (x:HOk P w H h)(k:∀ b u,h.get? b=some u→h'.get? b=some u)(hp:h.objs.size≤a)(new:bo P w (upd H a o) h' a o):HOk P w (upd H a o) h':=fun b u e=>by
 have hn:=x.fresh hp;by_cases hb:b=a
 ·subst hb;rw[ah]at e;cases e;exact new
 ·rw[aD hb]at e;exact (x b u e).stay (fun c v _ q=>k c v q) (fun c q=>by rw[aD (aZ q hn)];exact q) fun c xs q=>by rw[aD (aZ q hn)];exact q
end
def Rd (H:Hp)(a:Addr)(u:HO):Prop:=H a=some u∨∃ o,H a=some (.frz o u)
theorem Rd.ok {P:Program}{w:World}{H:Hp}{h:Heap}{a:Addr}{u:HO}(r:Rd H a u)(x:HOk P w H h):bo P w H h a u:=by
 rcases r with r|⟨o,r⟩
 ·exact x a u r
 ·obtain⟨_,q⟩:=x a _ r;exact q
def Mut:Option HO→Prop
 | some (.lst _)=>True
 | some (.dK _)=>True
 | some (.dT _)=>True
 | some (.set _ _)=>True
 | some (.ins _ _ _)=>True
 | some (.ext _)=>True
 | _=>False
section
variable {P:Program}{w:World}{h h':Heap}{x e:Addr}{o':HO}
theorem HOk.write (ok:HOk P w H h)(mu:Mut (H x))(he:e=x∨H e=some (.own x))(k:∀ b u,b≠e→h.get? b=some u→h'.get? b=some u)(heo:∃ u,h'.get? e=some u)
  (new:bo P w (upd H x o') h' x o'):HOk P w (upd H x o') h':=fun b u q=>by
 have nown:∀ c y,H c=some (.own y)→c≠x:=fun c y r z=>by subst z;rw[r]at mu;exact mu
 have ntup:∀ c xs,H c=some (.tup xs)→c≠x:=fun c xs r z=>by subst z;rw[r]at mu;exact mu
 by_cases hb:b=x
 ·subst hb;rw[ah]at q;cases q;exact new
 ·rw[aD hb]at q;by_cases hbe:b=e
  ·have q':H b=some (.own x):=by
    rcases he with z|z
    ·exact absurd (hbe.trans z) hb
    ·rw[hbe];exact z
   rw[q]at q';cases q';obtain⟨v,hv⟩:=heo;exact⟨v,by rw[hbe];exact hv⟩
  ·refine (ok b u q).stay (fun c v hc r=>k c v ?_ r) (fun c r=>by rw[aD (nown c b r)];exact r) fun c xs r=>by rw[aD (ntup c xs r)];exact r
   rcases hc with rfl|hc
   ·exact hbe
   ·rintro rfl;rcases he with z | z
    ·exact nown c b hc z
    ·rw[hc]at z;cases z;exact hb rfl
end
structure Un (fs ex:List Addr)(H H':Hp)(h h':Heap):Prop where
 keep:∀ b o,h.get? b=some o→H b=none→b∉fs→b∉ex→h'.get? b=some o
 slot:∀ b o,h.get? b=some o→H b=none→b∈fs→b∉ex→∃ sl,h'.get? b=some { o with slots:=sl }
 free:∀ b o,h.get? b=some o→H b=none→b∉ex→H' b=none
 there:∀ b o,h.get? b=some o→b∉ex→∃ o',h'.get? b=some o'
 tups:∀ b xs,H b=some (.tup xs)→H' b=some (.tup xs)
 frzs:∀ b o u,H b=some (.frz o u)→H' b=some (.frz o u)
 tbls:∀ b ps,H b=some (.tbl ps)→∃ more,H' b=some (.tbl (ps++more))
section
variable {fs fs' ex ex':List Addr}{H1 H2:Hp}{h h1 h2 h':Heap}{a x e:Addr}{o:HO}
theorem Un.any (u:Un fs ex H H1 h h1){b:Addr}{ob:Obj}(q:h.get? b=some ob)(n:H b=none)(hx:b∉ex):∃ sl,h1.get? b=some { ob with slots:=sl }:=by
 by_cases hb:b∈fs
 ·exact u.slot b ob q n hb hx
 ·exact⟨ob.slots,u.keep b ob q n hb hx⟩
theorem Un.kept (k:∀ b u,h.get? b=some u→h'.get? b=some u):Un fs ex H H h h' :=
 ⟨fun b ob q _ _ _=>k b ob q,fun b ob q _ _ _=>⟨ob.slots,k b ob q⟩,fun _ _ _ n _=>n,fun b ob q _=>⟨ob,k b ob q⟩,fun _ _ q=>q,fun _ _ _ q=>q,fun _ ps q=>⟨#[],by rw[q];simp⟩⟩
theorem Un.refl:Un fs ex H H h h:=Un.kept fun _ _ q=>q
theorem Un.laid (k:∀ b u,h.get? b=some u→h'.get? b=some u)(hp:h.objs.size≤a)(hn:H a=none):Un fs ex H (upd H a o) h h' where
 keep:=fun b u q _ _ _=>k b u q
 slot:=fun b u q _ _ _=>⟨u.slots,k b u q⟩
 free:=fun b u q n _=>by rw[aD (G3 (GK (GJ q) hp))];exact n
 there:=fun b u q _=>⟨u,k b u q⟩
 tups:=fun b xs q=>by rw[aD (aZ q hn)];exact q
 frzs:=fun b u xs q=>by rw[aD (aZ q hn)];exact q
 tbls:=fun b ps q=>⟨#[],by rw[aD (aZ q hn),q];simp⟩
theorem Un.write (mu:Mut (H x))(he:e=x∨H e=some (.own x))(k:∀ b u,b≠e→h.get? b=some u→h'.get? b=some u)(heo:∃ u,h'.get? e=some u):Un fs ex H (upd H x o) h h':=by
 have hx:∀ b,H b=none→b≠x:=fun b n z=>by subst z;rw[n]at mu;exact mu
 have hb:∀ b,H b=none→b≠e:=fun b n z=>by
  subst z;rcases he with r | r
  ·exact hx b n r
  ·rw[n]at r;cases r
 have hm:∀ b u,H b=some u→¬ Mut (some u)→b≠x:=fun b u q nm z=>by subst z;rw[q]at mu;exact nm mu
 refine⟨fun b u q n _ _=>k b u (hb b n) q,fun b u q n _ _=>⟨u.slots,k b u (hb b n) q⟩,fun b u q n _=>by rw[aD (hx b n)];exact n,fun b u q _ =>?_,
  fun b xs q=>by rw[aD (hm b _ q fun z=>z)];exact q,fun b u xs q=>by rw[aD (hm b _ q fun z=>z)];exact q,fun b ps q=>⟨#[],by rw[aD (hm b _ q fun z=>z),q];simp⟩⟩
 by_cases hbe:b=e
 ·subst hbe;exact heo
 ·exact⟨u,k b u hbe q⟩
end
def trk (h:Heap)(H:Hp):List Addr:=(List.range h.objs.size).filter fun a=>(H a).isSome
def qj (h:Heap)(H:Hp):Heap:=PySem.W.hideAll h (trk h H)
theorem yX (h:Heap)(H:Hp):(qj h H).objs.size=h.objs.size:=PySem.W.hideAll_size _ _
theorem Bi {h:Heap}{H:Hp}{b:Addr}{o:Obj}(e:h.get? b=some o)(n:H b=none):(qj h H).get? b=some o :=
 PySem.W.hideAll_get _ e fun hm=>by
  have q:(H b).isSome=true:=(Hq.mp hm).2;rw[n]at q;simp at q
theorem CL {h:Heap}{H:Hp}{b:Addr}{o:Obj}(e:(qj h H).get? b=some o):h.get? b=some o∧H b=none:=by
 have e':h.get? b=some o:=PySem.W.of_hideAll (trk h H) e;refine⟨e',?_⟩;cases q:H b with
 | none=>rfl
 | some x =>
  have hm:b∈trk h H:=Hq.mpr ⟨Jb.mpr (GJ e'),by simp[q]⟩;have z:(qj h H).get? b=none:=PySem.W.hideAll_none (trk h H) hm;rw[z]at e;cases e
structure Mod (K:PySem.W.Frag)(mg:Str→Option Value)(base:Heap):Prop where
 kin:K.In base
 glob:base.Ns mainGlobals mg
 blt:∃ mb,base.Ns builtinsNs mb∧∀ x:Str,x ≠ "__name__" → mb x=bootBuiltins x
 nolimit:base.NoLimit
structure Cx where
 prog:Program
 w:World
 K:PySem.W.Frag
 mg:Str→Option Value
 base:Heap
 A:Around
 N:List Str
 s₀:Shared
 H₀:Hp
 env:Env
 outer:List Env
 stack:List Env
 ex:List Addr
 fn:Str→Bool
 calm:Bool
 pn:List (Addr × Obj)
 xe:Value→Shared→Prop
def frs (l:List Env):List Addr:=l.filterMap (·.frame)
abbrev Cx.fs (X:Cx):List Addr:=frs X.outer
def Vis (sc:Scope)(x:Str):Prop:=sc.names.lookup x=some .local∨sc.names.lookup x=some .cell∨sc.names.lookup x=some .free
def Loc (sc:Scope)(x:Str):Prop:=sc.names.lookup x=some .local∨sc.names.lookup x=some .cell
def Gu (env:Env)(h:Heap)(m:Str→Option Value)(x:Str)(u:Value):Prop :=
 (env.kindOf x=some .local∧m x=some u)∨((env.kindOf x=some .cell∨env.kindOf x=some .free)∧∃ c,env.cells.lookup x=some c∧h.IsCell c (some u))
structure Cx.Ok (X:Cx):Prop where
 mod:Mod X.K X.mg X.base
 kind:X.env.scope.kind=.function
 glob:X.env.globals=mainGlobals
 blt:X.env.builtins=builtinsNs
 above:X.s₀.heap.objs.size≤X.env.locals
 inj:∀ x y c,X.env.cells.lookup x=some c→X.env.cells.lookup y=some c→x=y
 has:∀ x,(X.env.kindOf x=some .cell∨X.env.kindOf x=some .free)→∃ c,X.env.cells.lookup x=some c
 cab:∀ x c,X.fn x=true→X.env.cells.lookup x=some c→X.s₀.heap.objs.size≤c
 hd:X.calm=true→X.A.handled=none
 frames:X.A.frames=some X.stack
 stk:X.stack=X.outer∨(X.stack=X.env::X.outer∧X.env.frame=some X.env.locals)
 exf:∀ b∈X.ex,b≠X.env.locals∧∀ x c,X.env.cells.lookup x=some c→c≠b
 bs:∀ b o,X.base.get? b=some o→X.s₀.heap.get? b=some o∧X.H₀ b=none
 bsz:X.base.objs.size≤X.s₀.heap.objs.size
 noex:∀ b o,X.base.get? b=some o→b∉X.ex
 exfs:∀ b∈X.ex,b∉X.fs
 funs:X.s₀.heap.FunFrames X.base X.outer
 frf:∀ b∈X.fs,X.H₀ b=none
structure Inv (X:Cx)(pins:List (Addr × Obj))(σ:List (Option V))(H:Hp)(s:Shared):Prop where
 ok:X.Ok
 os:s.os=X.s₀.os
 bare:AllBare s.gens
 base:Un X.fs X.ex X.H₀ H X.s₀.heap s.heap
 loc:∃ m,s.heap.Ns X.env.locals m∧∀ (i:Nat) (x:Str) (v:V),X.N[i]? = some x→σ[i]? = some (some v)→Vis X.env.scope x→∃ u,aV v u∧Gu X.env s.heap m x u
 cell:∀ x c,X.env.cells.lookup x=some c→∃ v,s.heap.IsCell c v
 free:H X.env.locals=none
 freeC:∀ x c,X.env.cells.lookup x=some c→H c=none
 pin:∀ p∈X.pn++pins,s.heap.get? p.1=some p.2∧H p.1=none∧p.1≠X.env.locals∧p.1∉X.fs∧∀ v,p.2.data≠.cell v
 hok:HOk X.prog X.w H s.heap
 len:σ.length=X.N.length
section
variable {pins:List (Addr × Obj)}{σ:List (Option V)}{H':Hp}{h':Heap}
theorem Cx.Ok.nofr (ok:X.Ok){b:Addr}{o:Obj}(e:X.base.get? b=some o):b∉X.fs:=fun hb=>by
 have:=(ok.funs.mem hb).1
 rw[e]at this;cases this
theorem Inv.bs (I:Inv X pins σ H s):∀ b o,X.base.get? b=some o→s.heap.get? b=some o∧H b=none:=fun b o e =>
 ⟨I.base.keep b o (I.ok.bs b o e).1 (I.ok.bs b o e).2 (I.ok.nofr e) (I.ok.noex b o e),I.base.free b o (I.ok.bs b o e).1 (I.ok.bs b o e).2 (I.ok.noex b o e)⟩
theorem Inv.bk (I:Inv X pins σ H s):∀ b o,X.base.get? b=some o→s.heap.get? b=some o:=fun b o e=>(I.bs b o e).1
theorem Inv.mod (I:Inv X pins σ H s):Mod X.K X.mg X.base:=I.ok.mod
theorem Inv.kIn (I:Inv X pins σ H s):X.K.In s.heap:=I.ok.mod.kin.keeps I.bk
theorem Inv.nolimit (I:Inv X pins σ H s):s.heap.NoLimit:=I.ok.mod.nolimit.keeps I.bk
theorem Inv.lt (I:Inv X pins σ H s):X.env.locals < s.heap.objs.size:=let ⟨_,hn,_⟩:=I.loc;hn.lt
theorem Inv.sz (I:Inv X pins σ H s):X.s₀.heap.objs.size≤s.heap.objs.size:=G8 I.ok.above (HU I.lt)
theorem Inv.nofs (I:Inv X pins σ H s){a:Addr}(h:s.heap.objs.size≤a):a∉X.fs:=fun hb=>by
 obtain⟨_,o,ho,_⟩:=I.ok.funs.mem hb;exact absurd (GK (GJ ho) (G8 I.sz h)) (H_ _)
theorem Inv.cne (I:Inv X pins σ H s):∀ x c,X.env.cells.lookup x=some c→c≠X.env.locals:=fun x c e z=>by
 obtain⟨v,o,ho,hd⟩:=I.cell x c e;obtain⟨m,⟨o',es,ep,ho',hd',_⟩,_⟩:=I.loc;rw[z,ho']at ho;cases ho;rw[hd']at hd;cases hd
theorem Inv.funs (I:Inv X pins σ H s):s.heap.FunFrames X.base X.outer:=by
 have all:∀ (l:List Env),(∀ b∈frs l,b∈X.fs)→X.s₀.heap.FunFrames X.base l→s.heap.FunFrames X.base l:=by
  intro l
  induction l with
  | nil=>intro _ _;trivial
  | cons env r ih =>
   intro hs hl;obtain⟨hk,⟨L,o,hf,hn,ho,hd⟩,hr⟩:=hl;have hL:L∈X.fs:=hs L (by unfold frs;rw[IN,hf];exact GO);obtain⟨sl,e⟩:=I.base.slot L o ho (I.ok.frf L hL) hL fun z=>I.ok.exfs L z hL;exact⟨hk,⟨L,_,hf,hn,e,hd⟩,ih (fun b hb=>hs b (by unfold frs;rw[IN,hf];exact GG _ hb)) hr⟩
 exact all X.outer (fun _ hb=>hb) I.ok.funs
theorem Inv.stack (I:Inv X pins σ H s):s.heap.FunFrames X.base X.stack:=by
 rcases I.ok.stk with e|⟨e,hf⟩
 ·rw[e];exact I.funs
 ·rw[e];obtain⟨m,hn,_⟩:=I.loc;refine .cons (by rw[I.ok.kind];decide) hf hn ?_ I.funs;exact Heap.get?_none_of_le (G8 I.ok.bsz I.ok.above)
theorem Inv.stkSub (I:Inv X pins σ H s):∀ b∈frs X.stack,b∈X.env.locals::X.fs:=fun b hb=>by
 rcases I.ok.stk with e|⟨e,hf⟩
 ·rw[e]at hb;exact GG _ hb
 ·rw[e]at hb;unfold frs at hb;rw[IN,hf]at hb;exact hb
theorem Inv.stkFree (I:Inv X pins σ H s):∀ b∈frs X.stack,H b=none:=fun b hb=>by
 rcases GU.mp (I.stkSub b hb) with e|hb
 ·rw[e];exact I.free
 ·obtain⟨_,o,ho,_⟩:=I.ok.funs.mem hb;exact I.base.free b o ho (I.ok.frf b hb) fun z=>I.ok.exfs b z hb
theorem Inv.step {g':Array GenState}{t':Nat}{d':Drawn}{ch:List Addr}(I:Inv X pins σ H s)
  (hch:∀ b∈ch,(b∈X.ex∨X.s₀.heap.objs.size≤b)∧b≠X.env.locals∧(∀ x c,X.env.cells.lookup x=some c→c≠b)∧∀ p∈X.pn++pins,p.1≠b)
  (keep:∀ b o,b≠X.env.locals→b∉X.fs→b∉ch→s.heap.get? b=some o→H b=none→h'.get? b=some o)
  (slot:∀ b o,b≠X.env.locals→b∈X.fs→b∉ch→s.heap.get? b=some o→H b=none→∃ sl,h'.get? b=some { o with slots:=sl }) (free:∀ b o,b∉ch→s.heap.get? b=some o→H b=none→H' b=none)
  (there:∀ b o,b∉ch→s.heap.get? b=some o→∃ o',h'.get? b=some o')
  (tups:∀ b xs,H b=some (.tup xs)→H' b=some (.tup xs)) (frzs:∀ b o u,H b=some (.frz o u)→H' b=some (.frz o u)) (tbls:∀ b ps,H b=some (.tbl ps)→∃ more,H' b=some (.tbl (ps++more)))
  (ns:∀ m,s.heap.Ns X.env.locals m→h'.Ns X.env.locals m) (hok:HOk X.prog X.w H' h') (hg:AllBare g') :
  Inv X pins σ H' { s with heap:=h',gens:=g',drawn:=d',toks:=t' }:=by
 have neL:∀ b o,X.s₀.heap.get? b=some o→b≠X.env.locals:=fun b o e=>G3 (GK (GJ e) I.ok.above);have neC:∀ b o,X.s₀.heap.get? b=some o→b∉X.ex→b∉ch:=fun b o e hx hb=>by
  rcases (hch b hb).1 with z|z
  ·exact hx z
  ·exact absurd (GK (GJ e) z) (H_ _)
 have cellK:∀ x c,X.env.cells.lookup x=some c→∀ v,s.heap.IsCell c v→h'.IsCell c v:=fun x c e v ⟨o,ho,hd⟩=>by
  have nch:c∉ch:=fun z=>(hch c z).2.2.1 x c e rfl;by_cases hc:c∈X.fs
  ·obtain⟨sl,q⟩:=slot c o (I.cne x c e) hc nch ho (I.freeC x c e);exact⟨_,q,hd⟩
  ·exact⟨o,keep c o (I.cne x c e) hc nch ho (I.freeC x c e),hd⟩
 refine⟨I.ok,I.os,hg,⟨fun b o e n hb hx =>?_,fun b o e n hb hx =>?_,fun b o e n hx =>?_,fun b o e hx =>?_,fun b xs e=>tups b xs (I.base.tups b xs e),fun b o xs e=>frzs b o xs (I.base.frzs b o xs e),fun b ps e =>?_⟩,?_,fun x c e =>?_,?_,fun x c e =>?_,fun p hp =>?_,hok,I.len⟩
 ·exact keep b o (neL b o e) hb (neC b o e hx) (I.base.keep b o e n hb hx) (I.base.free b o e n hx)
 ·obtain⟨sl,e1⟩:=I.base.slot b o e n hb hx;obtain⟨sl',e2⟩:=slot b _ (neL b o e) hb (neC b o e hx) e1 (I.base.free b o e n hx);exact⟨sl',e2⟩
 ·obtain⟨o',e1⟩:=I.base.there b o e hx;exact free b o' (neC b o e hx) e1 (I.base.free b o e n hx)
 ·obtain⟨o',e1⟩:=I.base.there b o e hx;exact there b o' (neC b o e hx) e1
 ·obtain⟨m1,e1⟩:=I.base.tbls b ps e;obtain⟨m2,e2⟩:=tbls b _ e1;exact⟨m1++m2,by rw[e2,Array.append_assoc]⟩
 ·obtain⟨m,hn,hl⟩:=I.loc;refine⟨m,ns m hn,fun i x v e1 e2 e3 =>?_⟩;obtain⟨u,r,l⟩:=hl i x v e1 e2 e3;refine⟨u,r,?_⟩;rcases l with l|⟨k,c,e,z⟩
  ·exact .inl l
  ·exact .inr ⟨k,c,e,cellK x c e _ z⟩
 ·obtain⟨v,z⟩:=I.cell x c e;exact⟨v,cellK x c e v z⟩
 ·obtain⟨m,⟨o,_,_,ho,_⟩,_⟩:=I.loc;exact free _ o (fun z=>(hch _ z).2.1 rfl) ho I.free
 ·obtain⟨v,o,ho,hd⟩:=I.cell x c e;exact free c o (fun z=>(hch c z).2.2.1 x c e rfl) ho (I.freeC x c e)
 ·obtain⟨e,n,ne,nf,d⟩:=I.pin p hp;have nch:p.1∉ch:=fun z=>(hch p.1 z).2.2.2 p hp rfl;exact⟨keep p.1 p.2 ne nf nch e n,free p.1 p.2 nch e n,ne,nf,d⟩
theorem Inv.un {t':Nat}(I:Inv X pins σ H s)(u:Un X.fs [] H H' s.heap h')(hok:HOk X.prog X.w H' h'):Inv X pins σ H' { s with heap:=h',toks:=t' }:=by
 obtain⟨m,⟨o,es,ep,ho,r⟩,_⟩:=id I.loc;obtain⟨sl,hL⟩:=u.any ho I.free (by simp);exact I.step (g':=s.gens) (d':=s.drawn) (ch:=[]) (fun _ z=>nomatch z) (fun b o _ hb _ e n=>u.keep b o e n hb (by simp)) (fun b o _ hb _ e n=>u.slot b o e n hb (by simp)) (fun b o _ e n=>u.free b o e n (by simp)) (fun b o _ e=>u.there b o e (by simp)) u.tups u.frzs u.tbls (fun m' hm=>by
  obtain⟨o',es',ep',ho',r'⟩:=hm;rw[ho]at ho';cases ho';exact⟨_,es',ep',hL,r'⟩) hok I.bare
theorem Inv.call {g':Array GenState}{t':Nat}{d':Drawn}{ch:List Addr}(I:Inv X pins σ H s)(u:Un (frs X.stack) ch H H' s.heap h')(hok:HOk X.prog X.w H' h')(hg:AllBare g')
  (hch:∀ b∈ch,(b∈X.ex∨X.s₀.heap.objs.size≤b)∧b≠X.env.locals∧(∀ x c,X.env.cells.lookup x=some c→c≠b)∧∀ p∈X.pn++pins,p.1≠b) :
  Inv X pins σ H' { s with heap:=h',gens:=g',drawn:=d',toks:=t' }:=by
 obtain⟨m,⟨o,es,ep,ho,r⟩,_⟩:=id I.loc;obtain⟨sl,hL⟩:=u.any ho I.free fun z=>(hch _ z).2.1 rfl;exact I.step (ch:=ch) hch (fun b o hL hb hc e n=>u.keep b o e n (fun z=>(GU.mp (I.stkSub b z)).elim hL hb) hc) (fun b o _ _ hc e n=>u.any e n hc) (fun b o hc e n=>u.free b o e n hc) (fun b o hc e=>u.there b o e hc) u.tups u.frzs u.tbls (fun m' hm=>by
  obtain⟨o',es',ep',ho',r'⟩:=hm;rw[ho]at ho';cases ho';exact⟨_,es',ep',hL,r'⟩) hok hg
theorem Inv.turned {t':Nat}{it:Addr}(I:Inv X pins σ H s)(k:∀ b o,b≠it→s.heap.get? b=some o→h'.get? b=some o)(hn:H it=none)(hL:it≠X.env.locals)
  (h1:it∈X.ex∨X.s₀.heap.objs.size≤it) (h2:∀ x c,X.env.cells.lookup x=some c→c≠it) (h3:∀ p∈X.pn++pins,p.1≠it):Inv X pins σ H { s with heap:=h',toks:=t' }:=by
 have nit:∀ b u,H b=some u→b≠it:=fun b u e z=>by rw[z,hn]at e;cases e
 refine I.step (g':=s.gens) (d':=s.drawn) (ch:=[it]) (fun b hb =>?_) (fun b o _ _ hc e _=>k b o (fun z=>hc (by simp[z])) e) (fun b o _ _ hc e _=>⟨o.slots,k b o (fun z=>hc (by simp[z])) e⟩) (fun _ _ _ _ n=>n)
  (fun b o hc e=>⟨o,k b o (fun z=>hc (by simp[z])) e⟩) (fun _ _ e=>e) (fun _ _ _ e=>e) (fun b ps e=>⟨#[],by rw[e];simp⟩) (fun m hm =>?_) (fun b u e =>?_) I.bare
 ·have e:b=it:=by simpa using hb
  subst e;exact⟨h1,hL,h2,h3⟩
 ·obtain⟨o,es,ep,ho,r⟩:=hm;exact⟨o,es,ep,k _ o (Ne.symm hL) ho,r⟩
 ·refine (I.hok b u e).stay (fun c v hc q=>k c v ?_ q) (fun _ q=>q) fun _ _ q=>q;rcases hc with z | z
  ·rw[z];exact nit b u e
  ·exact nit c _ z
theorem Inv.tok (I:Inv X pins σ H s)(t:Nat):Inv X pins σ H { s with toks:=t }:=I.un (h':=s.heap) (t':=t) Un.refl I.hok
theorem Inv.kept {t':Nat}(I:Inv X pins σ H s)(k:∀ b u,s.heap.get? b=some u→h'.get? b=some u):Inv X pins σ H { s with heap:=h',toks:=t' }:=I.un (Un.kept k) (I.hok.kept k)
theorem Inv.laid {a:Addr}{o:HO}{t':Nat}(I:Inv X pins σ H s)(k:∀ b u,s.heap.get? b=some u→h'.get? b=some u)(hp:s.heap.objs.size≤a)(new:bo X.prog X.w (upd H a o) h' a o):
  Inv X pins σ (upd H a o) { s with heap:=h',toks:=t' }:=I.un (Un.laid k hp (I.hok.fresh hp)) (I.hok.laid k hp new)
theorem Inv.write {x e:Addr}{o:HO}{t':Nat}(I:Inv X pins σ H s)(mu:Mut (H x))(he:e=x∨H e=some (.own x))(k:∀ b u,b≠e→s.heap.get? b=some u→h'.get? b=some u)(heo:∃ u,h'.get? e=some u)
  (new:bo X.prog X.w (upd H x o) h' x o):Inv X pins σ (upd H x o) { s with heap:=h',toks:=t' }:=I.un (Un.write mu he k heo) (I.hok.write mu he k heo new)
theorem Inv.weak {σ':List (Option V)}(I:Inv X pins σ H s)(hl:σ'.length=σ.length)(w:∀ (i:Nat) v,σ'[i]? = some (some v)→σ[i]? = some (some v)):Inv X pins σ' H s :=
 ⟨I.ok,I.os,I.bare,I.base,let ⟨m,hn,hl'⟩:=I.loc;⟨m,hn,fun i x v e1 e2 e3=>hl' i x v e1 (w i v e2) e3⟩,I.cell,I.free,I.freeC,I.pin,I.hok,hl.trans I.len⟩
theorem Inv.pins_of {pins':List (Addr × Obj)}(I:Inv X pins σ H s)(h:∀ p∈pins',s.heap.get? p.1=some p.2∧H p.1=none∧p.1≠X.env.locals∧p.1∉X.fs∧∀ v,p.2.data≠.cell v):Inv X pins' σ H s :=
 ⟨I.ok,I.os,I.bare,I.base,I.loc,I.cell,I.free,I.freeC,fun p hp=>(GS.mp hp).elim (fun z=>I.pin p (Hv _ z)) (h p),I.hok,I.len⟩
theorem uc {N:List Str}(hN:N.Nodup){i j:Nat}{x:Str}(a:N[i]? = some x)(b:N[j]? = some x):i=j:=by
 obtain⟨h1,e1⟩:=Gz.mp a;obtain⟨h2,e2⟩:=Gz.mp b;exact (List.getElem_inj hN).mp (e1.trans e2.symm)
theorem x_ {M:Model}{A:Around}{E:Value→Shared→Prop}{i:Nat}{x:Str}{v:V}{u:Value}{Q:Unit→Shared→Prop}(I:Inv X pins σ H s)(hN:X.N.Nodup)(hi:X.N[i]? = some x)(hx:Loc X.env.scope x)(r:aV v u)
  (h:∀ s',Inv X pins (σ.set i (some v)) H s'→(∃ a,Heap.SameBut a s.heap s'.heap∧(a=X.env.locals∨X.env.cells.lookup x=some a))→Q () s') (hf:X.fn x=true∨X.env.scope.names.lookup x=some .local:=by first | exact .inl rfl | exact .inr rfl | assumption):wpAny M A (storeName X.env x u) Q E s:=by
 obtain⟨m,hn,hl⟩:=id I.loc;have hcls:(X.env.scope.kind == .class || (X.env.scope.kind == .module && X.env.locals != X.env.globals))=false:=by rw[I.ok.kind];rfl
 have hiσ:i < σ.length:=by rw[I.len];exact (Gz.mp hi).1
 have cne:=I.cne;have tracked:∀ {a:Addr} {h':Heap},(∃ o,s.heap.get? a=some o∧H a=none)→Heap.SameBut a s.heap h'→HOk X.prog X.w H h':=fun {a h'} ha hs b ob e=>by
  obtain⟨_,_,hfree⟩:=ha;refine (I.hok b ob e).stay (fun c w' hc q=>(hs.2 c ?_).trans q) (fun _ q=>q) fun _ _ q=>q;rintro rfl;rcases hc with rfl|hc
  ·rw[hfree]at e;cases e
  ·rw[hfree]at hc;cases hc
 rcases hx with hk|hk
 ·refine wpAny_storeName_local hk hn (fun h' hn' hs =>?_) hcls;obtain⟨oL,_,_,hoL,_⟩:=id hn;refine h _ ⟨I.ok,I.os,I.bare,⟨fun b o e n hb hx =>?_,fun b o e n hb hx =>?_,I.base.free,fun b o e hx =>?_,I.base.tups,I.base.frzs,I.base.tbls⟩,⟨_,hn',fun j y v' e1 e2 e3 =>?_⟩,fun y c e =>?_,I.free,I.freeC,fun p hp =>?_,tracked ⟨oL,hoL,I.free⟩ hs,by simpa using I.len⟩ ⟨_,hs,.inl rfl⟩
  ·exact (hs.2 b (G3 (GK (GJ e) I.ok.above))).trans (I.base.keep b o e n hb hx)
  ·obtain⟨sl,e1⟩:=I.base.slot b o e n hb hx;exact⟨sl,(hs.2 b (G3 (GK (GJ e) I.ok.above))).trans e1⟩
  ·obtain⟨o',e1⟩:=I.base.there b o e hx;exact⟨o',(hs.2 b (G3 (GK (GJ e) I.ok.above))).trans e1⟩
  ·by_cases hj:j=i
   ·subst hj;rw[hi]at e1;cases e1;rw[List.getElem?_set_self hiσ]at e2;cases e2;exact⟨u,r,.inl ⟨hk,by simp⟩⟩
   ·rw[List.getElem?_set_ne (Ne.symm hj)]at e2;obtain⟨u',r',q⟩:=hl j y v' e1 e2 e3;refine⟨u',r',?_⟩;rcases q with⟨k,e⟩ | ⟨k,c,e,z⟩
    ·refine .inl ⟨k,?_⟩
     have:y≠x:=fun e=>hj (uc hN e1 (e▸hi))
     simp[this,e]
    ·exact .inr ⟨k,c,e,z.sameBut hs (cne y c e)⟩
  ·obtain⟨w',z⟩:=I.cell y c e;exact⟨w',z.sameBut hs (cne y c e)⟩
  ·obtain⟨e,n,ne,nf,d⟩:=I.pin p hp;exact⟨(hs.2 p.1 ne).trans e,n,ne,nf,d⟩
 ·have hfn:X.fn x=true:=by
   rcases hf with z|z
   ·exact z
   ·rw[z]at hk;cases hk
  obtain⟨c,hc⟩:=I.ok.has x (.inl hk);obtain⟨w',z⟩:=I.cell x c hc;refine wpAny_storeName_cell I.ok.kind hk hc z (fun h' hc' hs =>?_);obtain⟨oc,hoc,hocd⟩:=id z;refine h { s with heap:=h' } ⟨I.ok,I.os,I.bare,⟨fun b o e n hb hx =>?_,fun b o e n hb hx =>?_,I.base.free,fun b o e hx =>?_,I.base.tups,I.base.frzs,I.base.tbls⟩,⟨m,hn.sameBut hs (Ne.symm (cne x c hc)),fun j y v' e1 e2 e3 =>?_⟩,fun y c' e =>?_,I.free,I.freeC,fun p hp =>?_,tracked ⟨oc,hoc,I.freeC x c hc⟩ hs,by simpa using I.len⟩ ⟨c,hs,.inr hc⟩
  ·exact (hs.2 b (G3 (GK (GJ e) (I.ok.cab x c hfn hc)))).trans (I.base.keep b o e n hb hx)
  ·obtain⟨sl,e1⟩:=I.base.slot b o e n hb hx;exact⟨sl,(hs.2 b (G3 (GK (GJ e) (I.ok.cab x c hfn hc)))).trans e1⟩
  ·obtain⟨o',e1⟩:=I.base.there b o e hx;exact⟨o',(hs.2 b (G3 (GK (GJ e) (I.ok.cab x c hfn hc)))).trans e1⟩
  ·by_cases hj:j=i
   ·subst hj;rw[hi]at e1;cases e1;rw[List.getElem?_set_self hiσ]at e2;cases e2;exact⟨u,r,.inr ⟨.inl hk,c,hc,hc'⟩⟩
   ·rw[List.getElem?_set_ne (Ne.symm hj)]at e2;obtain⟨u',r',q⟩:=hl j y v' e1 e2 e3;refine⟨u',r',?_⟩;rcases q with q | ⟨k,c',e,z'⟩
    ·exact .inl q
    ·refine .inr ⟨k,c',e,z'.sameBut hs ?_⟩;rintro rfl;exact hj (uc hN e1 (I.ok.inj _ _ _ e hc▸hi))
  ·by_cases hcc:c'=c
   ·subst hcc;exact⟨_,hc'⟩
   ·obtain⟨w2,z2⟩:=I.cell y c' e;exact⟨w2,z2.sameBut hs hcc⟩
  ·obtain⟨e,n,ne,nf,d⟩:=I.pin p hp;refine⟨(hs.2 p.1 ?_).trans e,n,ne,nf,d⟩;intro q;rw[q,hoc]at e;have q':oc=p.2:=Option.some.inj e;exact d w' (by rw[← q'];exact hocd)
theorem n8 {M:Model}{A:Around}{E:Value→Shared→Prop}{i:Nat}{x:Str}{v:V}{u:Value}{Q:Unit→Shared→Prop}(I:Inv X pins σ H s)(hN:X.N.Nodup)(hi:X.N[i]? = some x)(hx:Loc X.env.scope x)(r:aV v u)
  (h:∀ s',Inv X pins (σ.set i (some v)) H s'→Q () s') (hf:X.fn x=true∨X.env.scope.names.lookup x=some .local:=by first | exact .inl rfl | exact .inr rfl | assumption):wpAny M A (storeName X.env x u) Q E s :=
 x_ I hN hi hx r (fun s' I' _=>h s' I') hf
theorem Inv.call' {s':Shared}{ch:List Addr}(I:Inv X pins σ H s)(ho:s'.os=s.os)(u:Un (frs X.stack) ch H H' s.heap s'.heap)(hok:HOk X.prog X.w H' s'.heap)(hg:AllBare s'.gens)
  (hch:∀ b∈ch,(b∈X.ex∨X.s₀.heap.objs.size≤b)∧b≠X.env.locals∧(∀ x c,X.env.cells.lookup x=some c→c≠b)∧∀ p∈X.pn++pins,p.1≠b):Inv X pins σ H' s':=by
 obtain⟨h',g',d',t',o'⟩:=s';have e:o'=s.os:=ho;subst e;exact I.call (g':=g') (t':=t') (d':=d') u hok hg hch
end
abbrev XK:=Value→Option Addr→Hp→Prop
abbrev St:=List (Option V)
abbrev VK:=V→Hp→Prop
abbrev TE:=St→Hp→VK→Prop
abbrev TT:=St→Hp→(Bool→Hp→Prop)→Prop
abbrev TA:=St→Hp→(List V→Hp→Prop)→Prop
structure lh where
 nx:St→Hp→Prop
 rt:VK
 bk:St→Hp→Prop:=fun _ _=>False
 ct:St→Hp→Prop:=fun _ _=>False
abbrev TS:=lh→St→Hp→Prop
def EP (X:Cx)(pins:List (Addr × Obj))(σ:St)(Q:VK)(u:Value)(s':Shared):Prop:=∃ v H',Inv X pins σ H' s'∧aV v u∧Q v H'
def TP (X:Cx)(pins:List (Addr × Obj))(σ:St)(Q:Bool→Hp→Prop)(b:Bool)(s':Shared):Prop:=∃ H',Inv X pins σ H' s'∧Q b H'
def AP (X:Cx)(pins:List (Addr × Obj))(σ:St)(Q:List V→Hp→Prop)(us:List Value)(s':Shared):Prop:=∃ vs H',Inv X pins σ H' s'∧aN vs us∧Q vs H'
def SP (X:Cx)(pins:List (Addr × Obj))(D:lh)(f:Flow)(s':Shared):Prop :=
 match f with
 | .next=>∃ σ' H',Inv X pins σ' H' s'∧D.nx σ' H'
 | .brk=>∃ σ' H',Inv X pins σ' H' s'∧D.bk σ' H'
 | .cont=>∃ σ' H',Inv X pins σ' H' s'∧D.ct σ' H'
 | .ret u=>∃ v σ' H',Inv X pins σ' H' s'∧aV v u∧D.rt v H'
def PE (X:Cx)(e:Expr)(t:TE):Prop :=
 ∀ (pins:List (Addr × Obj)) (s:Shared) (σ:St) (H:Hp) (Q:VK),Inv X pins σ H s→t σ H Q→wpAny (model X.prog X.w) X.A (eval e X.env) (EP X pins σ Q) X.xe s
def PT (X:Cx)(e:Expr)(t:TT):Prop :=
 ∀ (pins:List (Addr × Obj)) (s:Shared) (σ:St) (H:Hp) (Q:Bool→Hp→Prop),Inv X pins σ H s→t σ H Q→wpAny (model X.prog X.w) X.A (isTrue e X.env (eval e X.env)) (TP X pins σ Q) X.xe s
def PW (X:Cx)(e:Expr)(t:TT):Prop :=
 ∀ (whole:Sem Value) (pins:List (Addr × Obj)) (s:Shared) (σ:St) (H:Hp) (Q:Bool→Hp→Prop),Inv X pins σ H s→t σ H Q→wpAny (model X.prog X.w) X.A (isTrue e X.env whole) (TP X pins σ Q) X.xe s
theorem PW.pt {X:Cx}{e:Expr}{t:TT}(h:PW X e t):PT X e t:=h _
def PA (X:Cx)(es:List Expr)(t:TA):Prop :=
 ∀ (pos:Pos) (pins:List (Addr × Obj)) (s:Shared) (σ:St) (H:Hp) (Q:List V→Hp→Prop),Inv X pins σ H s→t σ H Q→wpAny (model X.prog X.w) X.A (spliced (backTo pos (starEach es X.env))) (AP X pins σ Q) X.xe s
def PS (X:Cx)(st:Stmt)(t:TS):Prop :=
 ∀ (pins:List (Addr × Obj)) (s:Shared) (σ:St) (H:Hp) (D:lh),Inv X pins σ H s→t D σ H→wpAny (model X.prog X.w) X.A (exec st X.env) (SP X pins D) X.xe s
def PSs (X:Cx)(st:List Stmt)(t:TS):Prop :=
 ∀ (pins:List (Addr × Obj)) (s:Shared) (σ:St) (H:Hp) (D:lh),Inv X pins σ H s→t D σ H→wpAny (model X.prog X.w) X.A (execs st X.env) (SP X pins D) X.xe s
theorem thn {α:Type}{t:Sem α}{Q Q':α→Shared→Prop}{M:Model}{A:Around}{E:Value→Shared→Prop}{s:Shared}(h:wpAny M A t Q E s)(hQ:∀ a s,Q a s→Q' a s):wpAny M A t Q' E s:=Ho h hQ fun _ _ x=>x
section
def vi (i:Nat):TE:=fun σ H Q=>match σ[i]? with | some (some v)=>Q v H | _=>False
theorem ce {i:Nat}{σ:St}{H:Hp}{Q:VK}(h:vi i σ H Q):∃ v,σ[i]? = some (some v)∧Q v H:=by
 unfold vi at h
 split at h
 ·exact⟨_,‹_›,h⟩
 ·exact h.elim
theorem cX {i:Nat}{σ:St}{H:Hp}{Q:VK}{v:V}(e:σ[i]? = some (some v))(h:Q v H):vi i σ H Q:=by
 unfold vi;rw[e];exact h
theorem dj {i:Nat}{σ:St}{H:Hp}{Q:VK}{v:V}(h:Q v H)(e:σ[i]? = some (some v):=by exact rfl):vi i σ H Q:=cX e h
abbrev tC (v:V):TE:=fun _ H Q=>Q v H
theorem D4 {i:Nat}{x:Str}{pos:Pos}(hN:X.N[i]? = some x)(hv:Vis X.env.scope x)(hd:(x == ("__debug__" : Str))=false:=by decide)(hcd:(x == ("__classdict__" : Str))=false:=by decide):PE X (.Name x pos) (vi i):=by
 intro pins s σ H Q I h;obtain⟨v,e,h⟩:=ce h;obtain⟨m,hn,hl⟩:=I.loc;obtain⟨u,r,l⟩:=hl i x v hN e hv;have fin:EP X pins σ Q u s:=⟨v,H,I,r,h⟩;rcases l with⟨hk,hm⟩ | ⟨hk,c,hc,hcell⟩
 ·exact wpAny_Name (wpAny_loadName_local I.ok.kind hk hn hm fin) hd
 ·rcases hk with hk|hk
  ·exact wpAny_Name (wpAny_loadName_cell I.ok.kind hk hc hcell fin) hd
  ·exact wpAny_Name (wpAny_loadName_free I.ok.kind hk hc hcell fin hcd) hd
theorem ae {i j pos}:PE X (.Constant (.int i) j pos) (tC (.int i)):=fun _ _ _ H _ I h=>wpAny_Constant_int ⟨.int i,H,I.tok _,⟨_,rfl⟩,h⟩
theorem gT {b j pos}:PE X (.Constant (.bool b) j pos) (tC (.bl b)):=fun _ _ _ H _ I h=>Constant_bool ⟨.bl b,H,I,rfl,h⟩
theorem lU {j pos}:PE X (.Constant .none j pos) (tC .non):=fun _ _ _ H _ I h=>Constant_none ⟨.non,H,I,rfl,h⟩
theorem cm {x j pos}:PE X (.Constant (.str x) j pos) (tC (.str x)):=fun _ _ _ H _ I h=>Calls.Constant_str ⟨.str x,H,I.tok _,⟨_,rfl⟩,h⟩
def Gl (X:Cx)(x:Str):Prop:=X.env.kindOf x=some .globalImplicit
theorem jG {E:Value→Shared→Prop}{pins:List (Addr × Obj)}{s:Shared}{σ:St}{H:Hp}{x:Str}{u:Value}{pos:Pos}{Q:Value→Shared→Prop}(I:Inv X pins σ H s)(hg:Gl X x)(hm:X.mg x=some u)(h:Q u s)
  (hd:(x == ("__debug__" : Str))=false:=by decide):wpAny (model X.prog X.w) X.A (eval (.Name x pos) X.env) Q E s :=
 Calls.Name_function_global I.ok.kind hg (Calls.loadGlobal_global (by rw[I.ok.glob];exact I.mod.glob.keeps I.bk) hm h) hd
theorem ke {E:Value→Shared→Prop}{pins:List (Addr × Obj)}{s:Shared}{σ:St}{H:Hp}{x:Str}{u:Value}{pos:Pos}{Q:Value→Shared→Prop}(I:Inv X pins σ H s)(hg:Gl X x)(hm:X.mg x=none)(hv:bootBuiltins x=some u)(h:Q u s)
  (hn:x ≠ "__name__" := by decide) (hd:(x == ("__debug__" : Str))=false:=by decide):wpAny (model X.prog X.w) X.A (eval (.Name x pos) X.env) Q E s:=by
 obtain⟨mb,h1,h2⟩:=I.mod.blt;exact Calls.Name_function_global I.ok.kind hg (Calls.loadGlobal_builtin (by rw[I.ok.glob];exact I.mod.glob.keeps I.bk) hm (by rw[I.ok.blt];exact h1.keeps I.bk) ((h2 x hn).trans hv) h) hd
theorem bJ {x:Str}{v:V}{u:Value}{pos:Pos}(hg:Gl X x)(hm:X.mg x=some u)(r:aV v u)(hd:(x == ("__debug__" : Str))=false:=by decide):PE X (.Name x pos) (tC v) :=
 fun _ _ _ H _ I h=>jG I hg hm ⟨v,H,I,r,h⟩ hd
theorem CC {x:Str}{v:V}{u:Value}{pos:Pos}(hg:Gl X x)(hm:X.mg x=none)(hv:bootBuiltins x=some u)(r:aV v u)(hn:x ≠ "__name__" := by decide)(hd:(x == ("__debug__" : Str))=false:=by decide):PE X (.Name x pos) (tC v) :=
 fun _ _ _ H _ I h=>ke I hg hm hv ⟨v,H,I,r,h⟩ hn hd
variable {a b:Expr}{ta tb:TE}
def ofB (Q:Bool→Prop):V→Prop | .bl c=>Q c | _=>False
theorem kH {Q:Bool→Prop}{x:V}(h:ofB Q x):∃ c,x=.bl c∧Q c:=by
 cases x<;>first | exact⟨_,rfl,h⟩ | exact False.elim h
abbrev tB (t:TE):TT:=fun σ H Q=>t σ H fun x H1=>ofB (Q · H1) x
theorem bS {e:Expr}{t:TE}(h:PE X e t)(he:∀ whole,isTrue e X.env whole=(do let v ← whole;standAt e.pos;holding [v] (truthy v)):=by intro _;rfl):PT X e (tB t):=by
 intro pins s σ H Q I hw;refine isTrue_plain (thn (h pins s σ H _ I hw) fun v s1 ⟨x,H1,I1,r1,q1⟩ =>?_) (he _);obtain⟨d,rfl,q⟩:=kH q1;cases r1;exact wpAny_truthy_bool ⟨H1,I1,q⟩
variable {tA tB':TT}{rest:List Expr}
abbrev F6 (t u:TT):TT:=fun σ H Q=>t σ H fun c H1=>if c=true then u σ H1 Q else Q false H1
abbrev tOr (t u:TT):TT:=fun σ H Q=>t σ H fun c H1=>if c=true then Q true H1 else u σ H1 Q
abbrev F2 (t:TT):TT:=fun σ H Q=>t σ H fun c H1=>Q (!c) H1
theorem wX (ha:PT X a tA):PW X (.BoolOp .And [a] pos) tA:=by
 intro wh pins s σ H Q I h;refine isTrue_and (thn (ha pins s σ H Q I h) fun c s1 e =>?_);cases c with
 | true=>exact isTrue_and_nil e
 | false=>exact e
theorem lS (ha:PT X a tA):PW X (.BoolOp .Or [a] pos) tA:=by
 intro wh pins s σ H Q I h;refine isTrue_or (thn (ha pins s σ H Q I h) fun c s1 e =>?_);cases c with
 | false=>exact isTrue_or_nil e
 | true=>exact e
theorem Aa (ha:PT X a tA)(hb:PW X (.BoolOp .And (b::rest) pos) tB'):PW X (.BoolOp .And (a::b::rest) pos) (F6 tA tB'):=by
 intro wh pins s σ H Q I h;refine isTrue_and (thn (ha pins s σ H _ I h) fun c s1 ⟨H1,I1,q1⟩ =>?_);cases c with
 | true=>exact hb wh pins s1 σ H1 Q I1 q1
 | false=>exact⟨H1,I1,q1⟩
theorem oA (ha:PT X a tA)(hb:PW X (.BoolOp .Or (b::rest) pos) tB'):PW X (.BoolOp .Or (a::b::rest) pos) (tOr tA tB'):=by
 intro wh pins s σ H Q I h;refine isTrue_or (thn (ha pins s σ H _ I h) fun c s1 ⟨H1,I1,q1⟩ =>?_);cases c with
 | true=>exact⟨H1,I1,q1⟩
 | false=>exact hb wh pins s1 σ H1 Q I1 q1
theorem ck (ha:PT X a tA):PT X (.UnaryOp .Not a pos) (F2 tA):=by
 intro pins s σ H Q I h;exact isTrue_not (ha pins s σ H (fun c H1=>Q (!c) H1) I h)
abbrev Fc (ta tb:TE):TE:=fun σ H Q=>ta σ H fun x H1=>∃ c,x=.bl c∧if c=true then tb σ H1 Q else Q (.bl false) H1
abbrev E8 (ta:TE):TE:=fun σ H Q=>ta σ H fun x H1=>∃ c,x=.bl c∧Q (.bl (!c)) H1
theorem Am {op}{t:TE}(h:PE X a t):PE X (.BoolOp op [a] pos) t:=fun pins s σ H Q I hw=>BoolOp_one (h pins s σ H Q I hw)
theorem Au (ha:PE X a ta)(hb:PE X (.BoolOp .And (b::rest) pos) tb):PE X (.BoolOp .And (a::b::rest) pos) (Fc ta tb):=by
 intro pins s σ H Q I h;refine BoolOp_and (thn (ha pins s σ H _ I h) fun v s1 ⟨x,H1,I1,r1,q1⟩ =>?_);obtain⟨c,rfl,q1⟩:=q1;cases r1;refine wpAny_truthy_bool ?_;cases c with
 | true=>exact hb pins s1 σ H1 Q I1 q1
 | false=>exact⟨.bl false,H1,I1,rfl,q1⟩
theorem D5 (ha:PE X a ta):PE X (.UnaryOp .Not a pos) (E8 ta):=by
 intro pins s σ H Q I h;refine UnaryOp_ (thn (ha pins s σ H _ I h) fun v s1 ⟨x,H1,I1,r1,q1⟩ =>?_);obtain⟨c,rfl,q1⟩:=q1;cases r1;exact not_of (wpAny_truthy_bool ⟨.bl (!c),H1,I1,rfl,q1⟩)
abbrev tIf (t:TT)(ta tb:TE):TE:=fun σ H Q=>t σ H fun c H1=>if c=true then ta σ H1 Q else tb σ H1 Q
theorem Ao {c:Expr}(hc:PT X c tA)(ha:PE X a ta)(hb:PE X b tb):PE X (.IfExp c a b pos) (tIf tA ta tb):=by
 intro pins s σ H Q I h;refine wpAny_IfExp (thn (hc pins s σ H _ I h) fun d s1 ⟨H1,I1,q1⟩ =>?_);cases d with
 | true=>exact ha pins s1 σ H1 Q I1 q1
 | false=>exact hb pins s1 σ H1 Q I1 q1
end
def SqL (K:PySem.W.Frag)(H:Hp)(a:Addr)(xs:List V):Prop :=
 Rd H a (.lst xs) ∨
  ∃ (o:Obj) (its:Array Value) (n:Nat),K.lookup a=some o∧o.cls=.type "list" ∧ o.dict=none∧o.data=.seq its n∧its.size≤sizeLine∧aN xs its.toList
def SqT (K:PySem.W.Frag)(H:Hp)(a:Addr)(xs:List V):Prop :=
 Rd H a (.tup xs) ∨
  ∃ (o:Obj) (its:Array Value) (n:Nat),K.lookup a=some o∧o.cls=.type "tuple" ∧ o.data=.seq its n∧its.size≤sizeLine∧aN xs its.toList
def Gr:Value→Option V
 | .none=>some .non
 | .bool b=>some (.bl b)
 | .int i _=>some (.int i)
 | .str x _=>some (.str x)
 | .bytes b _=>some (.byt b)
 | .float b _=>some (.flt b)
 | .ref a=>some (.ref a)
 | .type n=>some (.ty n)
 | _=>none
theorem aV.abs {x:V}{u:Value}(r:aV x u):Gr u=some x:=by
 cases x with
 | non=>cases r;rfl
 | bl _=>cases r;rfl
 | int _=>obtain⟨t,rfl⟩:=r;rfl
 | str _=>obtain⟨t,rfl⟩:=r;rfl
 | byt _=>obtain⟨t,rfl⟩:=r;rfl
 | flt _=>obtain⟨t,rfl⟩:=r;rfl
 | ref _=>cases r;rfl
 | ty _=>cases r;rfl
theorem aV.inj {x y:V}{u:Value}(r:aV x u)(q:aV y u):x=y:=Option.some.inj (r.abs.symm.trans q.abs)
theorem aN.inj:∀ {xs ys:List V} {us:List Value},aN xs us→aN ys us→xs=ys
 | _,_,_,.nil,.nil=>rfl
 | _,_,_,.cons r t,.cons r' t'=>by rw[r.inj r',aN.inj t t']
section
variable {pins:List (Addr × Obj)}{σ:St}{a:Addr}{xs ys:List V}
theorem SqL.of {K:PySem.W.Frag}(h:H a=some (.lst xs)):SqL K H a xs:=.inl (.inl h)
theorem SqT.of {K:PySem.W.Frag}(h:H a=some (.tup xs)):SqT K H a xs:=.inl (.inl h)
theorem Inv.list (I:Inv X pins σ H s)(h:SqL X.K H a xs):∃ its:List Value,aN xs its∧PlainL s.heap a its.toArray∧xs.length≤sizeLine:=by
 rcases h with h|⟨o,its,n,hk,hc,hd,hs,hz,r⟩
 ·obtain⟨z,its,n,r,e⟩:=h.ok I.hok;exact⟨its,r,⟨_,n,e,rfl,rfl,rfl⟩,z⟩
 ·refine⟨its.toList,r,⟨o,n,I.kIn a o hk,hc,hd,by simpa using hs⟩,?_⟩;have e:=r.length;simp only[G5]at e
  lia
theorem Inv.tuple (I:Inv X pins σ H s)(h:SqT X.K H a xs):∃ its:List Value,aN xs its∧IsTup s.heap a its.toArray∧xs.length≤sizeLine:=by
 rcases h with h|⟨o,its,n,hk,hc,hs,hz,r⟩
 ·obtain⟨z,its,r,p⟩:=h.ok I.hok;exact⟨its,r,p,z⟩
 ·refine⟨its.toList,r,⟨o,I.kIn a o hk,hc,n,by simpa using hs⟩,?_⟩;have e:=r.length;simp only[G5]at e
  lia
theorem Inv.list_inj (I:Inv X pins σ H s)(h:SqL X.K H a xs)(h':SqL X.K H a ys):xs=ys:=by
 obtain⟨its,r,⟨o,n,e,_,_,d⟩,_⟩:=I.list h;obtain⟨its',r',⟨o',n',e',_,_,d'⟩,_⟩:=I.list h';rw[e]at e';cases e';rw[d]at d';injection d' with d1 _
 have:its=its':=by simpa using Hn Array.toList d1
 subst this;exact r.inj r'
theorem Inv.tuple_inj (I:Inv X pins σ H s)(h:SqT X.K H a xs)(h':SqT X.K H a ys):xs=ys:=by
 obtain⟨its,r,⟨o,e,_,n,d⟩,_⟩:=I.tuple h;obtain⟨its',r',⟨o',e',_,n',d'⟩,_⟩:=I.tuple h';rw[e]at e';cases e';rw[d]at d';injection d' with d1 _
 have:its=its':=by simpa using Hn Array.toList d1
 subst this;exact r.inj r'
end
abbrev Cx.wish (X:Cx)(E:Value→Shared→Prop):Cx:={ X with xe:=E }
abbrev Cx.nox (X:Cx):Cx:=X.wish fun _ _=>False
theorem Cx.Ok.wish {X:Cx}(ok:X.Ok)(E:Value→Shared→Prop):(X.wish E).Ok :=
 ⟨ok.mod,ok.kind,ok.glob,ok.blt,ok.above,ok.inj,ok.has,ok.cab,ok.hd,ok.frames,ok.stk,ok.exf,ok.bs,ok.bsz,ok.noex,ok.exfs,ok.funs,ok.frf⟩
theorem Cx.Ok.unwish {X:Cx}{E:Value→Shared→Prop}(ok:(X.wish E).Ok):X.Ok :=
 ⟨ok.mod,ok.kind,ok.glob,ok.blt,ok.above,ok.inj,ok.has,ok.cab,ok.hd,ok.frames,ok.stk,ok.exf,ok.bs,ok.bsz,ok.noex,ok.exfs,ok.funs,ok.frf⟩
section
variable {pins:List (Addr × Obj)}{σ:St}{E:Value→Shared→Prop}
theorem Inv.wish (I:Inv X pins σ H s)(E:Value→Shared→Prop):Inv (X.wish E) pins σ H s:=⟨I.ok.wish E,I.os,I.bare,I.base,I.loc,I.cell,I.free,I.freeC,I.pin,I.hok,I.len⟩
theorem Inv.unwish (I:Inv (X.wish E) pins σ H s):Inv X pins σ H s:=⟨I.ok.unwish,I.os,I.bare,I.base,I.loc,I.cell,I.free,I.freeC,I.pin,I.hok,I.len⟩
theorem SP.unwish {D:lh}{f:Flow}{s':Shared}(h:SP (X.wish E) pins D f s'):SP X pins D f s':=by
 cases f with
 | next=>obtain⟨σ',H',I,q⟩:=h;exact⟨σ',H',I.unwish,q⟩
 | brk=>obtain⟨σ',H',I,q⟩:=h;exact⟨σ',H',I.unwish,q⟩
 | cont=>obtain⟨σ',H',I,q⟩:=h;exact⟨σ',H',I.unwish,q⟩
 | ret u=>obtain⟨v,σ',H',I,r,q⟩:=h;exact⟨v,σ',H',I.unwish,r,q⟩
theorem PSs.nox {st:List Stmt}{t:TS}(h:PSs X.nox st t):PSs X st t:=fun pins s σ H D I hw =>
 Ho (h pins s σ H D (I.wish _) hw) (fun _ _ q=>q.unwish) fun _ _ z=>False.elim z
end
section
variable {st:Stmt}{rest:List Stmt}{t u:TS}{e:Expr}{te:TE}
abbrev Dp:TS:=fun D σ H=>D.nx σ H
abbrev x6 (t u:TS):TS:=fun D σ H=>t { D with nx:=u D } σ H
theorem aE:PSs X [] Dp:=fun _ _ σ H _ I h=>wpAny_execs_nil ⟨σ,H,I,h⟩
theorem ac (h1:PS X st t)(h2:PSs X rest u):PSs X (st::rest) (x6 t u):=by
 intro pins s σ H D I h;refine wpAny_execs_cons (thn (h1 pins s σ H { D with nx:=u D } I h) fun f s1 q =>?_);cases f with
 | next =>
  obtain⟨σ',H',I',q⟩:=q;exact h2 pins s1 σ' H' D I' q
 | ret v=>exact q
 | brk=>exact q
 | cont=>exact q
theorem ag (h1:PS X st t):PSs X [st] t:=by
 intro pins s σ H D I h;refine wpAny_execs_cons (thn (h1 pins s σ H D I h) fun f s1 q =>?_);cases f with
 | next=>exact wpAny_execs_nil q
 | ret v=>exact q
 | brk=>exact q
 | cont=>exact q
theorem Inv.quiet {pins:List (Addr × Obj)}{σ:St}{H:Hp}{s:Shared}(I:Inv X pins σ H s):interactive X.env=false:=by simp[interactive,I.ok.kind]
abbrev Fa (te:TE):TS:=fun D σ H=>te σ H fun _ H1=>D.nx σ H1
theorem bz (he:PE X e te)(hs:swapsWith e none pos.line X.env=pure false:=by rfl):PS X (.Expr e pos) (Fa te):=by
 intro pins s σ H D I h;exact wpAny_Expr_any (thn (he pins s σ H _ I h) fun v s1 ⟨x,H1,I1,r1,q1⟩=>⟨σ,H1,I1,q1⟩) I.quiet hs
abbrev E5 (te:TE):TS:=fun D σ H=>te σ H D.rt
theorem av (he:PE X e te):PS X (.Return (some e) pos) (E5 te):=by
 intro pins s σ H D I h;exact wpAny_Return_some (thn (he pins s σ H _ I h) fun v s1 ⟨x,H1,I1,r1,q1⟩=>⟨x,σ,H1,I1,r1,q1⟩)
abbrev E_ (c:TT)(t u:TS):TS:=fun D σ H=>c σ H fun b H1=>if b=true then t D σ H1 else u D σ H1
theorem aR {c:Expr}{a b:List Stmt}{tc:TT}(hc:PT X c tc)(ha:PSs X a t)(hb:PSs X b u):PS X (.If c a b pos) (E_ tc t u):=by
 intro pins s σ H D I h;refine wpAny_If (thn (hc pins s σ H _ I h) fun d s1 ⟨H1,I1,q1⟩ =>?_);cases d with
 | true=>exact ha pins s1 σ H1 D I1 q1
 | false=>exact hb pins s1 σ H1 D I1 q1
def DL:TS:=fun _ _ _=>False
theorem tK:PS X st DL:=fun _ _ _ _ _ _ h=>h.elim
end
abbrev TG:=V→St→Hp→(St→Hp→Prop)→Prop
abbrev TGs:=List V→St→Hp→(St→Hp→Prop)→Prop
def PG (X:Cx)(target:Expr)(t:TG):Prop :=
 ∀ (pins:List (Addr × Obj)) (s:Shared) (σ:St) (H:Hp) (v:V) (u:Value) (Q:St→Hp→Prop),Inv X pins σ H s→aV v u→t v σ H Q →
  wpAny (model X.prog X.w) X.A (assign target X.env u) (fun _ s'=>∃ σ' H',Inv X pins σ' H' s'∧Q σ' H') X.xe s
def PGs (X:Cx)(ts:List Expr)(t:TGs):Prop :=
 ∀ (pins:List (Addr × Obj)) (s:Shared) (σ:St) (H:Hp) (vs:List V) (us:List Value) (Q:St→Hp→Prop),Inv X pins σ H s→aN vs us→t vs σ H Q →
  wpAny (model X.prog X.w) X.A (assignInOrder ((assignEach ts X.env).map (·.2)) us) (fun _ s'=>∃ σ' H',Inv X pins σ' H' s'∧Q σ' H') X.xe s
abbrev EV:=V→V→V→Hp→(Hp→Prop)→Prop
def FX (X:Cx)(t:EV):Prop :=
 ∀ (pins:List (Addr × Obj)) (s:Shared) (σ:St) (H:Hp) (o i v:V) (ov iv u:Value) (Q:Hp→Prop),Inv X pins σ H s→aV o ov→aV i iv→aV v u→t o i v H Q →
  wpAny (model X.prog X.w) X.A (setItem ov iv u) (fun _ s'=>∃ H',Inv X pins σ H' s'∧Q H') X.xe s
section
abbrev py (i:Nat):TG:=fun v σ H Q=>Q (σ.set i (some v)) H
theorem rK {i:Nat}{x:Str}(hN:X.N.Nodup)(hi:X.N[i]? = some x)(hx:Loc X.env.scope x)(hf:X.fn x=true∨X.env.scope.names.lookup x=some .local:=by first | exact .inl rfl | exact .inr rfl | assumption):PG X (.Name x pos) (py i):=by
 intro pins s σ H v u Q I r h;exact wpAny_assign_Name (n8 I hN hi hx r (fun s' I'=>⟨_,H,I',h⟩) hf)
def Gm:TGs:=fun vs σ H Q=>vs=[]∧Q σ H
inductive BO (t:TG)(u:TGs)(vs:List V)(σ:St)(H:Hp)(Q:St→Hp→Prop):Prop
 | mk (v r:_) (h_0:vs=v::r) (h_1:t v σ H fun σ' H'=>u r σ' H' Q):BO t u vs σ H Q
def FN (t:TG)(u:TGs):TGs:=fun vs σ H Q=>BO t u vs σ H Q
theorem iw:PGs X [] Gm:=by
 intro pins s σ H vs us Q I r h;obtain⟨e,h⟩:=h;subst e;cases r;exact assignInOrder_nil ⟨σ,H,I,h⟩
theorem bw {e:Expr}{es:List Expr}{t:TG}{u:TGs}(h1:PG X e t)(h2:PGs X es u)
  (hs:(assignEach (e::es) X.env).map (·.2)=assign e X.env::(assignEach es X.env).map (·.2):=by rfl):PGs X (e::es) (FN t u):=by
 intro pins s σ H vs us Q I r h;obtain⟨v,vr,e1,h⟩:=h;subst e1;cases r with
 | cons r rr =>
  rw[hs];refine assignInOrder_cons (thn (h1 pins s σ H _ _ _ I r h) fun _ s1 ⟨σ1,H1,I1,q1⟩ =>?_);exact h2 pins s1 σ1 H1 _ _ Q I1 rr q1
inductive DC (K:PySem.W.Frag)(n:Nat)(t:TGs)(v:V)(σ:St)(H:Hp)(Q:St→Hp→Prop):Prop
 | mk (a xs:_) (h_0:v=.ref a) (h_1:SqT K H a xs) (h_2:xs.length=n) (h_3:t xs σ H Q):DC K n t v σ H Q
def FM (K:PySem.W.Frag)(n:Nat)(t:TGs):TG:=fun v σ H Q=>DC K n t v σ H Q
theorem j8 {es:List Expr}{k:Nat}{t:TGs}{n:Nat}(hc:X.calm=true)(h:PGs X es t)
  (hn:(assignEach es X.env).length=n:=by rfl) (hst:(assignEach es X.env).findIdx? (·.1)=none:=by rfl):PG X (.Tuple es k pos) (FM X.K n t):=by
 intro pins s σ H v u Q I r hw;obtain⟨a,xs,e1,hq,hl,hw⟩:=hw;subst e1;cases r;obtain⟨its,rv,ht,hz⟩:=I.tuple hq;refine assign_Tuple_tuple (I.ok.hd hc) ht (by simp[hn,← hl,rv.length]) hst fun h' hx =>?_;have I1:Inv X pins σ H { s with heap:=h' }:=I.kept (t':=s.toks) fun b o e=>hx b o (G3 (GJ e)) e;exact h pins _ σ H xs _ Q I1 (by simpa using rv) hw
abbrev Gk (to ti:TE)(t:EV):TG:=fun v σ H Q=>to σ H fun o H1=>ti σ H1 fun i H2=>t o i v H2 fun H3=>Q σ H3
theorem Ai {o i:Expr}{to ti:TE}{t:EV}(ho:PE X o to)(hi:PE X i ti)(hs:FX X t)
  (ha:∀ v,assign (.Subscript o i pos) X.env v=(do
   let ov ← holding [v] (eval o X.env)
   let iv ← holding [v,ov] (eval i X.env)
   standAt pos
   holding [v,ov,iv] (setItem ov iv v)
   release [v,ov,iv] []):=by intro _;rfl):PG X (.Subscript o i pos) (Gk to ti t):=by
 intro pins s σ H v u Q I r h;rw[ha];refine Gw (wpAny_holding (thn (ho pins s σ H _ I h) fun ov s1 ⟨x,H1,I1,r1,q1⟩ =>?_));refine Gw (wpAny_holding (thn (hi pins s1 σ H1 _ I1 q1) fun iv s2 ⟨y,H2,I2,r2,q2⟩ =>?_));refine Gw (wpAny_standAt (Gw (wpAny_holding (thn (hs pins s2 σ H2 x y v ov iv u _ I2 r1 r2 r q2) fun _ s3 ⟨H3,I3,q3⟩ =>?_))));exact wpAny_release ⟨σ,H3,I3,q3⟩
abbrev B6 (te:TE)(g:TG):TS:=fun D σ H=>te σ H fun x H1=>g x σ H1 D.nx
theorem vL {tg e:Expr}{te:TE}{g:TG}(he:PE X e te)(hg:PG X tg g)(hs:swapsWithSole [tg] e pos.line X.env=pure false:=by rfl)(hw:swappedStores [tg] e X.env=pure none:=by rfl)
  (h1:(assignEach [tg] X.env).map (·.2)=[assign tg X.env]:=by rfl):PS X (.Assign [tg] e pos) (B6 te g):=by
 intro pins s σ H D I h;refine wpAny_Assign_stores (thn (he pins s σ H _ I h) fun v s1 ⟨x,H1,I1,r1,q1⟩ =>?_) hs hw;rw[h1];exact thn (hg pins s1 σ H1 x v _ I1 r1 q1) fun _ s2 q=>q
theorem vK {i:Nat}{x:Str}{e:Expr}{te:TE}{pos':Pos}(hN:X.N.Nodup)(hi:X.N[i]? = some x)(hx:Loc X.env.scope x)(he:PE X e te)(hs:swapsWith e (some (.Name x pos')) pos.line X.env=pure false:=by rfl)(hf:X.fn x=true∨X.env.scope.names.lookup x=some .local:=by first | exact .inl rfl | exact .inr rfl | assumption):
  PS X (.Assign [.Name x pos'] e pos) (B6 te (py i)):=by
 intro pins s σ H D I h;refine wpAny_Assign_Name (thn (he pins s σ H _ I h) fun v s1 ⟨y,H1,I1,r1,q1⟩ =>?_) hs;exact n8 I1 hN hi hx r1 (fun s2 I2=>⟨_,H1,I2,q1⟩) hf
def zF (c:TT)(tb:TS):TS:=fun D σ H=>∃ W:Nat→St→Hp→Prop,(∃ m,W m σ H)∧∀ m σ H,W m σ H →
 c σ H fun b H1=>if b=true then ∃ N:St→Hp→Prop,(∀ σ' H',N σ' H'→∃ m',m' < m∧W m' σ' H')∧tb { D with nx:=N,ct:=N,bk:=D.nx } σ H1 else D.nx σ H1
theorem kE {c:Expr}{body:List Stmt}{tc:TT}{tb:TS}(hp:PassesOwn (model X.prog X.w) X.A X.env X.xe)(hc:PT X c tc)(hb:PSs X body tb):PS X (.While c body [] pos) (zF tc tb):=by
 intro pins s σ H D I h;obtain⟨W,⟨m0,w0⟩,turn⟩:=h;refine wpAny_While (codeAny_whileLoop (fun n s'=>∃ σ' H',Inv X pins σ' H' s'∧W n σ' H') ?_ m0 ⟨σ,H,I,w0⟩);rintro n s1 ⟨σ1,H1,I1,w1⟩;refine wpAny_passesOwn hp (thn (hc pins s1 σ1 H1 _ I1 (turn n σ1 H1 w1)) fun b s2 ⟨H2,I2,q2⟩ =>?_);cases b with
 | true =>
  obtain⟨N,hN,q2⟩:=q2;rw[if_pos rfl];refine wpAny_passesOwn hp (thn (hb pins s2 σ1 H2 _ I2 q2) fun f s3 q3 =>?_);cases f with
  | next =>
   obtain⟨σ3,H3,I3,n3⟩:=q3;obtain⟨m',hm,w3⟩:=hN σ3 H3 n3;exact⟨m',hm,σ3,H3,I3,w3⟩
  | cont =>
   obtain⟨σ3,H3,I3,n3⟩:=q3;obtain⟨m',hm,w3⟩:=hN σ3 H3 n3;exact⟨m',hm,σ3,H3,I3,w3⟩
  | brk=>exact q3
  | ret v=>exact q3
 | false =>
  rw[if_neg GM];exact wpAny_execs_nil ⟨σ1,H2,I2,q2⟩
end
structure It where
 go:Nat→Hp→Prop
 yld:Nat→Hp→V→Hp→Prop
 stop:Nat→Hp→Prop
def u_ (X:Cx)(pins:List (Addr × Obj))(H:Hp)(b:Addr):Prop :=
 H b=none∧b≠X.env.locals∧b∉X.fs∧(b∈X.ex∨X.s₀.heap.objs.size≤b)∧(∀ x c,X.env.cells.lookup x=some c→c≠b)∧∀ p∈X.pn++pins,p.1≠b
theorem Inv.fpOk {X:Cx}{pins:List (Addr × Obj)}{σ:St}{H H':Hp}{s:Shared}{b:Addr}(I:Inv X pins σ H s)(hb:s.heap.objs.size≤b)(hn:H' b=none):u_ X pins H' b:=by
 refine⟨hn,Ij (GK I.lt hb),I.nofs hb,.inr (G8 I.sz hb),fun x c e z =>?_,fun p hp z =>?_⟩
 ·obtain⟨v,q⟩:=I.cell x c e;exact absurd (GK q.lt (by rw[z];exact hb)) (H_ _)
 ·exact absurd (GK (GJ (I.pin p hp).1) (by rw[z];exact hb)) (H_ _)
structure zn (P:Program)(w:World)(K:PySem.W.Frag)(tg:Expr)(J:It)(fp:List Addr)(it:Addr)(tn:Nat→Heap→Prop):Prop where
 mem:it∈fp
 obj:∀ i h,tn i h→∀ b∈fp,∃ o,h.get? b=some o∧∀ v,o.data≠.cell v
 keep:∀ i h h',tn i h→(∀ b∈fp,∀ o,h.get? b=some o→h'.get? b=some o)→tn i h'
 item:∀ (X:Cx),X.prog=P→X.w=w→X.K=K→X.calm=true→∀ (i:Nat) (pins:List (Addr × Obj)) (s:Shared) (σ:St) (H:Hp) (E:Value→Shared→Prop),Inv X pins σ H s→(∀ b∈fp,u_ X pins H b)→tn i s.heap→J.go i H →
  wpAny (model P w) X.A (pyNext (.ref it)) (fun r s1=>∃ u,r=some u ∧
   wpAny (model P w) X.A (letOwnedTupleGo tg (.ref it) u) (fun _ s2=>∃ x H',Inv X pins σ H' s2∧aV x u∧J.yld i H x H'∧tn (i + 1) s2.heap∧∀ b∈fp,H' b=none) E s1) E s
 done:∀ (X:Cx),X.prog=P→X.w=w→X.K=K→X.calm=true→∀ (i:Nat) (pins:List (Addr × Obj)) (s:Shared) (σ:St) (H:Hp) (E:Value→Shared→Prop),Inv X pins σ H s→(∀ b∈fp,u_ X pins H b)→tn i s.heap→J.stop i H →
  wpAny (model P w) X.A (pyNext (.ref it)) (fun r s1=>r=none∧Inv X pins σ H s1) E s
 self:∀ (A:Around) (i:Nat) (s:Shared) (Q:Value→Shared→Prop) (E:Value→Shared→Prop),tn i s.heap→Q (.ref it) s→wpAny (model P w) A (pyIter (.ref it)) Q E s
abbrev TI:=St→Hp→(It→Hp→Prop)→Prop
def PIE (X:Cx)(pins:List (Addr × Obj))(σ:St)(tg:Expr)(R:It→Hp→Prop)(itv:Value)(s2:Shared):Prop :=
 ∃ (it:Addr) (fp:List Addr) (tn:Nat→Heap→Prop) (J:It) (H':Hp),itv=.ref it∧Inv X pins σ H' s2∧zn X.prog X.w X.K tg J fp it tn∧tn 0 s2.heap∧(∀ b∈fp,u_ X pins H' b)∧R J H'
def PI (X:Cx)(tg iter:Expr)(wi:TI):Prop :=
 ∀ (pins:List (Addr × Obj)) (s:Shared) (σ:St) (H:Hp) (R:It→Hp→Prop),Inv X pins σ H s→wi σ H R →
  wpAny (model X.prog X.w) X.A (eval iter X.env) (fun v s1=>wpAny (model X.prog X.w) X.A (pyIter v) (PIE X pins σ tg R) X.xe s1) X.xe s
theorem uv {M:Model}{A:Around}{E:Value→Shared→Prop}{s:Shared}{tg:Expr}{it:Addr}{u:Value}{o:Obj}{n:String}{vs:Array Value}{Q:Unit→Shared→Prop}(ho:s.heap.get? it=some o)(hc:o.cls=.type n)(hd:o.data=.fields vs)
  (hn:["enumerate","zip","dict_itemiterator","dict_reverseitemiterator","odict_iterator","itertools.zip_longest","itertools.pairwise"].contains n=false) (hQ:Q () s):wpAny M A (letOwnedTupleGo tg (.ref it) u) Q E s:=by
 unfold letOwnedTupleGo;cases tg<;>first
  | exact GN hQ
  | (cases u<;>first
    | exact GN hQ
    | (refine Gw (wpAny_load ho ?_)
       rw[hc,hd];show wpAny M A (if (["enumerate","zip","dict_itemiterator","dict_reverseitemiterator","odict_iterator","itertools.zip_longest","itertools.pairwise"].contains n && vs[0]? == some (rawInt _))=true then _ else _) Q E s
       rw[if_neg (by intro h;rw[hn,Bool.false_and]at h;cases h)];exact GN hQ))
def Itl (K:PySem.W.Frag)(a:Addr):It :=
 ⟨fun i H=>∃ xs x,SqL K H a xs∧xs[i]? = some x,fun i H x H'=>H'=H∧∀ xs,SqL K H a xs→xs[i]? = some x,fun i H=>∃ xs,SqL K H a xs∧xs.length≤i⟩
def Itt (K:PySem.W.Frag)(a:Addr):It :=
 ⟨fun i H=>∃ xs x,SqT K H a xs∧xs[i]? = some x,fun i H x H'=>H'=H∧∀ xs,SqT K H a xs→xs[i]? = some x,fun i H=>∃ xs,SqT K H a xs∧xs.length≤i⟩
def Itr (lo:Int)(n:Nat):It:=⟨fun i _=>i < n,fun i H x H'=>H'=H∧x=.int (lo + i),fun i _=>n≤i⟩
theorem xX {P:Program}{w:World}{K:PySem.W.Frag}{tg:Expr}(a it:Addr):zn P w K tg (Itl K a) [it] it (fun i h=>h.IsListIter it a i) where
 mem:=by simp
 obj:=fun i h st b hb=>by
  have e:b=it:=by simpa using hb
  subst e;obtain⟨o,e,c,d⟩:=st;exact⟨o,e,fun v z=>by rw[d]at z;cases z⟩
 keep:=fun i h h' st k=>st.at fun o e=>k it (by simp) o e
 item:=by
  intro X hP hw hK hc i pins s σ H E I hf st hg;subst hP hw hK;obtain⟨xs,x,hq,hx⟩:=hg;obtain⟨its,rv,p,hz⟩:=I.list hq;obtain⟨u,hu,ru⟩:=rv.get hx;obtain⟨f0,f1,f2,f3,f4,f5⟩:=hf it (by simp);refine wpAny_pyNext_list_item st p.isList (x:=u) (by simpa using hu) fun h' st' sb =>?_;have I1:Inv X pins σ H { s with heap:=h' }:=I.turned (t':=s.toks) (fun b o hb e=>(sb.2 b hb).trans e) f0 f1 f3 f4 f5;obtain⟨o,e,c,d⟩:=id st';exact⟨u,rfl,uv (s:={ s with heap:=h' }) e c d (by decide) ⟨x,H,I1,ru,⟨rfl,fun ys hy=>by rw[I.list_inj hy hq];exact hx⟩,st',fun b hb=>(hf b hb).1⟩⟩
 done:=by
  intro X hP hw hK hc i pins s σ H E I hf st hg;subst hP hw hK;obtain⟨xs,hq,hx⟩:=hg;obtain⟨its,rv,p,hz⟩:=I.list hq;obtain⟨f0,f1,f2,f3,f4,f5⟩:=hf it (by simp);have hl:=rv.length;exact wpAny_pyNext_list_end (I.ok.hd hc) st p.isList (by simp;lia) fun h' eb=>⟨rfl,I.turned (t':=s.toks) (fun b o hb e=>eb b o hb e) f0 f1 f3 f4 f5⟩
 self:=fun _ _ _ _ _ st h=>wpAny_pyIter_listiter st h
theorem vf {P:Program}{w:World}{K:PySem.W.Frag}{tg:Expr}(a it:Addr):zn P w K tg (Itt K a) [it] it (fun i h=>h.IsTupleIter it a i) where
 mem:=by simp
 obj:=fun i h st b hb=>by
  have e:b=it:=by simpa using hb
  subst e;obtain⟨o,e,c,d⟩:=st;exact⟨o,e,fun v z=>by rw[d]at z;cases z⟩
 keep:=fun i h h' st k=>st.at fun o e=>k it (by simp) o e
 item:=by
  intro X hP hw hK hc i pins s σ H E I hf st hg;subst hP hw hK;obtain⟨xs,x,hq,hx⟩:=hg;obtain⟨its,rv,p,hz⟩:=I.tuple hq;obtain⟨u,hu,ru⟩:=rv.get hx;obtain⟨f0,f1,f2,f3,f4,f5⟩:=hf it (by simp);refine wpAny_pyNext_tuple_item st (show s.heap.IsTuple a its.toArray from p) (x:=u) (by simpa using hu) fun h' st' sb =>?_;have I1:Inv X pins σ H { s with heap:=h' }:=I.turned (t':=s.toks) (fun b o hb e=>(sb.2 b hb).trans e) f0 f1 f3 f4 f5;obtain⟨o,e,c,d⟩:=id st';exact⟨u,rfl,uv (s:={ s with heap:=h' }) e c d (by decide) ⟨x,H,I1,ru,⟨rfl,fun ys hy=>by rw[I.tuple_inj hy hq];exact hx⟩,st',fun b hb=>(hf b hb).1⟩⟩
 done:=by
  intro X hP hw hK hc i pins s σ H E I hf st hg;subst hP hw hK;obtain⟨xs,hq,hx⟩:=hg;obtain⟨its,rv,p,hz⟩:=I.tuple hq;obtain⟨f0,f1,f2,f3,f4,f5⟩:=hf it (by simp);have hl:=rv.length;exact wpAny_pyNext_tuple_end (I.ok.hd hc) st (show s.heap.IsTuple a its.toArray from p) (by simp;lia) fun h' eb=>⟨rfl,I.turned (t':=s.toks) (fun b o hb e=>eb b o hb e) f0 f1 f3 f4 f5⟩
 self:=fun _ _ _ _ _ st h=>wpAny_pyIter_tupleiter st h
theorem vg {P:Program}{w:World}{K:PySem.W.Frag}{tg:Expr}(it:Addr)(lo:Int)(n:Nat):zn P w K tg (Itr lo n) [it] it (fun i h=>IsRangeIter h it (lo + (i:Nat) * 1) ((n:Int) - (i:Nat)) 1) where
 mem:=by simp
 obj:=fun i h st b hb=>by
  have e:b=it:=by simpa using hb
  subst e;exact⟨_,st,fun v z=>by
   have z':Data.fields _=Data.cell v:=z;cases z'⟩
 keep:=fun i h h' st k=>k it (by simp) _ st
 item:=by
  intro X hP hw hK hc i pins s σ H E I hf st hg;subst hP hw hK;obtain⟨f0,f1,f2,f3,f4,f5⟩:=hf it (by simp);have W:=Walks.range (prog:=X.prog) (w:=X.w) (I.ok.hd hc) it lo 1 n;refine W.item i s _ _ hg st fun v h' tk hv st' kk =>?_;obtain⟨t,rfl⟩:=hv;have I1:Inv X pins σ H { s with heap:=h',toks:=tk }:=I.turned (fun b o hb e=>kk b o (by simpa using hb) e) f0 f1 f3 f4 f5;refine⟨_,rfl,uv (s:={ s with heap:=h',toks:=tk }) (n := "range_iterator") st' rfl rfl (by decide) ⟨.int (lo + i),H,I1,⟨t,?_⟩,⟨rfl,rfl⟩,st',fun b hb=>(hf b hb).1⟩⟩
  rw[Int.mul_one]
 done:=by
  intro X hP hw hK hc i pins s σ H E I hf st hg;subst hP hw hK;obtain⟨f0,f1,f2,f3,f4,f5⟩:=hf it (by simp);exact wpAny_pyNext_range_end (I.ok.hd hc) st (by have:n≤i:=hg;lia) fun h' eb=>⟨rfl,I.turned (t':=s.toks) (fun b o hb e=>eb b o hb e) f0 f1 f3 f4 f5⟩
 self:=fun _ _ _ _ _ st h=>wpAny_pyIter_rangeiter st h
section
variable {tg:Expr}
inductive BN (K:PySem.W.Frag)(R:It→Hp→Prop)(x:V)(H1:Hp):Prop
 | mk (a:_) (h_0:x=.ref a) (h_1:(∃ xs,SqL K H1 a xs)) (h_2:R (Itl K a) H1):BN K R x H1
abbrev FI (K:PySem.W.Frag)(tl:TE):TI:=fun σ H R=>tl σ H fun x H1=>BN K R x H1
abbrev Gh (K:PySem.W.Frag)(tl:TE):TI:=fun σ H R=>tl σ H fun x H1=>∃ a,x=.ref a∧(∃ xs,SqT K H1 a xs)∧R (Itt K a) H1
theorem cO {l:Expr}{tl:TE}(hl:PE X l tl):PI X tg l (FI X.K tl):=by
 intro pins s σ H R I h;refine thn (hl pins s σ H _ I h) fun v s1 ⟨x,H1,I1,r1,q1⟩ =>?_;obtain⟨a,e,⟨xs,hq⟩,q⟩:=q1;subst e;cases r1;obtain⟨its,rv,p,hz⟩:=I1.list hq;refine wpAny_pyIter_list p.isList ?_;refine⟨s1.heap.objs.size,[s1.heap.objs.size],_,_,H1,rfl,I1.kept (t':=s1.toks) fun b o e=>Gx _ e,xX a _,⟨_,GQ _ rfl,rfl,rfl⟩,fun b hb =>?_,q⟩;have e:b=s1.heap.objs.size:=by simpa using hb
 subst e;exact I1.fpOk (GB _) (I1.hok.fresh (GB _))
theorem vM {l:Expr}{tl:TE}(hl:PE X l tl):PI X tg l (Gh X.K tl):=by
 intro pins s σ H R I h;refine thn (hl pins s σ H _ I h) fun v s1 ⟨x,H1,I1,r1,q1⟩ =>?_;obtain⟨a,e,⟨xs,hq⟩,q⟩:=q1;subst e;cases r1;obtain⟨its,rv,p,hz⟩:=I1.tuple hq;refine wpAny_pyIter_tuple (show s1.heap.IsTuple a its.toArray from p) ?_;refine⟨s1.heap.objs.size,[s1.heap.objs.size],_,_,H1,rfl,I1.kept (t':=s1.toks) fun b o e=>Gx _ e,vf a _,⟨_,GQ _ rfl,rfl,rfl⟩,fun b hb =>?_,q⟩;have e:b=s1.heap.objs.size:=by simpa using hb
 subst e;exact I1.fpOk (GB _) (I1.hok.fresh (GB _))
theorem zT {pins:List (Addr × Obj)}{σ:St}{H:Hp}{s:Shared}{R:It→Hp→Prop}{E:Value→Shared→Prop}{lo hi:Int}{t u v:Tok}{tk:Nat}(I:Inv X pins σ H s)(h1:-(2 ^ 62)≤lo)(h2:lo < 2 ^ 62)(h3:-(2 ^ 62)≤hi)(h4:hi < 2 ^ 62)
  (q:R (Itr lo (hi - lo).toNat) H):wpAny (model X.prog X.w) X.A (pyIter (.ref s.heap.objs.size)) (PIE X pins σ tg R) E { s with heap:=s.heap.push { cls:=.type "range",data:=.fields #[.int lo t,.int hi u,.int 1 v] },toks:=tk }:=by
 refine wpAny_pyIter_range (IsRange.new ..) (small_one h1 h2 h3 h4) ?_;have I1:Inv X pins σ H { s with heap:=s.heap.push { cls:=.type "range",data:=.fields #[.int lo t,.int hi u,.int 1 v] },toks:=tk }:=I.kept fun b o e=>Gx _ e
 refine⟨(s.heap.push { cls:=.type "range",data:=.fields #[.int lo t,.int hi u,.int 1 v] }).objs.size,[(s.heap.push { cls:=.type "range",data:=.fields #[.int lo t,.int hi u,.int 1 v] }).objs.size],_,_,H,rfl,
  I1.kept (t':=tk) fun b o e=>Gx _ e,vg _ lo (hi - lo).toNat,?_,fun b hb =>?_,q⟩
 ·have e1:lo + ((0:Nat):Int) * 1=lo:=by simp
  have e2:(((hi - lo).toNat:Nat):Int) - ((0:Nat):Int)=Builtin.Range.rangeSize lo hi 1:=by rw[rangeSize_one];split<;>lia
  show IsRangeIter _ _ (lo + ((0:Nat):Int) * 1) ((((hi - lo).toNat:Nat):Int) - ((0:Nat):Int)) 1;rw[e1,e2];exact GQ _ rfl
 ·have e:b=(s.heap.push { cls:=.type "range",data:=.fields #[.int lo t,.int hi u,.int 1 v] }).objs.size:=by simpa using hb
  subst e;exact I1.fpOk (GB _) (I1.hok.fresh (GB _))
abbrev FH (ta:TA):TI:=fun σ H R=>ta σ H fun vs H1=>∃ j:Int,vs=[.int j]∧-(2 ^ 62)≤j∧j < 2 ^ 62∧R (Itr 0 j.toNat) H1
theorem bT {a:Expr}{ta:TA}{p pos:Pos}(hg:Gl X "range")(hm:X.mg "range" = none)(ha:PA X [a] ta)(hs:starEach [a] X.env=[(false,eval a X.env)]:=by rfl):PI X tg (.Call (.Name "range" p) [a] [] pos) (FH ta):=by
 intro pins s σ H R I h;refine Call_ (ke I hg hm boot_range (PyProof.Rows.callWith_type1 (thn (ha pos pins s σ H _ I h) fun us s1 ⟨vs,H1,I1,r1,q1⟩ =>?_) hs rfl));obtain⟨j,e,q1,q2,q⟩:=q1;subst e;cases r1 with
 | cons r rr =>
  cases rr;obtain⟨t,rfl⟩:=r;exact call_range_1 (zT I1 (by simp) (by simp) q1 q2 (by simpa using q))
abbrev F4 (wi:TI)(g:TG)(tb:TS):TS:=fun D σ H=>wi σ H fun J H1=>∃ W:Nat→Nat→St→Hp→Prop,(∃ m,W 0 m σ H1)∧∀ i m σ H,W i m σ H →
 (J.stop i H∧D.nx σ H)∨(J.go i H∧∃ N:St→Hp→Prop,(∀ σ' H',N σ' H'→∃ m',m' < m∧W (i + 1) m' σ' H')∧∀ x H',J.yld i H x H'→g x σ H' fun σ2 H2=>tb { D with nx:=N,ct:=N,bk:=D.nx } σ2 H2)
def oF (fp:List Addr)(h:Heap):List (Addr × Obj):=fp.filterMap fun b=>(h.get? b).map fun o=>(b,o)
theorem iB {fp:List Addr}{h:Heap}{b:Addr}{o:Obj}(hb:b∈fp)(e:h.get? b=some o):(b,o)∈oF fp h:=List.mem_filterMap.mpr ⟨b,hb,by rw[e];rfl⟩
theorem yM {fp:List Addr}{h:Heap}{p:Addr × Obj}(hp:p∈oF fp h):p.1∈fp∧h.get? p.1=some p.2:=by
 obtain⟨b,hb,e⟩:=List.mem_filterMap.mp hp;cases q:h.get? b with
 | none=>rw[q]at e;cases e
 | some o =>
  rw[q]at e;have e':(b,o)=p:=Option.some.inj e;subst e';exact⟨hb,q⟩
theorem Inv.pinned {pins:List (Addr × Obj)}{σ:St}{H:Hp}{s:Shared}{fp:List Addr}(I:Inv X pins σ H s)(hf:∀ b∈fp,u_ X pins H b)(ho:∀ b∈fp,∃ o,s.heap.get? b=some o∧∀ v,o.data≠.cell v):Inv X (pins++oF fp s.heap) σ H s :=
 I.pins_of fun p hp=>(GS.mp hp).elim (fun z=>I.pin p (GZ _ z)) fun z=>by
  obtain⟨hb,e⟩:=yM z;obtain⟨f0,f1,f2,_⟩:=hf p.1 hb;obtain⟨o,e',d⟩:=ho p.1 hb;rw[e]at e';cases e';exact⟨e,f0,f1,f2,d⟩
theorem Inv.unpinned {pins pl:List (Addr × Obj)}{σ:St}{H:Hp}{s:Shared}(I:Inv X (pins++pl) σ H s):Inv X pins σ H s:=I.pins_of fun p hp=>I.pin p (GZ _ (Hv _ hp))
theorem bg {iter:Expr}{body:List Stmt}{wi:TI}{g:TG}{tb:TS}{pos:Pos}(hp:PassesOwn (model X.prog X.w) X.A X.env X.xe)(hc:X.calm=true)(hi:PI X tg iter wi)(hg:PG X tg g)(hb:PSs X body tb)
  (hs:∀ x,foldedSetIterable iter X.env x=pure x:=by intro _;rfl):PS X (.For tg iter body [] pos) (F4 wi g tb):=by
 intro pins s σ H D I h;refine wpAny_For (thn (hi pins s σ H _ I h) fun v s1 h1=>thn h1 fun itv s2 h2 =>?_) hs;obtain⟨it,fp,tn,J,H2,e,I2,T,st2,f2,W,⟨m0,w0⟩,turn⟩:=h2;subst e
 -- what stays true of the iterator's objects through the loop
 have stat:∀ {H':Hp},(∀ b∈fp,H' b=none)→∀ b∈fp,u_ X pins H' b:=fun hn b hb=>⟨hn b hb,(f2 b hb).2⟩;refine codeAny_forLoop_any (fun n s'=>∃ i σ' H',Inv X pins σ' H' s'∧tn i s'.heap∧(∀ b∈fp,H' b=none)∧W i n σ' H') ?_ m0 ⟨0,σ,H2,I2,st2,fun b hb=>(f2 b hb).1,w0⟩;rintro n s3 ⟨i,σ3,H3,I3,st3,fr3,w3⟩;rcases turn i n σ3 H3 w3 with⟨stop,qn⟩ | ⟨go,N,hN,step⟩
 ·refine wpAny_passesOwn hp (thn (T.done X rfl rfl rfl hc i pins s3 σ3 H3 X.xe I3 (stat fr3) st3 stop) fun r s4 ⟨hr,I4⟩ =>?_);subst hr;exact wpAny_execs_nil ⟨σ3,H3,I4,qn⟩
 ·refine wpAny_passesOwn hp (thn (T.item X rfl rfl rfl hc i pins s3 σ3 H3 X.xe I3 (stat fr3) st3 go) fun r s4 ⟨u,hr,h4⟩ =>?_);subst hr;refine wpAny_passesOwn hp (thn h4 fun _ s5 ⟨x,H5,I5,r5,y5,st5,fr5⟩ =>?_);have I5':=I5.pinned (stat fr5) (T.obj _ _ st5);refine wpAny_passesOwn hp (thn (hg _ s5 σ3 H5 x u _ I5' r5 (step x H5 y5)) fun _ s6 ⟨σ6,H6,I6,q6⟩ =>?_);refine wpAny_passesOwn hp (thn (hb _ s6 σ6 H6 _ I6 q6) fun f s7 q7 =>?_);have again:∀ {σ7:St} {H7:Hp},Inv X (pins++oF fp s5.heap) σ7 H7 s7→N σ7 H7→∃ m,m < n∧∃ i σ' H',Inv X pins σ' H' s7∧tn i s7.heap∧(∀ b∈fp,H' b=none)∧W i m σ' H':=fun {σ7 H7} I7 n7=>by
   obtain⟨m',hm,w7⟩:=hN σ7 H7 n7;refine⟨m',hm,i + 1,σ7,H7,I7.unpinned,T.keep _ _ _ st5 fun b hb o e=>(I7.pin (b,o) (GZ _ (GZ _ (iB hb e)))).1,fun b hb =>?_,w7⟩;obtain⟨o,e,d⟩:=T.obj _ _ st5 b hb;exact (I7.pin (b,o) (GZ _ (GZ _ (iB hb e)))).2.1
  cases f with
  | next=>obtain⟨σ7,H7,I7,n7⟩:=q7;exact again I7 n7
  | cont=>obtain⟨σ7,H7,I7,n7⟩:=q7;exact again I7 n7
  | brk=>obtain⟨σ7,H7,I7,q7⟩:=q7;exact⟨σ7,H7,I7.unpinned,q7⟩
  | ret v=>obtain⟨x7,σ7,H7,I7,r7,q7⟩:=q7;exact⟨x7,σ7,H7,I7.unpinned,r7,q7⟩
end
theorem cI {K:PySem.W.Frag}{a:Addr}{xs:List V}{g:TG}{tb:TS}{D:lh}{σ:St}{H:Hp}(Pv:Nat→St→Hp→Prop)(h0:Pv 0 σ H)(hl:∀ i σ H,i≤xs.length→Pv i σ H→SqL K H a xs)
  (hs:∀ i x σ H,xs[i]? = some x→Pv i σ H→g x σ H fun σ2 H2=>tb { D with nx:=Pv (i + 1),ct:=Pv (i + 1),bk:=D.nx } σ2 H2) (hd:∀ σ H,Pv xs.length σ H→D.nx σ H) :
  ∃ W:Nat→Nat→St→Hp→Prop,(∃ m,W 0 m σ H)∧∀ i m σ H,W i m σ H →
   ((Itl K a).stop i H∧D.nx σ H)∨((Itl K a).go i H∧∃ N:St→Hp→Prop,(∀ σ' H',N σ' H'→∃ m',m' < m∧W (i + 1) m' σ' H')∧∀ x H',(Itl K a).yld i H x H'→g x σ H' fun σ2 H2=>tb { D with nx:=N,ct:=N,bk:=D.nx } σ2 H2):=by
 refine⟨fun i m σ H=>m=xs.length - i∧i≤xs.length∧Pv i σ H,⟨xs.length,by simp,GF _,h0⟩,?_⟩;rintro i m σ H ⟨rfl,hi,p⟩;have q:=hl i σ H hi p;by_cases hlt:i < xs.length
 ·refine .inr ⟨⟨xs,xs[i],q,by simp[hlt]⟩,Pv (i + 1),fun σ' H' p'=>⟨xs.length - (i + 1),by omega,rfl,hlt,p'⟩,fun x H' y =>?_⟩;obtain⟨e,y⟩:=y;subst e;exact hs i x σ _ (y xs q) p
 ·have e:i=xs.length:=by lia
  subst e;exact .inl ⟨⟨xs,q,GB _⟩,hd σ H p⟩
theorem nN {K:PySem.W.Frag}{a:Addr}{xs:List V}{g:TG}{tb:TS}{D:lh}{σ:St}{H:Hp}(Pv:Nat→St→Hp→Prop)(h0:Pv 0 σ H)(hl:∀ i σ H,i≤xs.length→Pv i σ H→SqT K H a xs)
  (hs:∀ i x σ H,xs[i]? = some x→Pv i σ H→g x σ H fun σ2 H2=>tb { D with nx:=Pv (i + 1),ct:=Pv (i + 1),bk:=D.nx } σ2 H2) (hd:∀ σ H,Pv xs.length σ H→D.nx σ H) :
  ∃ W:Nat→Nat→St→Hp→Prop,(∃ m,W 0 m σ H)∧∀ i m σ H,W i m σ H →
   ((Itt K a).stop i H∧D.nx σ H)∨((Itt K a).go i H∧∃ N:St→Hp→Prop,(∀ σ' H',N σ' H'→∃ m',m' < m∧W (i + 1) m' σ' H')∧∀ x H',(Itt K a).yld i H x H'→g x σ H' fun σ2 H2=>tb { D with nx:=N,ct:=N,bk:=D.nx } σ2 H2):=by
 refine⟨fun i m σ H=>m=xs.length - i∧i≤xs.length∧Pv i σ H,⟨xs.length,by simp,GF _,h0⟩,?_⟩;rintro i m σ H ⟨rfl,hi,p⟩;have q:=hl i σ H hi p;by_cases hlt:i < xs.length
 ·refine .inr ⟨⟨xs,xs[i],q,by simp[hlt]⟩,Pv (i + 1),fun σ' H' p'=>⟨xs.length - (i + 1),by omega,rfl,hlt,p'⟩,fun x H' y =>?_⟩;obtain⟨e,y⟩:=y;subst e;exact hs i x σ _ (y xs q) p
 ·have e:i=xs.length:=by lia
  subst e;exact .inl ⟨⟨xs,q,GB _⟩,hd σ H p⟩
theorem bV {lo:Int}{n:Nat}{g:TG}{tb:TS}{D:lh}{σ:St}{H:Hp}(Pv:Nat→St→Hp→Prop)(h0:Pv 0 σ H)
  (hs:∀ i σ H,i < n→Pv i σ H→g (.int (lo + i)) σ H fun σ2 H2=>tb { D with nx:=Pv (i + 1),ct:=Pv (i + 1),bk:=D.nx } σ2 H2) (hd:∀ σ H,Pv n σ H→D.nx σ H) :
  ∃ W:Nat→Nat→St→Hp→Prop,(∃ m,W 0 m σ H)∧∀ i m σ H,W i m σ H →
   ((Itr lo n).stop i H∧D.nx σ H)∨((Itr lo n).go i H∧∃ N:St→Hp→Prop,(∀ σ' H',N σ' H'→∃ m',m' < m∧W (i + 1) m' σ' H')∧∀ x H',(Itr lo n).yld i H x H'→g x σ H' fun σ2 H2=>tb { D with nx:=N,ct:=N,bk:=D.nx } σ2 H2):=by
 refine⟨fun i m σ H=>m=n - i∧i≤n∧Pv i σ H,⟨n,by simp,GF _,h0⟩,?_⟩;rintro i m σ H ⟨rfl,hi,p⟩;by_cases hlt:i < n
 ·refine .inr ⟨hlt,Pv (i + 1),fun σ' H' p'=>⟨n - (i + 1),by lia,rfl,hlt,p'⟩,fun x H' y =>?_⟩;obtain⟨e,y⟩:=y;subst e y;exact hs i σ _ hlt p
 ·have e:i=n:=by lia
  subst e;exact .inl ⟨GB _,hd σ H p⟩
theorem zw {c:TT}{tb:TS}{D:lh}{σ:St}{H:Hp}(Pv:St→Hp→Prop)(μ:St→Hp→Nat)(h0:Pv σ H)
  (hs:∀ σ H,Pv σ H→c σ H fun b H1=>if b=true then tb { D with nx:=fun σ' H'=>Pv σ' H'∧μ σ' H' < μ σ H,ct:=fun σ' H'=>Pv σ' H'∧μ σ' H' < μ σ H,bk:=D.nx } σ H1 else D.nx σ H1)
  (mono:∀ σ H Q Q',(∀ b H1,Q b H1→Q' b H1)→c σ H Q→c σ H Q'):zF c tb D σ H:=by
 refine⟨fun m σ H=>m=μ σ H∧Pv σ H,⟨_,rfl,h0⟩,?_⟩;rintro m σ H ⟨rfl,p⟩;refine mono σ H _ _ (fun b H1 q =>?_) (hs σ H p);cases b with
 | true=>exact⟨_,fun σ' H' ⟨p',l⟩=>⟨_,l,rfl,p'⟩,q⟩
 | false=>exact q
abbrev R2:=V→V→Hp→VK→Prop
def OpR (X:Cx)(f:Value→Value→Sem Value)(r:R2):Prop :=
 ∀ (pins:List (Addr × Obj)) (s:Shared) (σ:St) (H:Hp) (x y:V) (v u:Value) (Q:VK),Inv X pins σ H s→aV x v→aV y u→r x y H Q →
  wpAny (model X.prog X.w) X.A (f v u) (EP X pins σ Q) X.xe s
def UnR (X:Cx)(f:Value→Sem Value)(r:V→Hp→VK→Prop):Prop :=
 ∀ (pins:List (Addr × Obj)) (s:Shared) (σ:St) (H:Hp) (x:V) (v:Value) (Q:VK),Inv X pins σ H s→aV x v→r x H Q →
  wpAny (model X.prog X.w) X.A (f v) (EP X pins σ Q) X.xe s
def fQ (X:Cx)(f:Value)(r:List V→Hp→VK→Prop):Prop :=
 ∀ (pins:List (Addr × Obj)) (s:Shared) (σ:St) (H:Hp) (xs:List V) (us:List Value) (Q:VK),Inv X pins σ H s→aN xs us→r xs H Q →
  wpAny (model X.prog X.w) X.A (call f us) (EP X pins σ Q) X.xe s
abbrev tOp (r:R2)(ta tb:TE):TE:=fun σ H Q=>ta σ H fun x H1=>tb σ H1 fun y H2=>r x y H2 Q
abbrev tUn (r:V→Hp→VK→Prop)(ta:TE):TE:=fun σ H Q=>ta σ H fun x H1=>r x H1 Q
def of2 (Q:Int→Int→Prop):V→V→Prop | .int i,.int j=>Q i j | _,_=>False
theorem nG {Q:Int→Int→Prop}{x y:V}(h:of2 Q x y):∃ i j,x=.int i∧y=.int j∧Q i j:=by
 cases x<;>cases y<;>first | exact⟨_,_,rfl,rfl,h⟩ | exact False.elim h
def rI (C:Int→Int→Prop)(g:Int→Int→V):R2:=fun x y H Q=>of2 (fun i j=>C i j∧Q (g i j) H) x y
def rI0 (g:Int→Int→V):R2:=fun x y H Q=>of2 (fun i j=>Q (g i j) H) x y
theorem cq {Q:Int→Int→Prop}{i j:Int}(h:Q i j):of2 Q (.int i) (.int j):=h
def rU (g:Int→V):V→Hp→VK→Prop:=fun x H Q=>∃ i,x=.int i∧Q (g i) H
section
variable {a b c:Expr}{ta tb tc:TE}
theorem EO (ha:PE X a ta)(hb:PE X b tb){pins:List (Addr × Obj)}{s:Shared}{σ:St}{H:Hp}{R:V→V→Hp→Prop}(I:Inv X pins σ H s)
  (h:ta σ H fun x H1=>tb σ H1 fun y H2=>R x y H2) {Q:Value→Shared→Prop} {f:Value→Value→Sem Value}
  (hf:∀ v u s2 x y H2,Inv X pins σ H2 s2→aV x v→aV y u→R x y H2→wpAny (model X.prog X.w) X.A (f v u) Q X.xe s2) :
  wpAny (model X.prog X.w) X.A (eval a X.env) (fun v s₁=>wpAny (model X.prog X.w) X.A (eval b X.env) (fun u s₂=>wpAny (model X.prog X.w) X.A (f v u) Q X.xe s₂) X.xe s₁) X.xe s:=by
 refine thn (ha pins s σ H _ I h) fun v s1 ⟨x,H1,I1,r1,q1⟩ =>?_;refine thn (hb pins s1 σ H1 _ I1 q1) fun u s2 ⟨y,H2,I2,r2,q2⟩ =>?_;exact hf v u s2 x y H2 I2 r1 r2 q2
theorem ak {op:Operator}{r:R2}(ho:OpR X (binaryOp op) r)(ha:PE X a ta)(hb:PE X b tb):PE X (.BinOp a op b pos) (tOp r ta tb):=by
 intro pins s σ H Q I h;exact wpAny_BinOp (EO ha hb I h fun v u s2 x y H2 I2 rx ry q=>ho pins s2 σ H2 x y v u Q I2 rx ry q)
theorem tO {op:UnaryOp}{r:V→Hp→VK→Prop}(ho:UnR X (unaryOp op) r)(ha:PE X a ta):PE X (.UnaryOp op a pos) (tUn r ta):=by
 intro pins s σ H Q I h;exact UnaryOp_ (thn (ha pins s σ H _ I h) fun v s1 ⟨x,H1,I1,r1,q1⟩=>ho pins s1 σ H1 x v Q I1 r1 q1)
theorem opI {f:Value→Value→Sem Value}{C:Int→Int→Prop}{g:Int→Int→Int}
  (rule:∀ (i j:Int) (t u:Tok) (s:Shared) (Q:Value→Shared→Prop) (E:Value→Shared→Prop),C i j→Q (.int (g i j) s.toks) { s with toks:=s.toks + 1 }→wpAny (model X.prog X.w) X.A (f (.int i t) (.int j u)) Q E s) :
  OpR X f (rI C fun i j=>.int (g i j)):=by
 intro pins s σ H x y v u Q I rx ry h;obtain⟨i,j,rfl,rfl,hc,q⟩:=nG h;obtain⟨t,rfl⟩:=rx;obtain⟨t',rfl⟩:=ry;exact rule i j t t' s _ _ hc ⟨.int (g i j),H,I.tok _,⟨_,rfl⟩,q⟩
theorem Fs {f:Value→Value→Sem Value}{g:Int→Int→Int}
  (rule:∀ (i j:Int) (t u:Tok) (s:Shared) (Q:Value→Shared→Prop) (E:Value→Shared→Prop),Q (.int (g i j) s.toks) { s with toks:=s.toks + 1 }→wpAny (model X.prog X.w) X.A (f (.int i t) (.int j u)) Q E s) :
  OpR X f (rI0 fun i j=>.int (g i j)):=by
 intro pins s σ H x y v u Q I rx ry h;obtain⟨i,j,rfl,rfl,q⟩:=nG h;obtain⟨t,rfl⟩:=rx;obtain⟨t',rfl⟩:=ry;exact rule i j t t' s _ _ ⟨.int (g i j),H,I.tok _,⟨_,rfl⟩,q⟩
theorem D_ {f:Value→Value→Sem Value}{g:Int→Int→Bool}
  (rule:∀ (i j:Int) (t u:Tok) (s:Shared) (Q:Value→Shared→Prop) (E:Value→Shared→Prop),Q (.bool (g i j)) s→wpAny (model X.prog X.w) X.A (f (.int i t) (.int j u)) Q E s) :
  OpR X f (rI0 fun i j=>.bl (g i j)):=by
 intro pins s σ H x y v u Q I rx ry h;obtain⟨i,j,rfl,rfl,q⟩:=nG h;obtain⟨t,rfl⟩:=rx;obtain⟨t',rfl⟩:=ry;exact rule i j t t' s _ _ ⟨.bl (g i j),H,I,rfl,q⟩
def E2 (i j:Int):Prop:=0≤j∧j≤1000000∧i.natAbs < 2 ^ 64
def E3 (i j:Int):Prop:=(-(2 ^ 64) < i∧i < 2 ^ 64)∨(-(2 ^ 64) < j∧j < 2 ^ 64)
theorem E3.ok {i j:Int}(h:E3 i j):IntMulOk i j:=by
 rcases h with⟨h1,h2⟩|⟨h1,h2⟩
 ·exact .of_left (intBits_le_64 h1 h2)
 ·exact .of_right (intBits_le_64 h1 h2)
def zZ:R2:=fun x y H Q=>of2 (fun i j=>Q (.int (i + j)) H) x y
theorem aK:OpR X (binaryOp .Add) zZ:=Fs fun _ _ _ _ _ _ _ q=>add_int q
def zU:R2:=fun x y H Q=>of2 (fun i j=>Q (.int (i - j)) H) x y
theorem gB:OpR X (binaryOp .Sub) zU:=Fs fun _ _ _ _ _ _ _ q=>sub_int q
def zX:R2:=fun x y H Q=>of2 (fun i j=>E3 i j∧Q (.int (i * j)) H) x y
theorem bG:OpR X (binaryOp .Mult) zX:=opI fun _ _ _ _ _ _ _ hc q=>mul_int q hc.ok
def zY:R2:=fun x y H Q=>of2 (fun i j=>0 < j∧Q (.int (i % j)) H) x y
theorem aM:OpR X (binaryOp .Mod) zY:=opI fun i j _ _ _ _ _ hc q=>by
 have h1:(0:Int) < j:=hc;exact mod_int' (by lia) (by rw[Int.fmod_eq_emod_of_nonneg i (by lia)];exact q)
def zW:R2:=fun x y H Q=>of2 (fun i j=>E2 i j∧Q (.int (i ^ j.toNat)) H) x y
theorem Ay:OpR X (binaryOp .Pow) zW:=opI fun _ _ _ _ _ _ _ hc q=>pow_int_small hc.1 hc.2.1 hc.2.2 q
def zV:R2:=fun x y H Q=>of2 (fun i j=>E2 i j∧Q (.int (i * 2 ^ j.toNat)) H) x y
theorem vP:OpR X (binaryOp .LShift) zV:=opI fun _ _ _ _ _ _ _ hc q=>lshift_int_small hc.1 hc.2.1 hc.2.2 q
theorem unI {f:Value→Sem Value}{g:Int→Int}
  (rule:∀ (i:Int) (t:Tok) (s:Shared) (Q:Value→Shared→Prop) (E:Value→Shared→Prop),Q (.int (g i) s.toks) { s with toks:=s.toks + 1 }→wpAny (model X.prog X.w) X.A (f (.int i t)) Q E s) :
  UnR X f (rU fun i=>.int (g i)):=by
 intro pins s σ H x v Q I rx h;obtain⟨i,rfl,q⟩:=h;obtain⟨t,rfl⟩:=rx;exact rule i t s _ _ ⟨.int (g i),H,I.tok _,⟨_,rfl⟩,q⟩
theorem nZ:UnR X (unaryOp .USub) (rU fun i=>.int (-i)):=unI fun _ _ _ _ _ q=>neg_int q
end
def Fe:V→V→Bool
 | .non,.non=>true | .non,.int _=>true | .int _,.non=>true | .non,.bl _=>true | .bl _,.non=>true | .non,.str _=>true | .str _,.non=>true
 | .int _,.int _=>true | .bl _,.bl _=>true | .str _,.str _=>true | .byt _,.byt _=>true
 | .int _,.str _=>true | .str _,.int _=>true | .bl _,.str _=>true | .str _,.bl _=>true
 | _,_=>false
def rEq:R2:=fun x y H Q=>Fe x y=true∧Q (.bl (decide (x=y))) H
def rNe:R2:=fun x y H Q=>Fe x y=true∧Q (.bl (!decide (x=y))) H
theorem xJ {i j:Int}:decide (V.int i=V.int j)=(i == j):=by
 rw[HQ];simp
theorem Bz {i j:Bool}:decide (V.bl i=V.bl j)=(i == j):=by
 rw[HQ];simp
theorem xI {i j:Str}:decide (V.str i=V.str j)=(i == j):=by
 rw[HQ];simp
theorem xK {i j:Array UInt8}:decide (V.byt i=V.byt j)=(i.toList == j.toList):=by
 rw[HQ];cases i;cases j;simp
section
variable {a b c:Expr}{ta tb tc:TE}
theorem aW {pins:List (Addr × Obj)}{σ:St}{H:Hp}{s:Shared}{Q:VK}{k k':Bool}(I:Inv X pins σ H s)(q:Q (.bl k) H)(e:k=k'):EP X pins σ Q (.bool k') s:=by
 subst e;exact⟨.bl k,H,I,rfl,q⟩
theorem dE:OpR X (compareOp .Eq) rEq:=by
 intro pins s σ H x y v u Q I rx ry h;obtain⟨hs,q⟩:=h;cases x with
 | non =>
  cases rx;cases y with
  | non=>cases ry;exact PySem.EqNone.eq_none_none (aW I q (by simp))
  | bl j=>cases ry;exact PySem.EqNone.eq_none_bool (aW I q (by simp))
  | int j=>obtain⟨t',rfl⟩:=ry;exact PySem.EqNone.eq_none_int (aW I q (by simp))
  | str j=>obtain⟨t',rfl⟩:=ry;exact PySem.EqNone.eq_none_str (aW I q (by simp))
  | _=>exact absurd (show false=true from hs) GM
 | bl i =>
  cases rx;cases y with
  | non=>cases ry;exact PySem.EqNone.eq_bool_none (aW I q (by simp))
  | bl j=>cases ry;exact eq_bool (aW I q Bz)
  | str j=>obtain⟨t',rfl⟩:=ry;exact PySem.EqMixed.eq_bool_str (aW I q (by simp))
  | _=>exact absurd (show false=true from hs) GM
 | int i =>
  obtain⟨t,rfl⟩:=rx;cases y with
  | non=>cases ry;exact PySem.EqNone.eq_int_none (aW I q (by simp))
  | int j=>obtain⟨t',rfl⟩:=ry;exact eq_int (aW I q xJ)
  | str j=>obtain⟨t',rfl⟩:=ry;exact PySem.EqMixed.eq_int_str (aW I q (by simp))
  | _=>exact absurd (show false=true from hs) GM
 | str i =>
  obtain⟨t,rfl⟩:=rx;cases y with
  | non=>cases ry;exact PySem.EqNone.eq_str_none (aW I q (by simp))
  | bl j=>cases ry;exact PySem.EqMixed.eq_str_bool (aW I q (by simp))
  | int j=>obtain⟨t',rfl⟩:=ry;exact PySem.EqMixed.eq_str_int (aW I q (by simp))
  | str j=>obtain⟨t',rfl⟩:=ry;exact eq_str (aW I q xI)
  | _=>exact absurd (show false=true from hs) GM
 | byt i =>
  obtain⟨t,rfl⟩:=rx;cases y with
  | byt j=>obtain⟨t',rfl⟩:=ry;exact PySem.W.eq_bytes (aW I q xK)
  | _=>exact absurd (show false=true from hs) GM
 | _=>cases y<;>exact absurd (show false=true from hs) GM
theorem qz:OpR X (compareOp .NotEq) rNe:=by
 intro pins s σ H x y v u Q I rx ry h;obtain⟨hs,q⟩:=h;cases x with
 | non =>
  cases rx;cases y with
  | non=>cases ry;exact PySem.EqNone.ne_none_none (aW I q (by simp))
  | bl j=>cases ry;exact PySem.EqNone.ne_none_bool (aW I q (by simp))
  | int j=>obtain⟨t',rfl⟩:=ry;exact PySem.EqNone.ne_none_int (aW I q (by simp))
  | str j=>obtain⟨t',rfl⟩:=ry;exact PySem.EqNone.ne_none_str (aW I q (by simp))
  | _=>exact absurd (show false=true from hs) GM
 | bl i =>
  cases rx;cases y with
  | non=>cases ry;exact PySem.EqNone.ne_bool_none (aW I q (by simp))
  | bl j=>cases ry;exact ne_bool (aW I q (Hn not Bz))
  | str j=>obtain⟨t',rfl⟩:=ry;exact PySem.EqMixed.ne_bool_str (aW I q (by simp))
  | _=>exact absurd (show false=true from hs) GM
 | int i =>
  obtain⟨t,rfl⟩:=rx;cases y with
  | non=>cases ry;exact PySem.EqNone.ne_int_none (aW I q (by simp))
  | int j=>obtain⟨t',rfl⟩:=ry;exact ne_int (aW I q (Hn not xJ))
  | str j=>obtain⟨t',rfl⟩:=ry;exact PySem.EqMixed.ne_int_str (aW I q (by simp))
  | _=>exact absurd (show false=true from hs) GM
 | str i =>
  obtain⟨t,rfl⟩:=rx;cases y with
  | non=>cases ry;exact PySem.EqNone.ne_str_none (aW I q (by simp))
  | bl j=>cases ry;exact PySem.EqMixed.ne_str_bool (aW I q (by simp))
  | int j=>obtain⟨t',rfl⟩:=ry;exact PySem.EqMixed.ne_str_int (aW I q (by simp))
  | str j=>obtain⟨t',rfl⟩:=ry;exact ne_str (aW I q (Hn not xI))
  | _=>exact absurd (show false=true from hs) GM
 | byt i =>
  obtain⟨t,rfl⟩:=rx;cases y with
  | byt j=>obtain⟨t',rfl⟩:=ry;exact PySem.W.ne_bytes (aW I q (Hn not xK))
  | _=>exact absurd (show false=true from hs) GM
 | _=>cases y<;>exact absurd (show false=true from hs) GM
def Cj:R2:=fun x y H Q=>of2 (fun i j=>Q (.bl (decide (i < j))) H) x y
theorem qA:OpR X (compareOp .Lt) Cj:=D_ fun _ _ _ _ _ _ _ q=>lt_int q
def Ck:R2:=fun x y H Q=>of2 (fun i j=>Q (.bl (decide (i≤j))) H) x y
theorem Az:OpR X (compareOp .LtE) Ck:=D_ fun _ _ _ _ _ _ _ q=>le_int q
def Cm:R2:=fun x y H Q=>of2 (fun i j=>Q (.bl (decide (j < i))) H) x y
theorem oJ:OpR X (compareOp .Gt) Cm:=D_ fun _ _ _ _ _ _ _ q=>gt_int q
theorem qB:OpR X (compareOp .In) (fun x y H Q=>∃ i j,x=.str i∧y=.str j∧Q (.bl (!(Builtin.Str.occurrences j i 0 j.length 1).isEmpty)) H):=by
 intro pins s σ H x y v u Q I rx ry h;obtain⟨i,j,rfl,rfl,q⟩:=h;obtain⟨t,rfl⟩:=rx;obtain⟨t',rfl⟩:=ry;exact in_str (aW I q rfl)
theorem AA:OpR X (compareOp .Is) (fun x y H Q=>y=.non∧Q (.bl (decide (x=.non))) H):=by
 intro pins s σ H x y v u Q I rx ry h;obtain⟨rfl,q⟩:=h;cases ry;refine is_none_gen (aW I q ?_);cases x<;>first
  | (cases rx;rfl)
  | (obtain⟨t,rfl⟩:=rx;rfl)
theorem AJ (b:Expr){op:CmpOp}(h:op≠.In:=by decide)(h2:op≠.NotIn:=by decide):behindInMarks op b=false:=by
 have e1:(op == CmpOp.In)=false:=by cases op<;>first | rfl | exact absurd rfl h
 have e2:(op == CmpOp.NotIn)=false:=by cases op<;>first | rfl | exact absurd rfl h2
 cases b<;>simp[behindInMarks,e1,e2]
theorem iz {op:CmpOp}{r:R2}(ho:OpR X (compareOp op) r)(ha:PE X a ta)(hb:PE X b tb)(hm:behindInMarks op b=false:=by exact AJ _):PE X (.Compare a [op] [b] pos) (tOp r ta tb):=by
 intro pins s σ H Q I h;exact wpAny_Compare1 (EO ha hb I h fun v u s2 x y H2 I2 rx ry q=>ho pins s2 σ H2 x y v u Q I2 rx ry q) hm
abbrev Do (t:TE):TT:=fun σ H Q=>t σ H fun x H1=>ofB (Q · H1) x
theorem ap {Q:Bool→Prop}{c:Bool}(h:Q c):ofB Q (.bl c):=h
theorem AG {Q:Bool→Prop}{x:V}{c:Bool}(e:x=.bl c)(h:Q c):ofB Q x:=by subst e;exact h
theorem Ed {Q:Int→Int→Prop}{x y:V}{i j:Int}(e:x=.int i)(f:y=.int j)(h:Q i j):of2 Q x y:=by subst e f;exact h
theorem aG {op:CmpOp}{r:R2}(ho:OpR X (compareOp op) r)(ha:PE X a ta)(hb:PE X b tb)(hm:behindInMarks op b=false:=by exact AJ _):PT X (.Compare a [op] [b] pos) (Do (tOp r ta tb)):=by
 intro pins s σ H Q I h;refine wpAny_isTrue_Compare1 (thn (ha pins s σ H _ I h) fun v s1 ⟨x,H1,I1,r1,q1⟩=>thn (hb pins s1 σ H1 _ I1 q1) fun u s2 ⟨y,H2,I2,r2,q2⟩ =>
  thn (ho pins s2 σ H2 x y v u _ I2 r1 r2 q2) fun c s3 ⟨z,H3,I3,r3,q3⟩ =>?_) hm
 obtain⟨k,rfl,q3⟩:=kH q3;cases r3;exact wpAny_truthy_bool ⟨H3,I3,q3⟩
abbrev zG (r r':R2)(ta tb tc:TE):TE:=fun σ H Q=>ta σ H fun x H1=>tb σ H1 fun y H2=>r x y H2 fun z H3=>∃ k,z=.bl k ∧
 (if k=true then tc σ H3 fun w' H4=>r' y w' H4 Q else Q (.bl false) H3)
theorem Ar {op op':CmpOp}{r r':R2}(ho:OpR X (compareOp op) r)(ho':OpR X (compareOp op') r')(ha:PE X a ta)(hb:PE X b tb)(hc:PE X c tc)
  (hm:lastMarks [op,op'] [b,c]=false:=by with_unfolding_all rfl):PE X (.Compare a [op,op'] [b,c] pos) (zG r r' ta tb tc):=by
 intro pins s σ H Q I h;refine Compare_chain (thn (ha pins s σ H _ I h) fun v s1 ⟨x,H1,I1,r1,q1⟩=>chain_link (thn (hb pins s1 σ H1 _ I1 q1) fun u s2 ⟨y,H2,I2,r2,q2⟩ =>
  thn (ho pins s2 σ H2 x y v u _ I2 r1 r2 q2) fun d s3 ⟨z,H3,I3,r3,k,e,q3⟩ =>?_)) hm
 subst e;cases r3;refine wpAny_truthy_bool ?_;cases k with
 | false=>exact ite_ff ⟨.bl false,H3,I3,rfl,q3⟩
 | true=>exact ite_tt (chain_last (thn (hc pins s3 σ H3 _ I3 q3) fun w' s4 ⟨z',H4,I4,r4,q4⟩=>ho' pins s4 σ H4 y z' u w' Q I4 r2 r4 q4))
theorem Ad {op op':CmpOp}{r r':R2}(ho:OpR X (compareOp op) r)(ho':OpR X (compareOp op') r')(ha:PE X a ta)(hb:PE X b tb)(hc:PE X c tc)
  (hm:lastMarks [op,op'] [b,c]=false:=by with_unfolding_all rfl):PT X (.Compare a [op,op'] [b,c] pos) (Do (zG r r' ta tb tc)):=by
 intro pins s σ H Q I h;refine isTrue_chain (thn (ha pins s σ H _ I h) fun v s1 ⟨x,H1,I1,r1,q1⟩=>test_link (thn (hb pins s1 σ H1 _ I1 q1) fun u s2 ⟨y,H2,I2,r2,q2⟩ =>
  thn (ho pins s2 σ H2 x y v u _ I2 r1 r2 q2) fun d s3 ⟨z,H3,I3,r3,k,e,q3⟩ =>?_)) hm
 subst e;cases r3;refine wpAny_truthy_bool ?_;cases k with
 | false =>
  exact ite_ff ⟨H3,I3,q3⟩
 | true =>
  refine ite_tt (test_last (thn (hc pins s3 σ H3 _ I3 q3) fun w' s4 ⟨z',H4,I4,r4,q4⟩=>thn (ho' pins s4 σ H4 y z' u w' _ I4 r2 r4 q4) fun d' s5 ⟨z2,H5,I5,r5,q5⟩ =>?_));obtain⟨k2,rfl,q5⟩:=kH q5;cases r5;exact wpAny_truthy_bool ⟨H5,I5,q5⟩
theorem oY:(sizeLine:Nat) < 2 ^ 63:=by rw[sizeLine_eq];decide
theorem cG:OpR X (binaryOp .Add) (fun x y H Q=>∃ i j,x=.str i∧y=.str j∧i.length + j.length≤sizeLine∧Q (.str (i++j)) H):=by
 intro pins s σ H x y v u Q I rx ry h;obtain⟨i,j,rfl,rfl,hz,q⟩:=h;obtain⟨t,rfl⟩:=rx;obtain⟨t',rfl⟩:=ry;exact add_str (fun t' tk=>⟨.str (i++j),H,I.tok _,⟨_,rfl⟩,q⟩) hz
theorem jM {x:V}{us:List Value}(r:aN [x] us):∃ u,us=[u]∧aV x u:=by
 cases r with
 | cons r1 r2=>cases r2;exact⟨_,rfl,r1⟩
theorem ms {x y:V}{us:List Value}(r:aN [x,y] us):∃ u w',us=[u,w']∧aV x u∧aV y w':=by
 cases r with
 | cons r1 r2 =>
  cases r2 with
  | cons r3 r4=>cases r4;exact⟨_,_,rfl,r1,r3⟩
theorem md (hc:X.calm=true):fQ X (.builtin "max") (fun xs H Q=>∃ i j,xs=[.int i,.int j]∧Q (.int (if j > i then j else i)) H):=by
 intro pins s σ H xs us Q I r h;obtain⟨i,j,rfl,q⟩:=h;obtain⟨u,w',rfl,⟨t,rfl⟩,⟨t',rfl⟩⟩:=ms r;refine max_two_ints (I.ok.hd hc) fun h' tk k=>⟨_,H,I.kept k,?_,q⟩;by_cases hj:j > i
 ·rw[if_pos hj,if_pos hj];exact⟨_,rfl⟩
 ·rw[if_neg hj,if_neg hj];exact⟨_,rfl⟩
theorem gZ (hc:X.calm=true):fQ X (.builtin "min") (fun xs H Q=>∃ i j,xs=[.int i,.int j]∧Q (.int (if j < i then j else i)) H):=by
 intro pins s σ H xs us Q I r h;obtain⟨i,j,rfl,q⟩:=h;obtain⟨u,w',rfl,⟨t,rfl⟩,⟨t',rfl⟩⟩:=ms r;refine min_two_ints (I.ok.hd hc) fun h' tk k=>⟨_,H,I.kept k,?_,q⟩;by_cases hj:j < i
 ·rw[if_pos hj,if_pos hj];exact⟨_,rfl⟩
 ·rw[if_neg hj,if_neg hj];exact⟨_,rfl⟩
theorem mf:fQ X (.type "int") (fun xs H Q=>(∃ i,xs=[.int i]∧Q (.int i) H)∨∃ k,xs=[.bl k]∧Q (.int (if k then 1 else 0)) H):=by
 intro pins s σ H xs us Q I r h;rcases h with⟨i,rfl,q⟩ | ⟨k,rfl,q⟩
 ·obtain⟨u,rfl,t,rfl⟩:=jM r;exact call_int_int ⟨.int i,H,I,⟨_,rfl⟩,q⟩
 ·obtain⟨u,rfl,r1⟩:=jM r;cases r1;exact call_int_bool ⟨.int (if k then 1 else 0),H,I.tok _,⟨_,rfl⟩,q⟩
theorem kY:fQ X (.type "str") (fun xs H Q=>∃ i,xs=[.int i]∧i.natAbs.log2 < 1920∧Q (.str (toString i)) H):=by
 intro pins s σ H xs us Q I r h;obtain⟨i,rfl,hz,q⟩:=h;obtain⟨u,rfl,t,rfl⟩:=jM r;exact PySem.P.str_of_int hz ⟨.str _,H,I.tok _,⟨_,rfl⟩,q⟩
def Gv (K:PySem.W.Frag)(x:V)(H:Hp)(n:Nat):Prop :=
 match x with
 | .str y=>y.length≤sizeLine∧n=y.length
 | .byt y=>y.size≤sizeLine∧n=y.size
 | .ref p=>(∃ xs,SqL K H p xs∧n=xs.length)∨∃ xs,SqT K H p xs∧n=xs.length
 | _=>False
theorem bX:fQ X (.builtin "len") (fun xs H Q=>∃ x n,xs=[x]∧Gv X.K x H n∧Q (.int n) H):=by
 intro pins s σ H xs us Q I r h;obtain⟨x,n,rfl,e,q⟩:=h;obtain⟨u,rfl,rx⟩:=jM r;have hl:=oY;have hs:sizeLine=16777216:=sizeLine_eq;cases x with
 | str y =>
  obtain⟨t,rfl⟩:=rx;obtain⟨hy,e'⟩:y.length≤sizeLine∧n=y.length:=e;subst e';exact len_str (by lia) ⟨.int _,H,I.tok _,⟨_,rfl⟩,q⟩
 | byt y =>
  obtain⟨t,rfl⟩:=rx;obtain⟨hy,e'⟩:y.size≤sizeLine∧n=y.size:=e;subst e';exact PySem.W.len_bytes (by lia) ⟨.int _,H,I.tok _,⟨_,rfl⟩,q⟩
 | ref p =>
  cases rx;have e':(∃ xs,SqL X.K H p xs∧n=xs.length)∨∃ xs,SqT X.K H p xs∧n=xs.length:=e;rcases e' with⟨xs,hx,e'⟩ | ⟨xs,hx,e'⟩
  ·subst e';obtain⟨its,r',pl,hz⟩:=I.list hx;have hlen:=r'.length;exact Calls.call_len_list pl.isList (by simp only[GR];lia) ⟨.int xs.length,H,I.tok _,⟨_,by simp only[GR];rw[hlen]⟩,q⟩
  ·subst e';obtain⟨its,r',pl,hz⟩:=I.tuple hx;have hlen:=r'.length;exact len_tuple pl (by simp only[GR];lia) ⟨.int xs.length,H,I.tok _,⟨_,by simp only[GR];rw[hlen]⟩,q⟩
 | _=>exact (show False from e).elim
end
structure EZ (h:Heap)(x dx C:Addr)(mA:Str→Option Value):Prop where
 obj:h.get? x=some (PySem.W.instObj C dx)
 ns:h.Ns1 dx mA
 ne:dx≠x
theorem yP {h:Heap}{dx:Addr}{mA:Str→Option Value}(n:h.Ns1 dx mA):∃ od,h.get? dx=some od∧∀ name,PySem.W.lookIn name od=some (mA name):=by
 obtain⟨o,es,ep,ho,hd,hk,_,hm⟩:=n;refine⟨o,ho,fun name =>?_⟩;have e:=hm name;unfold nsFind findBy at e;rw[← Array.find?_toList]at e;unfold PySem.W.lookIn;rw[hd];dsimp only
 split
 ·rename_i y q
  rw[q]at e;exact Hn some e
 ·rename_i q
  rw[q]at e;have a:es.toList.any (·.refKey)=false:=by
   rw[List.any_eq_false];intro y hy;obtain⟨z,t,hkey⟩:=hk y (Array.mem_toList_iff.mp hy);simp[DictEntry.refKey,hkey]
  have a':¬ es.toList.any (·.refKey)=true:=by rw[a];exact GM
  rw[if_neg a'];exact Hn some e
theorem EZ.look {h:Heap}{x dx C:Addr}{mA:Str→Option Value}(I:EZ h x dx C mA):∃ od,PySem.W.InstAt h x (PySem.W.instObj C dx) C (some od)∧∀ name,PySem.W.lookIn name od=some (mA name) :=
 let ⟨od,ho,hl⟩:=yP I.ns
 ⟨od,⟨I.obj,rfl,rfl,ho⟩,hl⟩
section
variable {w:World}{E:Value→Shared→Prop}{x dx C f:Addr}{mA:Str→Option Value}{name:Str}{v:Value}
end
theorem nj.some_of {v:V}{o:Option Value}(r:nj (some v) o):∃ u,o=some u∧aV v u:=by
 cases o with
 | none=>exact (show False from r).elim
 | some u=>exact⟨u,rfl,r⟩
section
variable {P:Program}{w:World}{H':Hp}{h h':Heap}{a C dx:Addr}{fs fs':List (Str × V)}
theorem C0 (hok:HOk P w H h)(e:H a=some (.ins C dx fs)):∃ mA,EZ h a dx C mA∧(∀ f,nj (fs.lookup f) (mA f))∧PySem.Within mA (fs.map (·.1))∧fs.length≤1000∧H dx=some (.own a):=by
 obtain⟨d,z,ne,ob,mA,n,r,q⟩:=(show bo P w H h a (.ins C dx fs) from hok a _ e);exact⟨mA,⟨ob,n,ne⟩,r,q,z,d⟩
end
structure Cls (K:PySem.W.Frag)(C:Addr):Prop where
 pg:PySem.W.plainGet K C Str.empty=true
 hd:PySem.W.hasDictIn K C=true
 po:PySem.W.plainOver K C=true
 sa:PySem.W.findIn K (.ref C) "__setattr__" = some (some (.builtin "object.__setattr__"))
theorem Cls.get {K:PySem.W.Frag}{C:Addr}(c:Cls K C)(f:Str):PySem.W.plainGet K C f=true:=c.pg
section
variable {pins:List (Addr × Obj)}{σ:St}{a C dx:Addr}{fs:List (Str × V)}{f:Str}{v:V}{E:Value→Shared→Prop}
end
section
variable {o e value:Expr}{f:Str}{pos' tpos:Pos}{ta tv:TE}
end
section
variable {pins:List (Addr × Obj)}{σ:St}{E:Value→Shared→Prop}{Q:Value→Shared→Prop}{c:Value}{b:Bool}
inductive gF (K:PySem.W.Frag)(H:Hp):V→Value→Prop where
 | non:gF K H .non (.type "NoneType")
 | bl (x:Bool):gF K H (.bl x) (.type "bool")
 | int (i:Int):gF K H (.int i) (.type "int")
 | str (x:Str):gF K H (.str x) (.type "str")
 | flt (x:UInt64):gF K H (.flt x) (.type "float")
 | lst {a:Addr} {xs:List V} (e:H a=some (.lst xs)):gF K H (.ref a) (.type "list")
 | frz {a:Addr} {o:Obj} {xs:List V} (e:H a=some (.frz o (.lst xs))):gF K H (.ref a) (.type "list")
 | tup {a:Addr} {xs:List V} (e:H a=some (.tup xs)):gF K H (.ref a) (.type "tuple")
 | dK {a:Addr} {kvs:List (Key × V)} (e:H a=some (.dK kvs)):gF K H (.ref a) (.type "dict")
 | dT {a:Addr} {kvs:List (List Key × V)} (e:H a=some (.dT kvs)):gF K H (.ref a) (.type "dict")
 | ins {a C dx:Addr} {fs:List (Str × V)} (e:H a=some (.ins C dx fs)) (cl:Cls K C) (ha:PySem.W.findIn K (.ref C) "__class__" = some (some (.builtin "object.__class__")))
   (hn:PySem.W.specialIn K (.builtin "object.__class__") "__get__" = some (some (.builtin "getset_descriptor.__get__"))) (htk:PySem.W.takesIn K (.builtin "object.__class__")=some true)
   (hm:PySem.W.mroIn K C (.type "object")=some true):gF K H (.ref a) (.ref C)
theorem yV {x:V}{u t:Value}(I:Inv X pins σ H s)(rx:aV x u)(ty:gF X.K H x t)(e:PySem.W.kitOne X.K t c=some b)(h:∀ tk,Q (.bool b) { s with toks:=tk }):
  wpAny (model X.prog X.w) A (call (.builtin "isinstance") [u,c]) Q E s:=by
 cases ty with
 | non=>cases (show u=Value.none from rx);exact PySem.W.kia_one PySem.W.kitx_none I.kIn True.intro e (fun z=>nomatch z) h
 | bl y=>cases (show u=Value.bool y from rx);exact PySem.W.kia_one PySem.W.kitx_bool I.kIn True.intro e (fun z=>nomatch z) h
 | int i=>obtain⟨t,q⟩:=(show ∃ t,u=Value.int i t from rx);cases q;exact PySem.W.kia_one PySem.W.kitx_int I.kIn True.intro e (fun z=>nomatch z) h
 | str y=>obtain⟨t,q⟩:=(show ∃ t,u=Value.str y t from rx);cases q;exact PySem.W.kia_one PySem.W.kitx_str I.kIn True.intro e (fun z=>nomatch z) h
 | flt y=>obtain⟨t,q⟩:=(show ∃ t,u=Value.float y t from rx);cases q;exact PySem.W.kia_one PySem.W.kitx_float I.kIn True.intro e (fun z=>nomatch z) h
 | @lst a xs ea =>
  cases (show u=Value.ref a from rx);obtain⟨_,_,n,_,h1⟩:=(show bo X.prog X.w H s.heap a (.lst xs) from I.hok a _ ea);exact PySem.W.kia_one PySem.W.kitx_list I.kIn ⟨_,h1,rfl⟩ e (fun z=>nomatch z) h
 | @frz a ob xs ea =>
  cases (show u=Value.ref a from rx);obtain⟨_,_,_,n,_,h1⟩:=(show bo X.prog X.w H s.heap a (.frz ob (.lst xs)) from I.hok a _ ea);exact PySem.W.kia_one PySem.W.kitx_list I.kIn ⟨_,h1,rfl⟩ e (fun z=>nomatch z) h
 | @tup a xs ea =>
  cases (show u=Value.ref a from rx);obtain⟨_,_,_,p⟩:=(show bo X.prog X.w H s.heap a (.tup xs) from I.hok a _ ea);obtain⟨o,h1,h2,_⟩:=p;exact PySem.W.kia_one PySem.W.kitx_tuple I.kIn ⟨o,h1,h2⟩ e (fun z=>nomatch z) h
 | @dK a kvs ea =>
  cases (show u=Value.ref a from rx);obtain⟨_,_,vs,_,p⟩:=(show bo X.prog X.w H s.heap a (.dK kvs) from I.hok a _ ea);obtain⟨o,es,ep,h1,h2,_⟩:=p;exact PySem.W.kia_one PySem.W.kitx_dict I.kIn ⟨o,h1,h2.1⟩ e (fun z=>nomatch z) h
 | @dT a kvs ea =>
  cases (show u=Value.ref a from rx);obtain⟨_,_,xs,_,o,es,ep,h1,h2,_⟩:=(show bo X.prog X.w H s.heap a (.dT kvs) from I.hok a _ ea);exact PySem.W.kia_one PySem.W.kitx_dict I.kIn ⟨o,h1,h2.1⟩ e (fun z=>nomatch z) h
 | @ins a C dx fs ea cl ha hn htk hm =>
  cases (show u=Value.ref a from rx);obtain⟨mA,O,_⟩:=C0 I.hok ea;obtain⟨od,J,_⟩:=O.look;exact PySem.W.kia_one (PySem.W.kitx_own (cl.get _) cl.hd ha hn htk hm) I.kIn J e (fun z=>nomatch z) h
end
structure cz (k:Nat)(A:Around):Prop where
 hd:A.handled=none
 dp:A.depth + 3 * k + 5 < recursionLimit
 un:A.units + 16 * k + 200 < cLine
theorem cz.mono {j k:Nat}{A:Around}(r:cz k A)(h:j≤k):cz j A:=⟨r.hd,by have:=r.dp;lia,by have:=r.un;lia⟩
theorem cz.deeper {k:Nat}{A:Around}(r:cz (k + 1) A)(env:Env):cz k (A.deeper env) :=
 ⟨r.hd,by have:=r.dp;show A.depth + 1 + 3 * k + 5 < _;lia,by have:=r.un;show A.units + 3 + 16 * k + 200 < _;lia⟩
theorem cz.in1 {k:Nat}{A:Around}(r:cz (k + 1) A):cz k A.in1 :=
 ⟨r.hd,by have:=r.dp;show A.depth + 3 * k + 5 < _;lia,by have:=r.un;show A.units + 1 + 16 * k + 200 < _;lia⟩
theorem cz.depth {k:Nat}{A:Around}(r:cz k A):A.depth < recursionLimit:=by have:=r.dp;lia
theorem cz.units {k:Nat}{A:Around}(r:cz k A):A.units + 64 < cLine:=by have:=r.un;lia
abbrev x8:TA:=fun _ H Q=>Q [] H
abbrev tf (ta:TE)(tr:TA):TA:=fun σ H Q=>ta σ H fun x H1=>tr σ H1 fun xs H2=>Q (x::xs) H2
section
variable {e:Expr}{es:List Expr}{te:TE}{t:TA}
theorem af:PA X [] x8:=fun _ _ _ _ H Q I h=>Calls.spliced_nil ⟨[],H,I,.nil,h⟩
theorem aa (ha:PE X e te)(hr:PA X es t)(hs:starEach (e::es) X.env=(false,eval e X.env)::starEach es X.env:=by rfl):PA X (e::es) (tf te t):=by
 intro pos pins s σ H Q I h;rw[hs];show wpAny _ _ (spliced ((false,eval e X.env)::backTo pos (starEach es X.env))) _ _ s;refine Calls.spliced_cons (thn (ha pins s σ H _ I h) fun u s1 ⟨x,H1,I1,r1,q1⟩ =>?_);exact thn (hr pos pins s1 σ H1 _ I1 q1) fun us s2 ⟨xs,H2,I2,r2,q2⟩=>⟨x::xs,H2,I2,.cons r1 r2,q2⟩
abbrev DI (t:TA):TE:=fun σ H Q=>t σ H fun xs H1=>xs.length≤sizeLine∧Nw H1 (.tup xs) fun p H=>Q (.ref p) H
abbrev DM (t:TA):TE:=fun σ H Q=>t σ H fun xs H1=>xs.length≤sizeLine∧Nw H1 (.lst xs) fun p H=>Q (.ref p) H
theorem Ak {x1}(h:PA X es t):PE X (.Tuple es x1 pos) (DI t):=by
 intro pins s σ H Q I hq;refine wpAny_Tuple_spliced (thn (h pos pins s σ H _ I hq) fun us s1 ⟨xs,H1,I1,r,z,q⟩=>⟨by rw[← r.length];exact z,?_⟩);have hf:H1 s1.heap.objs.size=none:=I1.hok.fresh (GB _);refine⟨.ref s1.heap.objs.size,upd H1 s1.heap.objs.size (.tup xs),I1.laid (t':=s1.toks) (fun b u e=>Gx _ e) (GB _) ?_,rfl,q _ hf⟩;exact⟨z,us,r,⟨_,GQ _ rfl,rfl,_,rfl⟩⟩
theorem An (h:PA X es t):PE X (.List es pos) (DM t):=by
 intro pins s σ H Q I hq;refine wpAny_List_spliced (thn (h pos pins s σ H _ I hq) fun us s1 ⟨xs,H1,I1,r,z,q⟩=>⟨by rw[← r.length];exact z,?_⟩);have hf:H1 s1.heap.objs.size=none:=I1.hok.fresh (GB _);refine⟨.ref s1.heap.objs.size,upd H1 s1.heap.objs.size (.lst xs),I1.laid (t':=s1.toks) (fun b u e=>Gx _ e) (GB _) ?_,rfl,q _ hf⟩;exact⟨z,us,0,r,GQ _ rfl⟩
end
abbrev Sp:=List V→Hp→VK→XK→Prop
abbrev CXT:=List Env→Hp→Shared→XK→Value→Shared→Prop
structure wB (P:Program)(w:World)(K:PySem.W.Frag)(mg:Str→Option Value)(base:Heap)(A:Around)(outer:List Env)(s:Shared)(H:Hp):Prop where
 frames:A.frames=some outer
 mod:Mod K mg base
 bs:∀ b o,base.get? b=some o→s.heap.get? b=some o∧H b=none
 bsz:base.objs.size≤s.heap.objs.size
 funs:s.heap.FunFrames base outer
 frf:∀ b∈frs outer,H b=none
 hok:HOk P w H s.heap
 bare:AllBare s.gens
def CE (outer:List Env)(P:Program)(w:World)(H:Hp)(s:Shared)(Q:VK)(u:Value)(s':Shared):Prop :=
 ∃ v H',s'.os=s.os∧AllBare s'.gens∧Un (frs outer) [] H H' s.heap s'.heap∧HOk P w H' s'.heap∧aV v u∧Q v H'
def CR (CX:CXT)(outer:List Env)(P:Program)(w:World)(H:Hp)(s:Shared)(Q:VK)(E:XK)(r:Result)(s':Shared):Prop :=
 match r with
 | .ok (.ret u)=>CE outer P w H s Q u s'
 | .ok _=>False
 | .error e=>CX outer H s E e s'
structure bd (P:Program)(w:World)(K:PySem.W.Frag)(mg:Str→Option Value)(base:Heap)(CX:CXT)(k:Nat)(f:Addr)(fd:FuncData)(ps:List Str)(sp:Sp):Prop where
 len:∀ vs H Q E,sp vs H Q E→vs.length=ps.length
 run:∀ (A:Around) (outer:List Env) (s:Shared) (H:Hp) (args:Args) (us:List Value) (vs:List V) (Q:VK) (E:XK),cz k A→wB P w K mg base A outer s H→BindsTo s fd args (ps.zip us)→aN vs us→sp vs H Q E →
  codeAny (model P w) A (.call (.ref f) args) (CR CX outer P w H s Q E) s
section
variable {pins:List (Addr × Obj)}{σ:St}{s':Shared}
theorem Inv.env0 (I:Inv X pins σ H s):wB X.prog X.w X.K X.mg X.base X.A X.stack s H :=
 ⟨I.ok.frames,I.ok.mod,I.bs,G8 I.ok.bsz I.sz,I.stack,I.stkFree,I.hok,I.bare⟩
theorem Inv.after {Q:VK}{u:Value}(I:Inv X pins σ H s)(h:CE X.stack X.prog X.w H s Q u s'):EP X pins σ Q u s':=by
 obtain⟨v,H',os,bare,un,hok,r,q⟩:=h;obtain⟨hh,g,d,t,os'⟩:=s';obtain rfl:os'=s.os:=os;exact⟨v,H',I.call (h':=hh) (g':=g) (d':=d) (t':=t) (ch:=[]) un hok bare (fun b z=>absurd z (by simp)),r,q⟩
end
abbrev wF (sp:Sp)(dvs:List V)(E:XK)(t:TA):TE:=fun σ H Q=>t σ H fun vs H1=>sp (vs++dvs) H1 Q E
def cL (K:PySem.W.Frag)(fd:FuncData)(ps:List Str)(ds:List Value):Prop :=
 ∀ (s:Shared) (us:List Value),K.In s.heap→(us++ds).length=ps.length→BindsTo s fd ⟨us,[]⟩ (ps.zip (us++ds))
theorem cL.all {K:PySem.W.Frag}{fd:FuncData}{ps:List Str}(h:∀ us:List Value,us.length=ps.length→bindArgs fd ⟨us,[]⟩=pure (ps.zip us)):cL K fd ps []:=fun s us _ hl=>by
 rw[Hw]at hl ⊢;exact .of_eq (h us hl)
def pV (CX:CXT)(X:Cx)(E:XK):Prop:=∀ (pins:List (Addr × Obj)) (σ:St) (H:Hp) (s:Shared) (e:Value) (s':Shared),Inv X pins σ H s→CX X.stack H s E e s'→X.xe e s'
section
variable {CX:CXT}{k:Nat}{f C:Addr}{fd:FuncData}{ps:List Str}{sp:Sp}{dvs:List V}{ds:List Value}{E:XK}{x m:Str}{p apos:Pos}{e o:Expr}{es:List Expr}{ta:TE}{t:TA}
theorem DV {pins:List (Addr × Obj)}{σ:St}{H:Hp}{s:Shared}{Q:VK}{us:List Value}{vs:List V}(F:bd X.prog X.w X.K X.mg X.base CX k f fd ps sp)(hr:cz k X.A)(hb:cL X.K fd ps ds)(hd:aN dvs ds)(hx:pV CX X E)
  (I:Inv X pins σ H s) (r:aN vs us) (h:sp (vs++dvs) H Q E):wpAny (model X.prog X.w) X.A (call (.ref f) us) (EP X pins σ Q) X.xe s:=by
 have r2:aN (vs++dvs) (us++ds):=r.append hd;have hl:(us++ds).length=ps.length:=by rw[← r2.length];exact F.len _ _ _ _ h
 refine wpAny_call (codeAny_mono (F.run X.A X.stack s H ⟨us,[]⟩ (us++ds) (vs++dvs) Q E hr I.env0 (hb s us I.kIn hl) r2 h) fun r s' hq =>?_);cases r with
 | error e=>exact hx pins σ H s e s' I hq
 | ok fl =>
  cases fl with
  | ret u=>exact I.after hq
  | next=>exact False.elim hq
  | brk=>exact False.elim hq
  | cont=>exact False.elim hq
theorem CB (F:bd X.prog X.w X.K X.mg X.base CX k f fd ps sp)(hr:cz k X.A)(hg:Gl X x)(hm:X.mg x=some (.ref f))(hk:PySem.W.keepIn X.K (.ref f)=true)(hb:cL X.K fd ps ds)(hd:aN dvs ds)(hx:pV CX X E)
  (ha:PA X (e::es) t) (hdb:(x == ("__debug__" : Str))=false:=by decide) (he:starEach (e::es) X.env=(false,eval e X.env)::starEach es X.env:=by rfl) (hpl:(backTo pos (starEach es X.env)).any (·.1)=false:=by rfl) :
  PE X (.Call (.Name x p) (e::es) [] pos) (wF sp dvs E t):=by
 intro pins s σ H Q I h;refine wpAny_Call_Name_kw (jG I hg hm ?_ hdb);refine PySem.W.callWith_K (h₀:=X.base) I.ok.mod.kin hk (thn (ha pos pins s σ H _ I h) fun us s1 ⟨vs,H1,I1,r,q⟩=>⟨I1.kIn,?_⟩) he hpl;exact DV F hr hb hd hx I1 r q
end
section
variable {CX:CXT}{k:Nat}{f C:Addr}{fd:FuncData}{ps ks:List Str}{sp:Sp}{E:XK}{x m:Str}{p apos kpos:Pos}{e o:Expr}{es:List Expr}{kws:List Keyword}{te ta:TE}{t tk:TA}{nm:Option Str}
variable {g:List Value→List Value→List Value}{gV:List V→List V→List V}
end
structure az (N P:List Str)(sc:Scope):Prop where
 kind:sc.kind=.function:=by rfl
 co:sc.isCoroutine=false:=by rfl
 gen:sc.isGenerator=false:=by rfl
 nd:N.Nodup:=by decide +kernel
 pre:N.take P.length=P:=by rfl
 par:∀ x∈P,sc.names.lookup x=some .local∨sc.names.lookup x=some .cell:=by decide +kernel
 nofree:∀ y∈sc.names,y.2≠.free:=by decide +kernel
theorem qU {kindOf:Str→Option NameKind}{x:Str}:∀ {binds:List (Str × Value)} {m:Str→Option Value},(∀ v,(x,v)∉binds)→bindL kindOf binds m x=m x
 | [],_,_=>rfl
 | (n,v)::r,m,h=>by
  unfold bindL;rw[qU fun w hw=>h w (GG _ hw)]
  split
  ·have:x≠n:=by rintro rfl;exact h v GO
   simp[this]
  ·rfl
theorem qW {kindOf:Str→Option NameKind}{x:Str}:∀ {binds:List (Str × Value)} {m:Str→Option Value},(∀ v,(x,v)∉binds)→bindC kindOf binds m x=m x
 | [],_,_=>rfl
 | (n,v)::r,m,h=>by
  unfold bindC;rw[qW fun w hw=>h w (GG _ hw)]
  split
  ·rfl
  ·have:x≠n:=by rintro rfl;exact h v GO
   simp[this]
theorem qV {kindOf:Str→Option NameKind}{x:Str}{v:Value}:∀ {P:List Str} {vs:List Value} {i:Nat} {m:Str→Option Value},P.Nodup→P[i]? = some x→vs[i]? = some v→kindOf x=some .local →
  bindL kindOf (P.zip vs) m x=some v
 | [],_,_,_,_,h,_,_=>by simp at h
 | _::_,[],_,_,_,_,h,_=>by simp at h
 | p::P,w::vs,0,m,nd,h1,h2,hk=>by
  simp at h1 h2;subst h1;subst h2;show bindL kindOf ((p,w)::P.zip vs) m p=_;unfold bindL;rw[qU fun v hv=>(HN.mp nd).1 (ID hv).1,if_pos hk];simp
 | p::P,w::vs,i + 1,m,nd,h1,h2,hk=>by
  show bindL kindOf ((p,w)::P.zip vs) m x=_;unfold bindL;exact qV (i:=i) (HN.mp nd).2 (by simpa using h1) (by simpa using h2) hk
theorem qX {kindOf:Str→Option NameKind}{x:Str}{v:Value}:∀ {P:List Str} {vs:List Value} {i:Nat} {m:Str→Option Value},P.Nodup→P[i]? = some x→vs[i]? = some v→kindOf x≠some .local →
  bindC kindOf (P.zip vs) m x=some v
 | [],_,_,_,_,h,_,_=>by simp at h
 | _::_,[],_,_,_,_,h,_=>by simp at h
 | p::P,w::vs,0,m,nd,h1,h2,hk=>by
  simp at h1 h2;subst h1;subst h2;show bindC kindOf ((p,w)::P.zip vs) m p=_;unfold bindC;rw[qW fun v hv=>(HN.mp nd).1 (ID hv).1,if_neg hk];simp
 | p::P,w::vs,i + 1,m,nd,h1,h2,hk=>by
  show bindC kindOf ((p,w)::P.zip vs) m x=_;unfold bindC;exact qX (i:=i) (HN.mp nd).2 (by simpa using h1) (by simpa using h2) hk
def start (N:List Str)(vs:List V):St:=vs.map some++List.replicate (N.length - vs.length) none
def fS (CX:CXT)(P:Program)(w:World)(K:PySem.W.Frag)(mg:Str→Option Value)(base:Heap)(N:List Str)(qual:Str)(scope:Scope)(f:Addr)(cd:Value)(A:Around)(outer:List Env)(s:Shared)(H:Hp)(E:XK):Cx where
 prog:=P
 w:=w
 K:=K
 mg:=mg
 base:=base
 A:=A.deeper (envOfC qual scope s.heap.objs.size f cd)
 N:=N
 s₀:=s
 H₀:=H
 env:=envOfC qual scope s.heap.objs.size f cd
 outer:=outer
 stack:=envOfC qual scope s.heap.objs.size f cd::outer
 ex:=[]
 calm:=true
 fn:=fun _=>true
 pn:=[]
 xe:=fun e s'=>wpAny (model P w) (A.deeper (envOfC qual scope s.heap.objs.size f cd)) (leaving (envOfC qual scope s.heap.objs.size f cd) e) (fun _ s''=>CX outer H s E e s'') (fun e' s''=>CX outer H s E e' s'') s'
theorem uQ {sc:Scope}{n:Nat}{x:Str}(h:sc.names.lookup x=some .cell):∃ c,(cellsFrom n sc.names []).lookup x=some c:=by
 have q:=PySem.W.cellsFrom_some sc.names n [] (.inl h);exact G9.mp q
theorem qI {CX:CXT}{P:Program}{w:World}{K:PySem.W.Frag}{mg:Str→Option Value}{base:Heap}{N ps:List Str}{qual:Str}{scope:Scope}{f:Addr}{cd:Value}{A:Around}{outer:List Env}{s s1:Shared}{H:Hp}{E:XK}{us:List Value}{vs:List V}
  (S:az N ps scope) (hd:A.handled=none) (e0:wB P w K mg base A outer s H) (hl:vs.length=ps.length) (r:aN vs us)
  (x:InCallC s s.heap.objs.size (bindL (envOfC qual scope s.heap.objs.size f cd).kindOf (ps.zip us) fun _=>none) (cellsFrom (s.heap.objs.size + 1) scope.names []) (bindC (envOfC qual scope s.heap.objs.size f cd).kindOf (ps.zip us) fun _=>none) s1) :
  Inv (fS CX P w K mg base N qual scope f cd A outer s H E) [] (start N vs) H s1:=by
 have hpl:ps.length≤N.length:=by have:=Hn List.length S.pre;rw[Ht]at this;lia
 obtain⟨h1,tk,rfl,hk⟩:=x.done;have noA:∀ b:Addr,b∉(fS CX P w K mg base N qual scope f cd A outer s H E).ex:=fun b z=>absurd (show b∈([]:List Addr) from z) (by simp);refine⟨⟨e0.mod,S.kind,rfl,rfl,GB _,fun y z c h1 h2 =>?_,fun y hy =>?_,fun y c _ h =>?_,fun _=>hd,Around.frames_deeper e0.frames,.inr ⟨rfl,rfl⟩,fun b z=>absurd z (noA b),e0.bs,e0.bsz,fun b _ _=>noA b,fun b z=>absurd z (noA b),e0.funs,e0.frf⟩,
  rfl,e0.bare,Un.kept hk,⟨_,x.toInCall.ns,fun i y v h1 h2 h3 =>?_⟩,fun y c h=>⟨_,x.cell y c h⟩,e0.hok.fresh (GB _),fun y c h =>?_,fun p hp=>absurd (show p∈([]:List (Addr × Obj)) from hp) (by simp),e0.hok.kept hk,?_⟩
 ·exact name_of_addr x.apart (PySem.mem_of_lookup h1) (PySem.mem_of_lookup h2)
 ·have hy:scope.names.lookup y=some .cell∨scope.names.lookup y=some .free:=hy;rcases hy with hy | hy
  ·exact uQ hy
  ·exact absurd rfl (S.nofree _ (PySem.mem_of_lookup hy))
 ·exact HU (x.above y c (PySem.mem_of_lookup h))
 ·have hi:i < vs.length:=by
   unfold start at h2;by_cases hi:i < vs.length
   ·exact hi
   ·rw[Hm (by simpa using hi)]at h2;rw[Ix]at h2
    split at h2<;>cases h2
  have ha:vs[i]? = some v:=by
   unfold start at h2;rw[Hf (by simpa using hi),Ha]at h2;cases e:vs[i]? with
   | none=>rw[e]at h2;cases h2
   | some a=>rw[e]at h2;cases h2;rfl
  obtain⟨u,hu,rv⟩:=r.get ha;have hp:ps[i]? = some y:=by
   rw[← S.pre,List.getElem?_take_of_lt (by lia)];exact h1
  have ndP:ps.Nodup:=by rw[← S.pre];exact S.nd.sublist (IZ _ _)
  refine⟨u,rv,?_⟩;rcases S.par y (GW hp) with k | k
  ·exact .inl ⟨k,qV ndP hp hu k⟩
  ·obtain⟨c,e⟩:=uQ (n:=s.heap.objs.size + 1) k;refine .inr ⟨.inl k,c,e,?_⟩;have q:=x.cell y c e;rw[qX ndP hp hu (by show scope.names.lookup y≠_;rw[k];decide)]at q;exact q
 ·exact e0.hok.fresh (HU (x.above y c (PySem.mem_of_lookup h)))
 ·unfold start;show _=N.length;rw[GE,Gy,IE]
  lia
theorem Bl {CX:CXT}{P:Program}{w:World}{K:PySem.W.Frag}{mg:Str→Option Value}{base:Heap}{k:Nat}{f:Addr}{name qual:Str}{params:Arguments}{body:List Stmt}{scope:Scope}{dV kV doc pm cdv ct oc:Value}{an od:Option Addr}
  {osl:Array (Option Value)} {N ps:List Str} {sp:Sp} (lk:K.lookup f=some ⟨oc,od,.func (PySem.W.fnOf name qual params body scope dV kV doc pm an cdv ct),osl⟩) (hcd:PySem.W.codeIn K cdv qual=true) (S:az N ps scope)
  (len:∀ vs H Q E,sp vs H Q E→vs.length=ps.length)
  (hbody:∀ (A:Around) (outer:List Env) (s:Shared) (H:Hp) (vs:List V) (Q:VK) (E:XK),cz k (A.deeper (envOfC qual scope s.heap.objs.size f cdv))→sp vs H Q E →
   ∃ t,PSs (fS CX P w K mg base N qual scope f cdv A outer s H E) body t∧t { nx:=fun _ H'=>Q .non H',rt:=Q } (start N vs) H) :
  bd P w K mg base CX (k + 1) f (PySem.W.fnOf name qual params body scope dV kV doc pm an cdv ct) ps sp:=by
 refine⟨len,fun A outer s H args us vs Q E hr e0 hb r hsp =>?_⟩;have hl:=len _ _ _ _ hsp;have KX:K.In s.heap:=e0.mod.kin.keeps fun b o e=>(e0.bs b o e).1;have lim:s.heap.NoLimit:=e0.mod.nolimit.keeps fun b o e=>(e0.bs b o e).1;have hkind:∀ y∈ps.zip us,scope.names.lookup y.1=some .local∨(scope.names.lookup y.1=some .cell∧((cellsFrom (s.heap.objs.size + 1) scope.names []).lookup y.1).isSome=true):=fun⟨n,v⟩ hy=>by
  rcases S.par n (ID hy).1 with q|q
  ·exact .inl q
  ·exact .inr ⟨q,PySem.W.cellsFrom_some _ _ _ (.inl q)⟩
 refine codeAny_call_function hr.depth (KX _ _ lk) rfl S.co S.gen rfl (PySem.W.codeRec_of KX hcd) (hb _ _ _ _ ?_);refine wpAny_newFunctionEnv_cells S.kind hkind fun env he s1 x =>?_;subst he;refine⟨lim.keeps x.toInCall.keep,codeAny_func ?_⟩;obtain⟨t,ht,hq⟩:=hbody A outer s H vs Q E (hr.deeper _) hsp;have I:Inv (fS CX P w K mg base N qual scope f cdv A outer s H E) [] (start N vs) H s1:=qI S hr.hd e0 hl r x;refine Ho (ht [] s1 (start N vs) H _ I hq) (fun fl s' hs =>?_) fun e s' hs=>hs;have fin:∀ {σ':St} {H':Hp} {v:V} {u:Value},Inv (fS CX P w K mg base N qual scope f cdv A outer s H E) [] σ' H' s'→aV v u→Q v H'→CE outer P w H s Q u s' :=
  fun {σ' H' v u} J rv q=>⟨v,H',J.os,J.bare,J.base,J.hok,rv,q⟩
 cases fl with
 | ret u =>
  obtain⟨v,σ',H',J,rv,q⟩:=hs;exact fin J rv q
 | next =>
  obtain⟨σ',H',J,q⟩:=hs;exact fin (v:=V.non) (u:=Value.none) J rfl q
 | brk =>
  obtain⟨_,_,_,q⟩:=hs;exact False.elim q
 | cont =>
  obtain⟨_,_,_,q⟩:=hs;exact False.elim q
section
variable {x:Str}{p:Pos}{e:Expr}{es:List Expr}{t:TA}{id T:String}{r:List V→Hp→VK→Prop}
abbrev tCB (r:List V→Hp→VK→Prop)(t:TA):TE:=fun σ H Q=>t σ H fun vs H1=>r vs H1 Q
theorem aw (hc:fQ X (.builtin id) r)(hg:Gl X x)(hm:X.mg x=none)(hv:bootBuiltins x=some (.builtin id))(ha:PA X (e::es) t)(hn:x ≠ "__name__" := by decide)(hdb:(x == ("__debug__" : Str))=false:=by decide)
  (he:starEach (e::es) X.env=(false,eval e X.env)::starEach es X.env:=by rfl) (hpl:(backTo pos (starEach es X.env)).any (·.1)=false:=by rfl):PE X (.Call (.Name x p) (e::es) [] pos) (tCB r t):=by
 intro pins s σ H Q I h;refine wpAny_Call_Name_kw (ke I hg hm hv ?_ hn hdb);exact PyProof.Rows.callWith_builtin1 (thn (ha pos pins s σ H _ I h) fun us s1 ⟨vs,H1,I1,r1,q1⟩=>hc pins s1 σ H1 vs us Q I1 r1 q1) he hpl
theorem bA (hc:fQ X (.type T) r)(hg:Gl X x)(hm:X.mg x=none)(hv:bootBuiltins x=some (.type T))(ha:PA X (e::es) t)(hn:x ≠ "__name__" := by decide)(hdb:(x == ("__debug__" : Str))=false:=by decide)
  (he:starEach (e::es) X.env=(false,eval e X.env)::starEach es X.env:=by rfl) (hpl:(backTo pos (starEach es X.env)).any (·.1)=false:=by rfl):PE X (.Call (.Name x p) (e::es) [] pos) (tCB r t):=by
 intro pins s σ H Q I h;refine wpAny_Call_Name_kw (ke I hg hm hv ?_ hn hdb);exact PyProof.Rows.callWith_type1 (thn (ha pos pins s σ H _ I h) fun us s1 ⟨vs,H1,I1,r1,q1⟩=>hc pins s1 σ H1 vs us Q I1 r1 q1) he hpl
end
end L2
namespace HT
open PySem PyProof.Rows
section
open PySem.SeqAt
open PySem.AutoSeq1 (wpAny_loadPart')
open PySem.MeetsSeq PySem.MeetsSeq2 PySem.MeetsSeq3
end
section
variable {prog:Program}{w:World}{A:Around}{E:Value→Shared→Prop}{s:Shared}
end
end HT
namespace L2
open PySem PySem.Spec PyProof.Rows
variable {H:Hp}{X:Cx}{s:Shared}{pos:Pos}{prog:Program}{A:Around}{K:PySem.W.Frag}
abbrev TO:=St→Hp→(Option Int→Hp→Prop)→Prop
def PO (X:Cx)(e:Option Expr)(t:TO):Prop :=
 ∀ (pins:List (Addr × Obj)) (s:Shared) (σ:St) (H:Hp) (Q:Option Int→Hp→Prop),Inv X pins σ H s→t σ H Q →
  wpAny (model X.prog X.w) X.A (evalPart e X.env) (fun u s'=>∃ o H',Inv X pins σ H' s'∧IsPart u o∧Q o H') X.xe s
def B5:TO:=fun _ H Q=>Q none H
abbrev E7 (t:TE):TO:=fun σ H Q=>t σ H fun x H1=>∃ i,x=.int i∧Q (some i) H1
section
variable {e:Expr}{te:TE}{lo hi:Option Expr}{tl th:TO}{p2:Pos}
theorem iu:PO X none B5:=by
 intro pins s σ H Q I h;rw[evalPart_none];exact GN ⟨none,H,I,.none,h⟩
theorem ir (h:PE X e te):PO X (some e) (E7 te):=by
 intro pins s σ H Q I hw;rw[evalPart_some];refine thn (h pins s σ H _ I hw) fun u s1 ⟨x,H1,I1,r1,q1⟩ =>?_;obtain⟨i,rfl,q⟩:=q1;obtain⟨t,rfl⟩:=r1;exact⟨some i,H1,I1,.int i t,q⟩
def SlR (X:Cx)(r:V→Option Int→Option Int→Hp→VK→Prop):Prop :=
 ∀ (pins:List (Addr × Obj)) (s:Shared) (σ:St) (H:Hp) (x:V) (v vl vu:Value) (lo hi:Option Int) (sl:Addr) (Q:VK),Inv X pins σ H s→aV x v→s.heap.IsSliceOf sl vl vu .none→IsPart vl lo→IsPart vu hi→r x lo hi H Q →
  ∃ T id,typeLookup (.type T) "__getitem__" = pure (some (.builtin id))∧s.TypeIs v T∧wpAny (model X.prog X.w) X.A (getItem v (.ref sl)) (EP X pins σ Q) X.xe s
abbrev tSl (r:V→Option Int→Option Int→Hp→VK→Prop)(te:TE)(tl th:TO):TE:=fun σ H Q=>te σ H fun x H1=>tl σ H1 fun l H2=>th σ H2 fun u H3=>r x l u H3 Q
theorem fK {r:V→Option Int→Option Int→Hp→VK→Prop}(hr:SlR X r)(he:PE X e te)(hl:PO X lo tl)(hu:PO X hi th):PE X (.Subscript e (.Slice lo hi none p2) pos) (tSl r te tl th):=by
 intro pins s σ H Q I h;refine Subscript_ (thn (he pins s σ H _ I h) fun v s1 ⟨x,H1,I1,r1,q1⟩ =>?_);refine wpAny_Slice (thn (hl pins s1 σ H1 _ I1 q1) fun vl s2 ⟨l,H2,I2,pl,q2⟩=>thn (hu pins s2 σ H2 _ I2 q2) fun vu s3 ⟨u,H3,I3,pu,q3⟩ =>?_);rw[evalPart_none];refine GN ?_;have I4:Inv X pins σ H3 { s3 with heap:=s3.heap.push { cls:=.type "slice",data:=.fields #[vl,vu,.none] } }:=I3.kept (t':=s3.toks) fun b ob q=>Gx _ q
 obtain⟨T,id,hT,ht,hg⟩:=hr pins { s3 with heap:=s3.heap.push { cls:=.type "slice",data:=.fields #[vl,vu,.none] } } σ H3 x v vl vu l u s3.heap.objs.size Q I4 r1 (Heap.IsSliceOf.new ..) pl pu q3
 show wpAny (model X.prog X.w) X.A (subscriptTail e (.Slice lo hi none p2) v (.ref s3.heap.objs.size)) (EP X pins σ Q) X.xe { s3 with heap:=s3.heap.push { cls:=.type "slice",data:=.fields #[vl,vu,.none] } }
 exact tail_any (ops:=[.ref s3.heap.objs.size,v]) ht hT hg (by with_unfolding_all rfl)
end
def ixN (n:Nat)(i:Int):Option Nat:=if 0≤i then (if i < n then some i.toNat else none) else if -(n:Int)≤i then some (i + n).toNat else none
def atI {α:Type}(xs:List α)(i:Int):Option α:=(ixN xs.length i).bind fun j=>xs[j]?
theorem xr {n:Nat}{i:Int}{j:Nat}(h:ixN n i=some j):seqIndex? i n=some j∧j < n∧-(n:Int)≤i∧i < n:=by
 unfold ixN at h;by_cases h0:0≤i
 ·rw[if_pos h0]at h;by_cases h1:i < n
  ·rw[if_pos h1]at h;have e:i.toNat=j:=Option.some.inj h;exact⟨by rw[seqIndex_of h0 h1,e],by lia,by lia,h1⟩
  ·rw[if_neg h1]at h;cases h
 ·rw[if_neg h0]at h;by_cases h1:-(n:Int)≤i
  ·rw[if_pos h1]at h;have e:(i + n).toNat=j:=Option.some.inj h;exact⟨by rw[seqIndex_neg (by lia) h1,e],by lia,h1,by lia⟩
  ·rw[if_neg h1]at h;cases h
theorem sO {α:Type}{xs:List α}{i:Int}{v:α}(h:atI xs i=some v):∃ j,seqIndex? i xs.length=some j∧xs[j]? = some v∧j < xs.length∧-(xs.length:Int)≤i∧i < xs.length:=by
 unfold atI at h;cases e:ixN xs.length i with
 | none=>rw[e]at h;cases h
 | some j =>
  rw[e]at h;obtain⟨h1,h2,h3,h4⟩:=xr e;exact⟨j,h1,h,h2,h3,h4⟩
theorem dB {α:Type}{xs:List α}{j:Nat}{v:α}(h:xs[j]? = some v):atI xs (j:Int)=some v:=by
 have hj:j < xs.length:=(Gz.mp h).1;have e:ixN xs.length (j:Int)=some j:=by
  unfold ixN;rw[if_pos (by simp),if_pos (by lia)];simp
 unfold atI;rw[e];exact h
theorem BM {α:Type}(xs:List α)(v:α):atI (xs++[v]) (-1)=some v:=by
 have hl:(xs++[v]).length=xs.length + 1:=by simp
 have e:ixN (xs++[v]).length (-1)=some xs.length:=by
  unfold ixN;rw[hl,if_neg (by decide),if_pos (by lia)]
  congr 1
  lia
 unfold atI;rw[e];show (xs++[v])[xs.length]? = some v;simp
def xT (b:Expr):Prop:=∀ o i,subscripted b false o i=operate [o,i] (getItem o i)
def IxR (X:Cx)(r:R2):Prop :=
 ∀ (value slice:Expr) (pins:List (Addr × Obj)) (s:Shared) (σ:St) (H:Hp) (x y:V) (v u:Value) (Q:VK),Inv X pins σ H s→aV x v→aV y u→r x y H Q →
  subscripted slice false v u=operate [v,u] (getItem v u)→wpAny (model X.prog X.w) X.A (subscriptTail value slice v u) (EP X pins σ Q) X.xe s
def MtR (X:Cx)(id:String)(r:V→List V→Hp→VK→Prop):Prop :=
 ∀ (pins:List (Addr × Obj)) (s:Shared) (σ:St) (H:Hp) (x:V) (xs:List V) (v:Value) (us:List Value) (Q:VK),Inv X pins σ H s→aV x v→aN xs us→r x xs H Q →
  wpAny (model X.prog X.w) X.A (call (.builtin id) (v::us)) (EP X pins σ Q) X.xe s
section
variable {a b:Expr}{ta tb:TE}
theorem aB {r:R2}(hr:IxR X r)(ha:PE X a ta)(hb:PE X b tb)(hs:xT b:=by exact fun _ _=>rfl):PE X (.Subscript a b pos) (tOp r ta tb):=by
 intro pins s σ H Q I h;exact Subscript_ (EO ha hb I h fun v u s2 x y H2 I2 rx ry q=>hr a b pins s2 σ H2 x y v u Q I2 rx ry q (hs _ _))
inductive DB (K:PySem.W.Frag)(x:V)(y:V)(H:Hp)(Q:VK):Prop
 | mk (p xs i v:_) (h_0:x=.ref p) (h_1:y=.int i) (h_2:SqL K H p xs) (h_3:atI xs i=some v) (h_4:Q v H):DB K x y H Q
def Fi (K:PySem.W.Frag):R2:=fun x y H Q=>DB K x y H Q
inductive DA (K:PySem.W.Frag)(x:V)(y:V)(H:Hp)(Q:VK):Prop
 | mk (p xs i v:_) (h_0:x=.ref p) (h_1:y=.int i) (h_2:SqT K H p xs) (h_3:atI xs i=some v) (h_4:Q v H):DA K x y H Q
def Fh (K:PySem.W.Frag):R2:=fun x y H Q=>DA K x y H Q
def Gb:R2:=fun x y H Q=>∃ z i c,x=.str z∧y=.int i∧z.length≤sizeLine∧atI z.cps.toList i=some c∧Q (.str ⟨#[c]⟩) H
theorem bc:IxR X (Fi X.K):=by
 intro value slice pins s σ H x y v u Q I rx ry h hs;obtain⟨p,xs,i,z,rfl,rfl,hq,he,q⟩:=h;cases rx;obtain⟨t,rfl⟩:=ry;obtain⟨its,r,pl,hz⟩:=I.list hq;obtain⟨j,h1,h2,h3,h4,h5⟩:=sO he;obtain⟨w,ew,rw'⟩:=r.get h2;have hl:=r.length;have hn:=oY;have fin:EP X pins σ Q w s:=⟨z,H,I,rw',q⟩;by_cases h0:0≤i
 ·have hj:i.toNat=j:=by
   rw[seqIndex_of h0 h5]at h1;exact Option.some.inj h1
  exact item_listR pl.isList h0 (by lia) (by rw[hj];simpa using ew) fin hs
 ·have hj:(i + (its.toArray.size:Int)).toNat=j:=by
   rw[seqIndex_neg (by lia) h4]at h1;rw[GR,← hl];exact Option.some.inj h1
  exact subscriptTail_builtinR (x:=w) pl.isList.typeIs slot_list_getitem.lookup
   (wpAny_getItem_list_neg (Q:=fun r s'=>r=w∧EP X pins σ Q r s') pl.isList (by lia) (by rw[GR]<;>lia) (by lia) (by rw[hj];simpa using ew) ⟨rfl,fin⟩) hs
theorem aF:IxR X (Fh X.K):=by
 intro value slice pins s σ H x y v u Q I rx ry h hs;obtain⟨p,xs,i,z,rfl,rfl,hq,he,q⟩:=h;cases rx;obtain⟨t,rfl⟩:=ry;obtain⟨its,r,pl,hz⟩:=I.tuple hq;obtain⟨j,h1,h2,h3,h4,h5⟩:=sO he;obtain⟨w,ew,rw'⟩:=r.get h2;have hl:=r.length;have hn:=oY;have fin:EP X pins σ Q w s:=⟨z,H,I,rw',q⟩;exact subscriptTail_builtinR (x:=w) pl.typeIs slot_tuple_getitem.lookup
  (getItem_tuple (j:=j) (Q:=fun r s'=>r=w∧EP X pins σ Q r s') pl (by lia) (by lia) (by rw[GR,← hl];exact h1) (by simpa using ew) ⟨rfl,fin⟩) hs
theorem js:IxR X Gb:=by
 intro value slice pins s σ H x y v u Q I rx ry h hs;obtain⟨z,i,c,rfl,rfl,hz,he,q⟩:=h;obtain⟨t,rfl⟩:=rx;obtain⟨t',rfl⟩:=ry;obtain⟨j,h1,h2,h3,h4,h5⟩:=sO he;have hl:z.cps.toList.length=z.length:=by simp[Str.length]
 rw[hl]at h1 h4 h5;have hn:=oY;exact tail_any (typeIs_str s z t) slot_str_getitem.lookup (getItem_str (c:=c) (by
  have e1:decide (i < -(2 ^ 63:Int))=false:=Hb (by lia);have e2:decide (i ≥ 2 ^ 63)=false:=Hb (by lia);rw[e1,e2,Bool.or_false]) (by rw[h1];simpa using h2) ⟨.str ⟨#[c]⟩,H,I.tok _,⟨_,rfl⟩,q⟩) hs
theorem vZ (its:List Value)(n j:Nat)(u:Value):Obj.mapSeq (·.setIfInBounds j u) { cls:=.type "list",data:=.seq its.toArray n }={ cls:=.type "list",data:=.seq (its.set j u).toArray n }:=by
 simp[Obj.mapSeq]
theorem Inv.lst {pins:List (Addr × Obj)}{σ:St}{H:Hp}{s:Shared}{p:Addr}{xs:List V}(I:Inv X pins σ H s)(h:H p=some (.lst xs)):
  ∃ (its:List Value) (n:Nat),aN xs its∧s.heap.get? p=some { cls:=.type "list",data:=.seq its.toArray n }∧xs.length≤sizeLine:=by
 obtain⟨z,its,n,r,e⟩:=I.hok p _ h;exact⟨its,n,r,e,z⟩
theorem Inv.lstUpd {pins:List (Addr × Obj)}{σ:St}{H:Hp}{s:Shared}{p:Addr}{xs ys:List V}{its its':List Value}{n n':Nat}{f:Obj→Obj}(I:Inv X pins σ H s)(h:H p=some (.lst xs))
  (ho:s.heap.get? p=some { cls:=.type "list",data:=.seq its.toArray n }) (hf:f { cls:=.type "list",data:=.seq its.toArray n }={ cls:=.type "list",data:=.seq its'.toArray n' }) (r:aN ys its') (hz:ys.length≤sizeLine) (t:Nat) :
  Inv X pins σ (upd H p (.lst ys)) { s with heap:=s.heap.update p f,toks:=t }:=by
 have e:(s.heap.update p f).get? p=some { cls:=.type "list",data:=.seq its'.toArray n' }:=by
  rw[IH f ho (by rw[hf]<;>rfl),hf]
 refine I.write (x:=p) (e:=p) (by rw[h];trivial) (.inl rfl) (fun b u hb q=>(G4 _ _ (Ne.symm hb)).trans q) ⟨_,e⟩ ?_;exact⟨hz,its',n',r,e⟩
def Fg:V→V→V→Hp→(Hp→Prop)→Prop:=fun o i v H Q=>∃ p xs k j,o=.ref p∧i=.int k∧H p=some (.lst xs)∧ixN xs.length k=some j∧Q (upd H p (.lst (xs.set j v)))
theorem tz:FX X Fg:=by
 intro pins s σ H o i v ov iv u Q I ro ri rv h;obtain⟨p,xs,k,j,rfl,rfl,hp,hj,q⟩:=h;cases ro;obtain⟨t,rfl⟩:=ri;obtain⟨its,n,r,ho,hz⟩:=I.lst hp;obtain⟨h1,h2,h3,h4⟩:=xr hj;have hl:=r.length;have hn:=oY;have I':Inv X pins σ (upd H p (.lst (xs.set j v))) { s with heap:=s.heap.update p (Obj.mapSeq (·.setIfInBounds j u)) } :=
  I.lstUpd hp ho (vZ its n j u) (r.set rv j) (by rw[List.length_set];exact hz) s.toks
 by_cases h0:0≤k
 ·have hk:k.toNat=j:=by
   rw[seqIndex_of h0 h4]at h1;exact Option.some.inj h1
  exact PySem.W.ki_setAt ho h0 (by lia) (by rw[GR,← hl];exact h4) (by rw[hk];exact⟨_,I',q⟩)
 ·have hk:(k + (its.toArray.size:Int)).toNat=j:=by
   rw[seqIndex_neg (by lia) h3]at h1;rw[GR,← hl];exact Option.some.inj h1
  exact PySem.W.ki_setBack ho (by lia) (by rw[GR,← hl];exact h3) (by lia) (by rw[hk];exact⟨_,I',q⟩)
def d9:V→Bool
 | .non=>true
 | .bl _=>true
 | .int _=>true
 | .str _=>true
 | _=>false
def eqV:V→V→Bool
 | .non,.non=>true
 | .bl a,.bl b=>a == b
 | .bl a,.int b=>(if a then 1 else 0) == b
 | .int a,.bl b=>a == (if b then 1 else 0)
 | .int a,.int b=>a == b
 | .str a,.str b=>a == b
 | _,_=>false
theorem EG {A:Around}{s:Shared}{y x:V}{u v:Value}(ry:aV y u)(rx:aV x v)(fy:d9 y=true)(fx:d9 x=true):SeqAt.EqAt A s u v (eqV y x):=by
 cases y with
 | non =>
  cases ry;cases x with
  | non=>cases rx;exact SeqAt.EqAt.same _
  | bl b=>cases rx;exact SeqAt.EqAt.none_bool b
  | int b=>obtain⟨t,rfl⟩:=rx;exact SeqAt.EqAt.none_int b t
  | str b=>obtain⟨t,rfl⟩:=rx;exact SeqAt.EqAt.none_str b t
  | _=>exact absurd (show false=true from fx) GM
 | bl a =>
  cases ry;cases x with
  | non=>cases rx;exact SeqAt.EqAt.bool_none a
  | bl b=>cases rx;exact SeqAt.EqAt.bool_bool a b
  | int b=>obtain⟨t,rfl⟩:=rx;exact SeqAt.EqAt.bool_int a b t
  | str b=>obtain⟨t,rfl⟩:=rx;exact SeqAt.EqAt.bool_str a b t
  | _=>exact absurd (show false=true from fx) GM
 | int a =>
  obtain⟨t',rfl⟩:=ry;cases x with
  | non=>cases rx;exact SeqAt.EqAt.int_none a t'
  | bl b=>cases rx;exact SeqAt.EqAt.int_bool a t' b
  | int b=>obtain⟨t,rfl⟩:=rx;exact SeqAt.EqAt.int_int a t' b t
  | str b=>obtain⟨t,rfl⟩:=rx;exact SeqAt.EqAt.int_str a t' b t
  | _=>exact absurd (show false=true from fx) GM
 | str a =>
  obtain⟨t',rfl⟩:=ry;cases x with
  | non=>cases rx;exact SeqAt.EqAt.str_none a t'
  | bl b=>cases rx;exact SeqAt.EqAt.str_bool a t' b
  | int b=>obtain⟨t,rfl⟩:=rx;exact SeqAt.EqAt.str_int a t' b t
  | str b=>obtain⟨t,rfl⟩:=rx;exact SeqAt.EqAt.str_str a t' b t
  | _=>exact absurd (show false=true from fx) GM
 | _=>exact absurd (show false=true from fy) GM
def eqU (x:V)(u:Value):Bool:=match u with
 | .none=>eqV .non x
 | .bool b=>eqV (.bl b) x
 | .int i _=>eqV (.int i) x
 | .str z _=>eqV (.str z) x
 | _=>false
theorem sw {x y:V}{u:Value}(r:aV y u)(f:d9 y=true):eqU x u=eqV y x:=by
 cases y with
 | non=>cases r;rfl
 | bl b=>cases r;rfl
 | int i=>obtain⟨t,rfl⟩:=r;rfl
 | str z=>obtain⟨t,rfl⟩:=r;rfl
 | _=>exact absurd (show false=true from f) GM
theorem sP {x:V}:∀ {xs:List V} {us:List Value},aN xs us→xs.all d9=true→us.any (eqU x)=xs.any fun y=>eqV y x
 | _,_,.nil,_=>rfl
 | y::xs,u::us,.cons r t,f=>by
  rw[Jo,HE]at f;rw[IU,IU,sw r f.1,sP t f.2]
theorem jr {A:Around}{s:Shared}{x:V}{v:Value}(rx:aV x v)(fx:d9 x=true):∀ {xs:List V} {us:List Value},aN xs us→xs.all d9=true→∀ u∈us,SeqAt.EqAt A s u v (eqU x u)
 | _,_,.nil,_=>fun u hu=>by cases hu
 | y::xs,u::us,.cons r t,f=>fun u' hu=>by
  rw[Jo,HE]at f;rcases GU.mp hu with rfl | hu
  ·rw[sw r f.1];exact EG r rx f.1 fx
  ·exact jr rx fx t f.2 u' hu
def inV (x:V)(xs:List V):Bool:=xs.any fun y=>eqV y x
def rIn (K:PySem.W.Frag)(neg:Bool):R2:=fun x y H Q=>∃ p xs,y=.ref p∧(SqL K H p xs∨SqT K H p xs)∧d9 x=true∧xs.all d9=true∧Q (.bl (if neg then !inV x xs else inV x xs)) H
theorem yG:OpR X (compareOp .In) (rIn X.K false):=by
 intro pins s σ H x y v u Q I rx ry h;obtain⟨p,xs,rfl,hq,fx,fs,q⟩:=h;cases ry;rcases hq with hq | hq
 ·obtain⟨its,r,pl,hz⟩:=I.list hq;refine SeqAt.in_listAt (eqU x) pl.isList (fun w hw=>jr rx fx r fs w (by simpa using hw)) ⟨.bl _,H,I,rfl,?_⟩;rw[show its.toArray.any (eqU x)=its.any (eqU x) by simp,sP r fs];exact q
 ·obtain⟨its,r,pl,hz⟩:=I.tuple hq;refine SeqAt.in_tupleAt (eqU x) pl (fun w hw=>jr rx fx r fs w (by simpa using hw)) ⟨.bl _,H,I,rfl,?_⟩;rw[show its.toArray.any (eqU x)=its.any (eqU x) by simp,sP r fs];exact q
theorem sJ:fQ X (.type "list") (fun xs H Q=>∃ p ys,xs=[.ref p]∧(SqL X.K H p ys∨SqT X.K H p ys)∧∀ l,H l=none→Q (.ref l) (upd H l (.lst ys))):=by
 intro pins s σ H xs us Q I r h;obtain⟨p,ys,rfl,hq,q⟩:=h;obtain⟨u,rfl,rx⟩:=jM r;cases rx;have fin:∀ (its:List Value),aN ys its→ys.length≤sizeLine→∀ (h':Heap) (c':Nat),(∀ b o',s.heap.get? b=some o'→h'.get? b=some o') →
   h'.get? s.heap.objs.size=some { cls:=.type "list",dict:=none,data:=.seq its.toArray c',slots := #[] }→EP X pins σ Q (.ref s.heap.objs.size) { s with heap:=h' }:=fun its r' hz h' c' kp e =>
  ⟨.ref s.heap.objs.size,_,I.laid (t':=s.toks) kp (GB _) (show bo X.prog X.w _ h' _ (.lst ys) from⟨hz,its,c',r',e⟩),rfl,q _ (I.hok.fresh (GB _))⟩
 rcases hq with hq|hq
 ·obtain⟨its,r',pl,hz⟩:=I.list hq;have hlen:=r'.length;obtain⟨o,ho,hc,n,hd⟩:=pl.isList;exact call_list_seq p (.inl rfl) ho hc hd (fun h' c' kp e=>fin its r' hz h' c' kp e) (by simp only[GR]<;>lia)
 ·obtain⟨its,r',pl,hz⟩:=I.tuple hq;have hlen:=r'.length;obtain⟨o,ho,hc,n,hd⟩:=pl;exact call_list_seq p (.inr rfl) ho hc hd (fun h' c' kp e=>fin its r' hz h' c' kp e) (by simp only[GR]<;>lia)
def tyV (K:PySem.W.Frag)(T:String)(x:V)(H:Hp):Prop:=match x with
 | .str _=>T = "str"
 | .int _=>T = "int"
 | .ref p=>(T = "list" ∧ ∃ xs,SqL K H p xs)∨(T = "tuple" ∧ ∃ o,K.lookup p=some o∧o.cls=.type "tuple" ∧ o.dict=none) ∨
   (T = "dict" ∧ ((∃ kvs,H p=some (.dK kvs))∨∃ kvs,H p=some (.dT kvs)))∨(T = "set" ∧ ∃ S n,H p=some (.set S n))
 | _=>False
theorem DF {pins:List (Addr × Obj)}{σ:St}{H:Hp}{s:Shared}{T:String}{x:V}{v:Value}(I:Inv X pins σ H s)(r:aV x v)(ty:tyV X.K T x H):
  s.TypeIs v T∧∀ a,v=.ref a→∃ ob,s.heap.get? a=some ob∧ob.dict=none:=by
 cases x with
 | str z =>
  obtain⟨t,rfl⟩:=r;cases (show T = "str" from ty)
  exact⟨typeIs_str s z t,fun _ e=>nomatch e⟩
 | int i =>
  obtain⟨t,rfl⟩:=r;cases (show T = "int" from ty)
  exact⟨typeIs_int s i t,fun _ e=>nomatch e⟩
 | ref p =>
  cases r;rcases ty with⟨rfl,xs,hq⟩ | ⟨rfl,o,hk,hc,hd⟩ | ⟨rfl,hk⟩ | ⟨rfl,S,n,hk⟩
  ·obtain⟨its,_,pl,_⟩:=I.list hq;refine⟨pl.isList.typeIs,fun a e =>?_⟩;cases e;obtain⟨o,n,e,c,hd,_⟩:=pl;exact⟨o,e,hd⟩
  ·refine⟨⟨o,I.kIn p o hk,hc⟩,fun a e =>?_⟩;cases e;exact⟨o,I.kIn _ o hk,hd⟩
  ·have z:∃ o,s.heap.get? p=some o∧o.ExactDict:=by
    rcases hk with⟨kvs,hk⟩|⟨kvs,hk⟩
    ·obtain⟨_,_,_,_,o,_,_,e,ex,_⟩:=I.hok p _ hk;exact⟨o,e,ex⟩
    ·obtain⟨_,_,_,_,o,_,_,e,ex,_⟩:=I.hok p _ hk;exact⟨o,e,ex⟩
   obtain⟨o,e,ex⟩:=z;refine⟨⟨o,e,ex.1⟩,fun a e2 =>?_⟩;cases e2;exact⟨o,e,ex.2.1⟩
  ·obtain⟨o,_,_,_,e,ex,_⟩:=I.hok p _ hk;refine⟨⟨o,e,ex.1⟩,fun a e2 =>?_⟩;cases e2;exact⟨o,e,ex.2.1⟩
 | _=>exact False.elim ty
abbrev tBM (K:PySem.W.Frag)(T:String)(r:V→List V→Hp→VK→Prop)(to:TE)(t:TA):TE:=fun σ H Q=>to σ H fun x H1=>tyV K T x H1∧t σ H1 fun xs H2=>r x xs H2 Q
variable {o e:Expr}{es:List Expr}{to:TE}{t:TA}{name:Str}{apos cpos:Pos}{T id:String}{r:V→List V→Hp→VK→Prop}
theorem kF (pa:PlainAttrs T)(slot:Slot T name id)(hty:typeOf (.builtin id)=pure (.type "method_descriptor"))(hm:MtR X id r)(ho:PE X o to)(ha:PA X (e::es) t)
  (hbase:attributeBase o name X.env (eval o X.env)=eval o X.env:=by rfl)
  (hfew:((backTo cpos (starEach (e::es) X.env)).all (fun x => !x.1) && (backToKw cpos (keywordEach [] X.env)).all (fun x=>x.1.isSome)
   && decide ((e::es).length + ([]:List Keyword).length + (if ([]:List Keyword).isEmpty then 0 else 1) < 30))=true:=by rfl)
  (hline:(apos.endLine == cpos.line)=true:=by rfl) (hs:starEach (e::es) X.env=(false,eval e X.env)::starEach es X.env:=by rfl) (hplain:(backTo cpos (starEach es X.env)).any (·.1)=false:=by rfl) :
  PE X (.Call (.Attribute o name apos) (e::es) [] cpos) (tBM X.K T r to t):=by
 intro pins s σ H Q I h;refine wpAny_Call_method_late hbase hfew hline rfl (thn (ho pins s σ H _ I h) fun v s1 ⟨x,H1,I1,r1,ty,q1⟩ =>?_);obtain⟨h1,h2⟩:=DF I1 r1 ty;refine⟨T,id,pa,slot,hty,h1,h2,?_⟩;have hA:=ha cpos pins s1 σ H1 _ I1 q1;rw[hs]at hA ⊢;refine Calls.callWith_builtin (by show (false || (backTo cpos (starEach es X.env)).any (·.1))=false;rw[hplain]<;>rfl) (Calls.evalArgs_plain ?_);exact thn hA fun us s2 ⟨vs,H2,I2,r2,q2⟩=>hm pins s2 σ H2 x vs v us Q I2 r1 r2 q2
end
def MtM (X:Cx)(id:String)(r:V→List V→Hp→VK→Prop):Prop :=
 ∀ (pins:List (Addr × Obj)) (s:Shared) (σ:St) (H:Hp) (x:V) (xs:List V) (v:Value) (us:List Value) (Q:VK),Inv X pins σ H s→aV x v→aN xs us→r x xs H Q →
  wpAny (model X.prog X.w) X.A (call (.builtin id) (v::us)) (EP X pins σ Q) X.xe s
theorem aN.one:∀ {x:V} {us:List Value},aN [x] us→∃ u,us=[u]∧aV x u
 | _,_,.cons r .nil=>⟨_,rfl,r⟩
theorem aN.rep {xs:List V}{us:List Value}(h:aN xs us):∀ k:Nat,aN (List.replicate k xs).flatten (List.replicate k us).flatten
 | 0=>.nil
 | k + 1=>by
  rw[Iw,Iw,Ir,Ir];exact aN.append h (aN.rep h k)
theorem qO (its:List Value):∀ (k:Nat) (acc:List Value),
  List.foldl (fun x1 x2=>x1++x2) acc.toArray (List.replicate k its.toArray)=(acc++(List.replicate k its).flatten).toArray
 | 0,acc=>by simp
 | k + 1,acc=>by
  have e:acc.toArray++its.toArray=(acc++its).toArray:=by simp
  have e2:(acc++its)++(List.replicate k its).flatten=acc++(List.replicate (k + 1) its).flatten:=by
   rw[Iw,Ir,GT]
  rw[← e2,← qO its k (acc++its),← e,Iw,IT]
section
variable {pins:List (Addr × Obj)}{σ:St}{l b:Addr}{xs ys zs:List V}
theorem Inv.lset {its its':List Value}{n:Nat}{f:Array Value→Array Value}{t':Nat}(I:Inv X pins σ H s)(hH:H l=some (.lst xs))
  (e:s.heap.get? l=some { cls:=.type "list",data:=.seq its.toArray n }) (hf:f its.toArray=its'.toArray) (hv:aN ys its') (hz:ys.length≤sizeLine) :
  Inv X pins σ (upd H l (.lst ys)) { s with heap:=s.heap.update l (Obj.mapSeq f),toks:=t' }:=by
 have q:=PySem.IsL.update e f;rw[hf]at q;refine I.write (x:=l) (e:=l) (by rw[hH];exact trivial) (.inl rfl) (fun b' u hb hu=>(G4 s.heap (Obj.mapSeq f) (Ne.symm hb)).trans hu) ⟨_,q⟩ ?_;exact⟨hz,its',_,hv,q⟩
theorem Inv.lnew {its:List Value}{t':Nat}(I:Inv X pins σ H s)(hv:aN ys its)(hz:ys.length≤sizeLine):
  Inv X pins σ (upd H s.heap.objs.size (.lst ys)) { s with heap:=s.heap.push { cls:=.type "list",data:=.seq its.toArray },toks:=t' } :=
 I.laid (fun _ _ q=>Gx _ q) (GB _) ⟨hz,its,0,hv,GQ _ rfl⟩
theorem Inv.fresh (I:Inv X pins σ H s):H s.heap.objs.size=none:=I.hok.fresh (GB _)
theorem Inv.lstM (I:Inv X pins σ H s)(hH:H l=some (.lst xs)):xs.length≤sizeLine∧∃ (its:List Value) (n:Nat),aN xs its∧xs.length=its.length∧s.heap.get? l=some { cls:=.type "list",data:=.seq its.toArray n }:=by
 obtain⟨z,its,n,r,e⟩:=I.hok l _ hH;exact⟨z,its,n,r,r.length,e⟩
theorem ua {n:Nat}(h:n≤sizeLine):Builtin.List.listTooLong n=false:=by
 unfold Builtin.List.listTooLong;exact Hb (by lia)
end
section
inductive uY  (x:V)(vs:List V)(H:Hp)(Q:VK):Prop
 | mk (l xs y:_) (h_0:x=.ref l) (h_1:vs=[y]) (h_2:H l=some (.lst xs)) (h_3:xs.length < sizeLine) (h_4:Q .non (upd H l (.lst (xs++[y])))):uY x vs H Q
def wW:V→List V→Hp→VK→Prop:=fun x vs H Q=>uY x vs H Q
theorem qF:MtM X "list.append" wW:=by
 intro pins s σ H x vs v us Q I rx rv h;obtain⟨l,xs,y,rfl,rfl,hH,hz,q⟩:=h;cases rx;obtain⟨u,rfl,ru⟩:=rv.one;obtain⟨z,its,n,r,hl,e⟩:=I.lstM hH;refine call_meets F.slot_list_append ⟨_,e,rfl⟩ F.entry_list_append (F.args_list_append_2 _ _) (PySem.list_append l its.toArray n u (by rw[GR];lia)) ⟨e,?_⟩;refine⟨.non,_,I.lset (its':=its++[u]) hH e (by simp) (r.append (.cons ru .nil)) ?_,rfl,q⟩;rw[GE,Hu]
 assumption
def Ci:V→List V→Hp→VK→Prop:=fun x vs H Q=>∃ l b xs zs,x=.ref l∧vs=[.ref b]∧H l=some (.lst xs)∧H b=some (.lst zs)∧xs.length + zs.length≤sizeLine∧Q .non (upd H l (.lst (xs++zs)))
theorem jF:MtM X "list.extend" Ci:=by
 intro pins s σ H x vs v us Q I rx rv h;obtain⟨l,b,xs,zs,rfl,rfl,hH,hB,hz,q⟩:=h;cases rx;obtain⟨u,rfl,ru⟩:=rv.one;cases ru;obtain⟨z,its,n,r,hl,e⟩:=I.lstM hH;obtain⟨z2,its2,n2,r2,hl2,e2⟩:=I.lstM hB;have hsz:its.toArray.size + its2.toArray.size≤sizeLine:=by rw[GR,GR];lia
 have hlong:¬ (!its.toArray.isEmpty && Builtin.List.listTooLong (its.toArray.size + its2.toArray.size))=true:=by
  rw[ua hsz,Bool.and_false];exact GM
 refine call_meets F.slot_list_extend ⟨_,e,rfl⟩ F.entry_list_extend (F.args_list_extend_2 _ _)
  (AutoSeq1.list_extend_list_list_0 l its.toArray n b its2.toArray n2 hlong (by rw[GR];lia) (by lia)) ⟨e,e2,?_⟩
 refine⟨.non,_,I.lset (its':=its++its2) hH e (by simp) (r.append r2) ?_,rfl,q⟩;rw[GE];omega
def Gd:R2:=fun x y H Q=>∃ l b xs zs,x=.ref l∧y=.ref b∧H l=some (.lst xs)∧H b=some (.lst zs)∧xs.length + zs.length≤sizeLine∧Nw H (.lst (xs++zs)) fun p H=>Q (.ref p) H
theorem AB:OpR X (binaryOp .Add) Gd:=by
 intro pins s σ H x y v u Q I rx ry h;obtain⟨l,b,xs,zs,rfl,rfl,hH,hB,hz,q⟩:=h;cases rx;cases ry;obtain⟨z,its,n,r,hl,e⟩:=I.lstM hH;obtain⟨z2,its2,n2,r2,hl2,e2⟩:=I.lstM hB;refine PySem.P.add_list e e2 ?_ (by rw[GR,GR];lia);have ea:its.toArray++its2.toArray=(its++its2).toArray:=by simp
 rw[ea];exact⟨.ref _,_,I.lnew (t':=s.toks) (r.append r2) (by rw[GE];omega),rfl,q _ I.fresh⟩
def Ga:R2:=fun x y H Q=>∃ l k xs,x=.ref l∧y=.int k∧H l=some (.lst xs)∧-(2 ^ 63)≤k∧k < 2 ^ 63∧xs.length * k.toNat≤sizeLine ∧
 Nw H (.lst (List.replicate k.toNat xs).flatten) fun p H=>Q (.ref p) H
theorem CT {α:Type}(xs:List α)(k:Nat):(List.replicate k xs).flatten.length=k * xs.length:=by
 induction k with
 | zero=>simp
 | succ k ih=>rw[Iw,Ir,GE,ih,Nat.succ_mul,Nat.add_comm]
theorem Ax:OpR X (binaryOp .Mult) Ga:=by
 intro pins s σ H x y v u Q I rx ry h;obtain⟨l,k,xs,rfl,rfl,hH,h1,h2,hz,q⟩:=h;cases rx;obtain⟨t,rfl⟩:=ry;obtain⟨z,its,n,r,hl,e⟩:=I.lstM hH;have hlen:its.toArray.size * k.toNat≤sizeLine:=by rw[GR,← hl];exact hz
 have hcap:¬ its.toArray.size * k.toNat > (2 ^ 63 - 1) / 8:=by
  have:(sizeLine:Nat)≤(2 ^ 63 - 1) / 8:=by decide
  lia
 have hfit:¬ (!Builtin.List.listFitsIndex k)=true:=by
  rw[fitsIndex_both h1 h2];exact GM
 have hlong:¬ Builtin.List.listTooLong (its.toArray.size * k.toNat)=true:=by
  rw[ua hlen];exact GM
 have hnew:List.foldl (fun x1 x2=>x1++x2) #[] (List.replicate (if its.toArray.isEmpty=true then 0 else k.toNat) its.toArray)=(List.replicate k.toNat its).flatten.toArray:=by
  have f0:∀ m:Nat,List.foldl (fun x1 x2=>x1++x2) #[] (List.replicate m its.toArray)=(List.replicate m its).flatten.toArray:=fun m=>by
   have:=qO its m []
   rw[HJ]at this;exact this
  rw[f0];cases its with
  | nil=>simp
  | cons a r'=>rw[if_neg (by simp)]
 refine wpAny_binaryOp_repeat_ref (T := "list") (U := "int") (by decide) ⟨_,e,rfl⟩ (fun s'=>typeIs_int s' k t) noFill_list_mul F.fills_int_mul F.slot_int_rmul repeat_list F.slot_int_index.lookup
  (call_meets F.slot_int_rmul (typeIs_int s k t) F.entry_int_rmul (F.args_int_rmul_2 _ _) (int___rmul___int_list k t l its.toArray n)
   ⟨e,rfl,⟨_,e,rfl⟩,call_meets F.slot_list_mul ⟨_,e,rfl⟩ F.entry_list_mul (F.args_list_mul_2 _ _) (AutoListH.list___mul___list_int_3 l its.toArray n k t hfit hcap hlong) ⟨e,?_⟩⟩)
 rw[hnew];exact⟨.ref _,_,I.lnew (t':=s.toks) (r.rep k.toNat) (by rw[CT,Jd];exact hz),rfl,q _ I.fresh⟩
end
section
variable {w:World}{E:Value→Shared→Prop}
set_option maxRecDepth 100000 in
end
section
end
end L2
namespace Att
open PySem PySem.W PySem.Calls PyProof.Rows
theorem m9 {P:Params}{h:Heap}:∀ (ns:List Int) (vs:List Value),WellAll P h vs (ns.map WData.int)→IntsAre vs ns:=by
 intro ns
 induction ns with
 | nil =>
  intro vs w;rw[Jz]at w;cases w;exact .nil
 | cons n ns ih =>
  intro vs w;rw[GX]at w;cases w with
  | cons a b =>
   cases a;exact .cons _ _ (ih _ b)
theorem yg {l:OpenLaw}{n:Nat}(hn:l.most=some n){P:Params}{h:Heap}{args:List WData}{vals:List Value}
  (hpre:l.row.toRowW.claim.pre args=true) (hwl:WellAll P h vals args) :
  ∃ a vs ns,vals=[Value.ref a]∧args=[WData.list (ns.map WData.int)]∧h.get? a=some { cls:=.type "list",data:=.seq vs.toArray }∧IntsAre vs ns∧ns.length≤n:=by
 have hsh:WShape.hasAll [] args [.list .int]=true:=(pre_splitW hpre).1;have hc:l.pre.holds [] { args:=args }=true:=(pre_splitW hpre).2;obtain⟨d,r,rfl,h1,h2⟩:=hasAllW_cons hsh;obtain rfl:=hasAllW_nil h2;obtain⟨xs,rfl,h3⟩:=hasW_list h1;obtain⟨ns,rfl⟩:=items_int h3;have hlen:ns.length≤n:=by
  unfold OpenLaw.pre at hc;have h4:(WTm.not (.lt (.lit (.int (n:Int))) (.len (.arg 0)))).holds [] { args:=[.list (ns.map .int)] }=true:=by
   have h4:=(holds_andW hc).1;rw[hn]at h4;exact h4
  have h5:=condW_of h4 (w_not (w_lt w_lit (w_len_list (w_arg rfl))));rw[Gy]at h5;refine Ie fun q =>?_;have q':(n:Int) < ((ns.length:Nat):Int):=by omega
  first
   | (rw[GH q']at h5;exact absurd h5 (by decide))
   | (simp at h5;lia)
 cases hwl with
 | cons w1 w2 =>
  cases w2;cases w1 with
  | list ho hall=>exact⟨_,_,ns,rfl,rfl,ho,m9 ns _ hall,hlen⟩
theorem yu (l:OpenLaw)(args:List WData):l.row.toRowW.claim.post args (.bool true) args=true :=
 postW_of (r:=l.row.toRowW) (X:=(true == true))
  (show WShape.has [] (.bool true) .bool=true by first | rfl | decide | simp[WShape.has,WShape.arms,WShape.armsAll])
  (show (WTm.eq .res (.lit (.bool true))).value [] { args:=args,res:=some (.bool true),after:=args }=some (.bool (true == true)) from w_eq_bool (w_res rfl) w_lit) rfl
theorem uW {l:OpenLaw}{n:Nat}{q:Program}{loose:List Str}{XP:(Str→Option Value)→Heap→Prop}{YP:World→Heap→Prop}{d:DefRec}
  (hn:l.most=some n) (hdf:d.params.defaults=[])
  (call:∀ (w:World) (s₀ s₁:Shared) (mg mb:Str→Option Value) (fa:Addr) (o:Obj) (pm cd doc:Value) (a:Addr) (vs:List Value) (ns:List Int),
   Ground q loose [] XP w s₀ mg mb s₁.heap→YP w s₁.heap →
   s₁.heap.get? fa=some o→o.data=.func (docDef d.name d.params d.body d.scope pm cd doc)→s₁.heap.CodeRec cd d.name→mg d.name=some (.ref fa) →
   s₁.heap.get? a=some { cls:=.type "list",data:=.seq vs.toArray }→IntsAre vs ns→ns.length≤n→s₁.gens = #[] →
   codeAny (model l.prog w) callerA (.call (.ref fa) ⟨[.ref a],[]⟩) (fun r s'=>r=.ok (.ret (.bool true))∧OldK s₁.heap s'.heap∧s'.os=s₁.os∧AllBare s'.gens) s₁) :
  WalkO q loose XP YP l.row.toRowW d [] (fun f vs=>PySem.call f vs):=by
 intro w s₀ s₁ mg mb G Y fa o pm cd doc dV kV ho hd hcd hD hmg hg args vals as hpre hlay hrd hwl hlo;obtain rfl:dV=.none:=Dflts.none hD hdf;obtain rfl:kV=.none:=Dflts.noKw hD;obtain⟨a,vs,ns,rfl,rfl,hobj,hints,hlen⟩:=yg hn hpre hwl;refine enter_call (codeAny_mono (call w s₀ s₁ mg mb fa o pm cd doc a vs ns G Y ho (fd_plain hd) hcd hmg hobj hints hlen hg) fun r s' hq =>?_);obtain⟨rfl,h2,h3,h4⟩:=hq;exact⟨.inl ⟨.bool true,.bool true,[],rfl,fun _=>rfl,.bool true,yu l _,fun _=>⟨List.Pairwise.nil,fun _ hm=>(nomatch hm)⟩⟩,h2,h3,h4⟩
section
variable {prog:Program}{w:World}{A:Around}{E:Value→Shared→Prop}{s:Shared}{K:Frag}
end
end Att
namespace L2
open PySem PySem.Spec PyProof.Rows
variable {H:Hp}{X:Cx}{s:Shared}{pos:Pos}{prog:Program}{A:Around}{K:PySem.W.Frag}
theorem qm:∀ {vs:List Value} {ns:List Int},IntsAre vs ns→aN (ns.map V.int) vs
 | _,_,.nil=>.nil
 | _,_,.cons n t h=>.cons ⟨t,rfl⟩ (qm h)
def bH (s:Stmt):Arguments:=match s with
 | .FunctionDef _ a _ _ _ _ _ _ _ _=>a
 | _=>{ posonlyargs:=[],args:=[],vararg:=none,kwonlyargs:=[],kw_defaults:=[],kwarg:=none,defaults:=[] }
def aY (s:Stmt):List Stmt:=match s with
 | .FunctionDef _ _ b _ _ _ _ _ _ _=>b
 | _=>[]
def aj (s:Stmt):Scope:=match s with
 | .FunctionDef _ _ _ _ _ _ sc _ _ _=>sc
 | _=>{ kind:=.function,names:=[],isGenerator:=false,isCoroutine:=false }
abbrev E0:XK:=fun _ _ _=>False
section
variable {P:Program}{w:World}{mg:Str→Option Value}{base:Heap}
end
theorem yc {n:Nat}(h:n≤1000):n < sizeLine:=IR h (by decide)
section
theorem pv (i:Nat){x:Str}{pos:Pos}(hN:X.N[i]? = some x:=by rfl)(hv:Vis X.env.scope x:=by first | exact Or.inl rfl | exact Or.inr (Or.inl rfl) | exact Or.inr (Or.inr rfl))(hd:(x == ("__debug__" : Str))=false:=by decide)
  (hcd:(x == ("__classdict__" : Str))=false:=by decide):PE X (.Name x pos) (vi i):=D4 hN hv hd hcd
end
theorem cH {A B:Prop}(h:B):if false=true then A else B:=by
 rw[if_neg GM];exact h
theorem fR {A B:Prop}(h:A):if true=true then A else B:=by
 rw[if_pos rfl];exact h
theorem bU {c A B:Prop}[Decidable c](h1:c→A)(h2:¬ c→B):if c then A else B:=by
 by_cases h:c
 ·rw[if_pos h];exact h1 h
 ·rw[if_neg h];exact h2 h
theorem xt {c A B:Prop}[Decidable c](hc:c)(h:B):if (!decide c)=true then A else B:=by
 rw[GH hc];exact cH h
def am (H H':Hp):Prop:=∀ b o,H b=some o→H' b=some o
theorem am.refl (H:Hp):am H H:=fun _ _ h=>h
theorem am.trans {H H1 H2:Hp}(a:am H H1)(b:am H1 H2):am H H2:=fun c o h=>b c o (a c o h)
theorem am.free {H H':Hp}(e:am H H'){l:Addr}(h:H' l=Option.none):H l=Option.none:=by
 cases q:H l with
 | none=>rfl
 | some o =>
  rw[e l o q]at h;cases h
theorem am.seq {K:PySem.W.Frag}{H H':Hp}{a:Addr}{xs:List V}(e:am H H')(h:SqL K H a xs):SqL K H' a xs:=by
 rcases h with (h|⟨o,h⟩)|h
 ·exact .inl (.inl (e _ _ h))
 ·exact .inl (.inr ⟨o,e _ _ h⟩)
 ·exact .inr h
section
variable {κ:Type}[DecidableEq κ]
def bD (kvs:List (κ × V))(k:κ):Option V:=(kvs.find? fun kv=>decide (kv.1=k)).map (·.2)
def dr (kvs:List (κ × V))(k:κ)(v:V):List (κ × V) :=
 if (kvs.any fun kv=>decide (kv.1=k))=true then kvs.map (fun kv=>if kv.1=k then (kv.1,v) else kv) else kvs++[(k,v)]
theorem zy {k:κ}:bD ([]:List (κ × V)) k=none:=rfl
theorem bP {p:κ × V}{r:List (κ × V)}{k:κ}(e:p.1=k):bD (p::r) k=some p.2:=by simp[bD,HX,e]
theorem bM {p:κ × V}{r:List (κ × V)}{k:κ}(e:¬ p.1=k):bD (p::r) k=bD r k:=by simp[bD,HX,e]
theorem i7 (k:κ):∀ kvs:List (κ × V),(kvs.any fun kv=>decide (kv.1=k))=(bD kvs k).isSome
 | []=>rfl
 | p::r=>by
  rw[IU];by_cases e:p.1=k
  ·simp only[bP e,GH e,Bool.true_or,Option.isSome_some]
  ·rw[bM e,Hb e,Bool.false_or];exact i7 k r
theorem sX (k j:κ)(y:V):∀ kvs:List (κ × V),bD (kvs.map fun kv=>if kv.1=k then (kv.1,y) else kv) j=(bD kvs j).map fun x=>if j=k then y else x
 | []=>rfl
 | p::r=>by
  have ih:=sX k j y r;rw[GX];by_cases h:p.1=k
  ·rw[if_pos h];by_cases e:p.1=j
   ·rw[bP (p:=(p.1,y)) e,bP e,IQ,if_pos (e.symm.trans h)]
   ·rw[bM (p:=(p.1,y)) e,bM e,ih]
  ·rw[if_neg h];by_cases e:p.1=j
   ·rw[bP (p:=p) e,bP e,IQ,if_neg (fun z=>h (e.trans z))]
   ·rw[bM (p:=p) e,bM e,ih]
theorem qo (k j:κ)(y:V):∀ kvs:List (κ × V),bD kvs k=none→bD (kvs++[(k,y)]) j=if j=k then some y else bD kvs j
 | [],_=>by
  by_cases e:k=j
  ·rw[if_pos e.symm];exact bP (p:=(k,y)) e
  ·rw[if_neg (fun z=>e z.symm)];exact bM (p:=(k,y)) e
 | p::r,hn=>by
  rw[List.cons_append];have hk:¬ p.1=k:=fun z=>by rw[bP z]at hn;cases hn
  rw[bM hk]at hn;have ih:=qo k j y r hn;by_cases e:p.1=j
  ·rw[bP e,bP e,if_neg (fun z=>hk (e.trans z))]
  ·rw[bM e,bM e,ih]
theorem nX (kvs:List (κ × V))(k j:κ)(y:V):bD (dr kvs k y) j=if j=k then some y else bD kvs j:=by
 unfold dr;by_cases a:(kvs.any fun kv=>decide (kv.1=k))=true
 ·rw[if_pos a,sX];rw[i7]at a;by_cases e:j=k
  ·obtain⟨x,hx⟩:=G9.mp a;rw[if_pos e,e,hx,IQ,if_pos rfl]
  ·rw[if_neg e];cases bD kvs j with
   | none=>rfl
   | some x=>rw[IQ,if_neg e]
 ·rw[if_neg a];refine qo k j y kvs ?_;rw[i7]at a;cases q:bD kvs k with
  | none=>rfl
  | some x=>rw[q]at a;exact (a rfl).elim
theorem d8 (kvs:List (κ × V))(k:κ)(v:V):(dr kvs k v).length≤kvs.length + 1:=by
 unfold dr
 split
 ·rw[Gy];simp
 ·rw[GE,G2,JL];simp
theorem Ac {kvs:List (κ × V)}{k:κ}(v:V)(h:bD kvs k=none):dr kvs k v=kvs++[(k,v)]:=by
 unfold dr;rw[i7,h];exact if_neg (by decide)
theorem nj.isSome_eq {o:Option V}{u:Option Value}(r:nj o u):o.isSome=u.isSome:=by
 cases o with
 | none=>cases u with
  | none=>rfl
  | some _=>exact (show False from r).elim
 | some _=>cases u with
  | none=>exact (show False from r).elim
  | some _=>rfl
theorem KV.val {kvs:List (κ × V)}{vs:List (κ × Value)}(r:KV kvs vs)(k:κ):nj (bD kvs k) (valueAt vs k):=by
 unfold KV at r
 induction r with
 | nil=>exact True.intro
 | @cons p q ps qs h t ih =>
  obtain⟨h1,h2⟩:=h;by_cases e:p.1=k
  ·have e':q.1=k:=h1.symm.trans e;have b:valueAt (q::qs) k=some q.2:=by simp[valueAt,HX,e']
   rw[bP e,b];exact h2
  ·have e':¬ q.1=k:=fun z=>e (h1.trans z);have b:valueAt (q::qs) k=valueAt qs k:=by simp[valueAt,HX,e']
   rw[bM e,b];exact ih
theorem KV.any {kvs:List (κ × V)}{vs:List (κ × Value)}(r:KV kvs vs)(k:κ):(kvs.any fun kv=>decide (kv.1=k))=vs.any fun kv=>decide (kv.1=k):=by
 unfold KV at r
 induction r with
 | nil=>rfl
 | cons h t ih=>rw[IU,IU,ih,h.1]
theorem KV.repl {kvs:List (κ × V)}{vs:List (κ × Value)}(r:KV kvs vs)(k:κ){y:V}{u:Value}(ry:aV y u):
  KV (kvs.map fun kv=>if kv.1=k then (kv.1,y) else kv) (vs.map fun kv=>if kv.1=k then (kv.1,u) else kv):=by
 unfold KV at r ⊢
 induction r with
 | nil=>exact .nil
 | @cons p q ps qs h t ih =>
  rw[GX,GX];refine .cons ?_ ih;obtain⟨h1,h2⟩:=h;by_cases e:p.1=k
  ·rw[if_pos e,if_pos (h1.symm.trans e)];exact⟨h1,ry⟩
  ·rw[if_neg e,if_neg (fun z=>e (h1.trans z))];exact⟨h1,h2⟩
theorem KV.put {kvs:List (κ × V)}{vs:List (κ × Value)}(r:KV kvs vs)(k:κ){y:V}{u:Value}(ry:aV y u):KV (dr kvs k y) (stored vs k u):=by
 unfold dr stored;rw[r.any k];by_cases e:(vs.any fun kv=>decide (kv.1=k))=true
 ·rw[if_pos e,if_pos e];exact r.repl k ry
 ·rw[if_neg e,if_neg e];exact Paired.snoc r ⟨rfl,ry⟩
theorem KV.length {kvs:List (κ × V)}{vs:List (κ × Value)}(r:KV kvs vs):kvs.length=vs.length:=Paired.length r
end
theorem fO {P:Program}{w:World}{k:Key}{u:Value}(r:aV (kV k) u):(aI P w).is k u=true:=by
 cases k with
 | inl i=>obtain⟨t,e⟩:=(show ∃ t,u=Value.int i t from r);subst e;exact uf P w i t
 | inr x=>obtain⟨t,e⟩:=(show ∃ t,u=Value.str x t from r);subst e;exact ue P w x t
theorem qH {P:Program}{w:World}:∀ {ks:List Key} {us:List Value},aN (ks.map kV) us→ItemsAre (aI P w) ks us
 | [],_,r=>by rw[Jz]at r;cases r;exact .nil
 | k::ks,_,r=>by
  rw[GX]at r;cases r with
  | cons h t=>exact .cons (fO h) (qH t)
abbrev KT (H:Hp):List (List Key × V)→List (List Key × Addr × Value)→Prop:=Paired fun p q=>p.1=q.1∧H q.2.1=some (.tup (p.1.map kV))∧aV p.2 q.2.2
theorem KT.val {H:Hp}{kvs:List (List Key × V)}{xs:List (List Key × Addr × Value)}(r:KT H kvs xs)(k:List Key):nj (bD kvs k) ((atKey xs k).map (·.2)):=by
 induction r with
 | nil=>exact True.intro
 | @cons p q ps qs h t ih =>
  obtain⟨h1,_,h2⟩:=h;by_cases e:p.1=k
  ·have e':q.1=k:=h1.symm.trans e;have b:atKey (q::qs) k=some q.2:=by simp[atKey,HX,e']
   rw[bP e,b];exact h2
  ·have e':¬ q.1=k:=fun z=>e (h1.trans z);have b:atKey (q::qs) k=atKey qs k:=by simp[atKey,HX,e']
   rw[bM e,b];exact ih
theorem KT.repl {H:Hp}{kvs:List (List Key × V)}{xs:List (List Key × Addr × Value)}(r:KT H kvs xs)(k:List Key){y:V}{u:Value}(ry:aV y u):
  KT H (kvs.map fun kv=>if kv.1=k then (kv.1,y) else kv) (xs.map (putAt k u)):=by
 induction r with
 | nil=>exact .nil
 | @cons p q ps qs h t ih =>
  rw[GX,GX];refine .cons ?_ ih;obtain⟨h1,h2,h3⟩:=h;unfold putAt;by_cases e:p.1=k
  ·rw[if_pos e,if_pos (h1.symm.trans e)];exact⟨h1,h2,ry⟩
  ·rw[if_neg e,if_neg (fun z=>e (h1.trans z))];exact⟨h1,h2,h3⟩
theorem KT.put {H:Hp}{kvs:List (List Key × V)}{xs:List (List Key × Addr × Value)}(r:KT H kvs xs)(k:List Key){b:Addr}{y:V}{u:Value}(hb:H b=some (.tup (k.map kV)))(ry:aV y u):
  KT H (dr kvs k y) (storedH xs k b u):=by
 have e:(kvs.any fun kv=>decide (kv.1=k))=(atKey xs k).isSome:=by
  rw[i7,(r.val k).isSome_eq,Hy]
 unfold dr storedH;rw[e];by_cases q:(atKey xs k).isSome=true
 ·rw[if_pos q,if_pos q];exact r.repl k ry
 ·rw[if_neg q,if_neg q];exact Paired.snoc r ⟨rfl,hb,ry⟩
theorem KT.keeps {H H':Hp}{kvs:List (List Key × V)}{xs:List (List Key × Addr × Value)}(r:KT H kvs xs)(ht:∀ b ys,H b=some (.tup ys)→H' b=some (.tup ys)):KT H' kvs xs :=
 Paired.mapP r fun _ _ z=>⟨z.1,ht _ _ z.2.1,z.2.2⟩
section
variable {P:Program}{w:World}{h:Heap}{a:Addr}
theorem Dr {u:HO}(ok:HOk P w H h)(e:Rd H a u):bo P w H h a u:=e.ok ok
theorem uF {kvs:List (Key × V)}(ok:HOk P w H h)(e:Rd H a (.dK kvs)):kvs.length≤sizeLine∧(a == sysModules)=false∧∃ vs,KV kvs vs∧h.DictOf (aI P w) a vs :=
 show bo P w H h a (.dK kvs) from Dr ok e
theorem Bu {kvs:List (Key × V)}(ok:HOk P w H h)(e:H a=some (.dK kvs)):kvs.length≤sizeLine∧(a == sysModules)=false∧∃ vs,KV kvs vs∧h.DictOf (aI P w) a vs:=uF ok (.inl e)
theorem oZ {ks:List Key}(ok:HOk P w H h)(e:H a=some (.tup (ks.map kV))):(tupleKind (aI P w)).is h ks a:=by
 obtain⟨_,its,r,o,h1,h2,n,h3⟩:=(show bo P w H h a (.tup (ks.map kV)) from ok a _ e);exact⟨o,its.toArray,n,h1,h2,h3,by simpa using qH r⟩
theorem uE {kvs:List (List Key × V)}(ok:HOk P w H h)(e:Rd H a (.dT kvs)):kvs.length≤sizeLine∧(a == sysModules)=false ∧
  ∃ xs,KT H kvs xs∧h.DictOfH (tupleKind (aI P w)) a xs:=by
 obtain⟨z,y,xs,r,o,es,ep,h1,h2,h3,h4,h5⟩:=(show bo P w H h a (.dT kvs) from Dr ok e);refine⟨z,y,xs,r,o,es,ep,h1,h2,h3,h4,fun x hx =>?_,h5⟩;have all:∀ {l:List (List Key × V)} {m:List (List Key × Addr × Value)},KT H l m→∀ x∈m,(tupleKind (aI P w)).is h x.1 x.2.1:=by
  intro l m q
  induction q with
  | nil=>intro x hx;exact nomatch hx
  | @cons p q ps qs hq t ih =>
   intro x hx;rcases GU.mp hx with e | hx
   ·subst e;exact oZ ok (by rw[← hq.1];exact hq.2.1)
   ·exact ih x hx
 exact all r x hx
theorem FQ {kvs:List (List Key × V)}(ok:HOk P w H h)(e:H a=some (.dT kvs)):kvs.length≤sizeLine∧(a == sysModules)=false ∧
  ∃ xs,KT H kvs xs∧h.DictOfH (tupleKind (aI P w)) a xs:=uE ok (.inl e)
end
def km (H:Hp)(a:Addr)(y:V)(r:Option V):Prop :=
 (∃ kvs k,Rd H a (.dK kvs)∧y=kV k∧r=bD kvs k)∨∃ kvs k b,Rd H a (.dT kvs)∧y=.ref b∧H b=some (.tup (k.map kV))∧r=bD kvs k
def va (H:Hp)(a:Addr)(y v:V)(H':Hp):Prop :=
 (∃ kvs k,H a=some (.dK kvs)∧y=kV k∧kvs.length < sizeLine∧H'=upd H a (.dK (dr kvs k v))) ∨
 ∃ kvs k b,H a=some (.dT kvs)∧y=.ref b∧H b=some (.tup (k.map kV))∧kvs.length < sizeLine∧H'=upd H a (.dT (dr kvs k v))
theorem km.k {H:Hp}{a:Addr}{kvs:List (Key × V)}{k:Key}(e:H a=some (.dK kvs)):km H a (kV k) (bD kvs k):=.inl ⟨kvs,k,.inl e,rfl,rfl⟩
theorem va.k {H:Hp}{a:Addr}{kvs:List (Key × V)}{k:Key}{v:V}(e:H a=some (.dK kvs))(hl:kvs.length < sizeLine):va H a (kV k) v (upd H a (.dK (dr kvs k v))):=.inl ⟨kvs,k,e,rfl,hl,rfl⟩
section
variable {pins:List (Addr × Obj)}{σ:St}{a:Addr}{y v:V}{u r:Value}{o:Option V}{E:Value→Shared→Prop}
theorem Inv.big (I:Inv X pins σ H s):sysModules < s.heap.objs.size:=by
 have h:mainGlobals < s.heap.objs.size:=(I.mod.glob.keeps I.bk).lt;exact IP (by decide) h
theorem zc {Q:Value→Shared→Prop}(hu:A.units + 1 < cLine)(I:Inv X pins σ H s)(g:km H a y (some v))(ry:aV y u)(h:∀ w' s',Inv X pins σ H s'→aV v w'→Q w' s'):
  wpAny (model X.prog X.w) A (getItem (.ref a) u) Q E s:=by
 rcases g with⟨kvs,k,e,ey,l⟩|⟨kvs,k,b,e,ey,eb,l⟩
 ·subst ey;obtain⟨z,hd,vs,rel,dd⟩:=uF I.hok e;obtain⟨w',hw,rw'⟩:=nj.some_of (v:=v) (o:=valueAt vs k) (by rw[l];exact rel.val k);exact wpAny_getItem_of (fO ry) dd.mapOf hw (h w' _ (I.tok _) rw')
 ·subst ey;cases (show u=Value.ref b from ry);obtain⟨z,hd,xs,rel,dd⟩:=uE I.hok e;obtain⟨w',hw,rw'⟩:=nj.some_of (v:=v) (o:=(atKey xs k).map (·.2)) (by rw[l];exact rel.val k);obtain⟨p,hp,hp2⟩:=He.mp hw;refine wpAny_getItem_heap (tupleKind_room_in1 hu) (oZ I.hok eb) dd hp ?_;rw[hp2];exact h w' _ (I.tok _) rw'
theorem C9 {Q:Value→Shared→Prop}(hu:A.units + 1 < cLine)(I:Inv X pins σ H s)(g:km H a y o)(ry:aV y u)(h:∀ s',Inv X pins σ H s'→Q (.bool (!o.isSome)) s'):
  wpAny (model X.prog X.w) A (compareOp .NotIn u (.ref a)) Q E s:=by
 rcases g with⟨kvs,k,e,ey,l⟩|⟨kvs,k,b,e,ey,eb,l⟩
 ·subst ey;obtain⟨z,hd,vs,rel,dd⟩:=uF I.hok e;refine wpAny_notIn_of (fO ry) hd dd.mapOf ?_;rw[← (rel.val k).isSome_eq,← l];exact h _ (I.tok _)
 ·subst ey;cases (show u=Value.ref b from ry);obtain⟨z,hd,xs,rel,dd⟩:=uE I.hok e;refine wpAny_notIn_heap (tupleKind_room_in1 hu) (oZ I.hok eb) hd dd ?_;have q:=(rel.val k).isSome_eq;rw[Hy]at q;rw[← q,← l];exact h _ (I.tok _)
theorem nV {h':Heap}{t':Nat}{ob:HO}(I:Inv X pins σ H s)(mu:Mut (H a))(hs:Heap.SameBut a s.heap h')(he:∃ q,h'.get? a=some q)(new:bo X.prog X.w (upd H a ob) h' a ob):
  Inv X pins σ (upd H a ob) { s with heap:=h',toks:=t' } :=
 I.write (x:=a) (e:=a) mu (.inl rfl) (fun b q hb z=>(hs.2 b hb).trans z) he new
theorem Bv {P:Program}{w:World}{H':Hp}{h':Heap}{kvs:List (Key × V)}{vs:List (Key × Value)}(z:kvs.length≤sizeLine)(hd:(a == sysModules)=false)(rel:KV kvs vs)(dd:h'.DictOf (aI P w) a vs):
  bo P w H' h' a (.dK kvs):=⟨z,hd,vs,rel,dd⟩
theorem za {H':Hp}{Q:Unit→Shared→Prop}(hu:A.units + 1 < cLine)(I:Inv X pins σ H s)(g:va H a y v H')(ry:aV y u)(rv:aV v r)(h:∀ s',Inv X pins σ H' s'→Q () s'):
  wpAny (model X.prog X.w) A (setItem (.ref a) u r) Q E s:=by
 rcases g with⟨kvs,k,e,ey,l,eH⟩|⟨kvs,k,b,e,ey,eb,l,eH⟩
 ·subst ey eH;obtain⟨z,hd,vs,rel,dd⟩:=Bu I.hok e;have hz:vs.length≤sizeLine:=by rw[← rel.length];exact z
  have hl:(dr kvs k v).length≤sizeLine:=by have:=d8 kvs k v;lia
  refine wpAny_setItem_pairs (hsz:=hz) (fO ry) dd fun h' dd' hs=>h _ ?_;have he:∃ q,h'.get? a=some q:=let ⟨q,_,_,hq,_⟩:=dd';⟨q,hq⟩
  exact nV I (by rw[e];exact True.intro) hs he (Bv hl hd (rel.put k rv) dd')
 ·subst ey eH;cases (show u=Value.ref b from ry);obtain⟨z,hd,xs,rel,dd⟩:=FQ I.hok e;have hz:xs.length≤sizeLine:=by rw[← Paired.length rel];exact z
  have hl:(dr kvs k v).length≤sizeLine:=by have:=d8 kvs k v;lia
  refine wpAny_setItem_heap (hsz:=hz) (tupleKind_room_in1 hu) (oZ I.hok eb) dd fun h' dd' hs=>h _ ?_;obtain⟨q,es,ep,hq,h2,h3,h4,_,h5⟩:=dd';refine nV I (by rw[e];exact True.intro) hs ⟨q,hq⟩ ⟨hl,hd,_,(rel.put k eb rv).keeps fun c ys ec =>?_,q,es,ep,hq,h2,h3,h4,h5⟩;rw[aD (Dt ec e (fun z=>nomatch z))];exact ec
end
section
variable {pins:List (Addr × Obj)}{σ:St}{a:Addr}{kvs:List (Key × V)}{k:Key}{u:Value}{E:Value→Shared→Prop}
end
def Dk (i:Expr):Prop:=∀ ov iv,subscripted i false ov iv=operate [ov,iv] (getItem ov iv)
theorem rf {prog:Program}{w:World}{A:Around}{E:Value→Shared→Prop}{s:Shared}{env:Env}{value slice:Expr}{pos:Pos}{T id:String}{Q:Value→Shared→Prop}
  (hl:typeLookup (.type T) "__getitem__" = pure (some (.builtin id))) (hs:Dk slice)
  (h:wpAny (model prog w) A (eval value env) (fun o s₁=>wpAny (model prog w) A (eval slice env) (fun i s₂=>s₂.TypeIs o T∧wpAny (model prog w) A (getItem o i) Q E s₂) E s₁) E s) :
  wpAny (model prog w) A (eval (.Subscript value slice pos) env) Q E s:=by
 refine Subscript_ (Ho h (fun o s₁ h₁=>Ho h₁ (fun i s₂ h₂ =>?_) fun _ _ x=>x) fun _ _ x=>x);obtain⟨hT,h₂⟩:=h₂;unfold subscriptTail;refine Gw ?_;rw[getitemInPython_of_ne hT.not_modules];refine Gw (wpAny_specialOf hT hl ?_);have fin:wpAny (model prog w) A (subscripted slice false o i) (fun r s₃=>wpAny (model prog w) A (letTemporaryGo value o r >>= fun _=>pure r) Q E s₃) E s₂:=by
  rw[hs o i];exact wpAny_operating (Ho h₂ (fun r s₃ h₃=>Gw (wpAny_letTemporaryGo (GN h₃))) fun _ _ x=>x)
 first
  | exact GN (Gw fin)
  | exact Gw (GN (Gw fin))
  | exact Gw fin
theorem uI {X:Cx}{pins:List (Addr × Obj)}{σ:St}{H:Hp}{s:Shared}{a:Addr}{y:V}{o:Option V}(I:Inv X pins σ H s)(g:km H a y o):s.TypeIs (.ref a) "dict" := by
 rcases g with⟨kvs,k,e,_,_⟩|⟨kvs,k,b,e,_,_,_⟩
 ·obtain⟨_,_,vs,_,dd⟩:=uF I.hok e;exact dd.typeIs
 ·obtain⟨_,_,xs,_,dd⟩:=uE I.hok e;exact dd.typeIs
abbrev Fb (td ty:TE):TE:=fun σ H Q=>td σ H fun x H1=>ty σ H1 fun y H2=>∃ a v,x=.ref a∧km H2 a y (some v)∧Q v H2
abbrev Ff (td ty tv:TE):TS:=fun D σ H=>tv σ H fun v H1=>td σ H1 fun x H2=>ty σ H2 fun y H3=>∃ a H4,x=.ref a∧va H3 a y v H4∧D.nx σ H4
section
variable {o i e value:Expr}{pos' tpos:Pos}{td ty tv:TE}
theorem dQ (hu:X.A.units + 1 < cLine)(ho:PE X o td)(hi:PE X i ty)(hs:Dk i):PE X (.Subscript o i pos) (Fb td ty):=by
 intro pins s σ H Q I h;refine rf PySem.F.slot_dict_getitem.lookup hs (thn (ho pins s σ H _ I h) fun u s1 ⟨x,H1,I1,rx,q1⟩=>thn (hi pins s1 σ H1 _ I1 q1) fun iv s2 ⟨y,H2,I2,ry,a,v,ex,g,q2⟩ =>?_);subst ex;obtain rfl:u=Value.ref a:=rx;exact⟨uI I2 g,zc hu I2 g ry fun w' s3 I3 rw'=>⟨v,H2,I3,rw',q2⟩⟩
theorem rF (hu:X.A.units + 1 < cLine)(ho:PE X o td)(hi:PE X i ty)(hv:PE X value tv)(hs:swapsWith value (some (.Subscript o i pos')) pos.line X.env=pure false):
  PS X (.Assign [.Subscript o i pos'] value pos) (Ff td ty tv):=by
 intro pins s σ H D I h;refine wpAny_Assign_Subscript (thn (hv pins s σ H _ I h) fun r s1 ⟨v,H1,I1,rv,q1⟩=>thn (ho pins s1 σ H1 _ I1 q1) fun u s2 ⟨x,H2,I2,rx,q2⟩=>thn (hi pins s2 σ H2 _ I2 q2) fun iv s3 ⟨y,H3,I3,ry,a,H4,ex,g,q3⟩ =>?_) hs;subst ex;obtain rfl:u=Value.ref a:=rx;exact za hu I3 g ry rv fun s4 I4=>⟨σ,H4,I4,q3⟩
end
theorem uG {P:Program}{w:World}{H:Hp}(h:Heap)(hb:sysModules < h.objs.size):bo P w H (h.push { cls:=.type "dict",data:=.dict #[] }) h.objs.size (.dK []) :=
 ⟨GF _,beq_eq_false_iff_ne.mpr (Ne.symm (G3 hb)),[],.nil,Heap.DictOf.new h⟩
def DP:TE:=fun _ H Q=>Nw H (.dK []) fun p H=>Q (.ref p) H
section
theorem tQ:PE X (.Dict [] [] pos) DP:=fun pins s σ H Q I h =>
 wpAny_Dict_empty ⟨.ref s.heap.objs.size,_,I.laid (a:=s.heap.objs.size) (o:=.dK []) (t':=s.toks) (fun _ _ q=>Gx _ q) (GB _) (uG s.heap I.big),rfl,h _ (I.hok.fresh (GB _))⟩
end
def vj:List (TE × TE)→St→Hp→(List (V × V)→Hp→Prop)→Prop
 | [],_,H,Q=>Q [] H
 | (tk,tv)::r,σ,H,Q=>tk σ H fun x H1=>tv σ H1 fun y H2=>vj r σ H2 fun ps H3=>Q ((x,y)::ps) H3
abbrev VV:List (V × V)→List (Value × Value)→Prop:=Paired fun p q=>aV p.1 q.1∧aV p.2 q.2
def PPs (X:Cx)(pos:Pos)(keys:List (Option Expr))(values:List Expr)(trs:List (TE × TE)):Prop :=
 ∀ (pins:List (Addr × Obj)) (s:Shared) (σ:St) (H:Hp) (Q:List (V × V)→Hp→Prop),Inv X pins σ H s→vj trs σ H Q →
  wpAny (model X.prog X.w) X.A (evalPairs (pairTrees keys values X.env pos)) (fun vs s'=>∃ ps H',Inv X pins σ H' s'∧VV ps vs∧Q ps H') X.xe s
theorem Cs {X:Cx}{pos:Pos}:PPs X pos [] [] []:=fun pins s σ H Q I h=>pairTrees_nil_walk ⟨[],H,I,.nil,h⟩
theorem Ah {X:Cx}{pos:Pos}{k v:Expr}{ks:List (Option Expr)}{vs:List Expr}{tk tv:TE}{trs:List (TE × TE)}(hk:PE X k tk)(hv:PE X v tv)(hr:PPs X pos ks vs trs):
  PPs X pos (some k::ks) (v::vs) ((tk,tv)::trs):=fun pins s σ H Q I h =>
 pairTrees_cons_walk (thn (hk pins s σ H _ I h) fun u s1 ⟨x,H1,I1,rx,q1⟩=>thn (hv pins s1 σ H1 _ I1 q1) fun w2 s2 ⟨y,H2,I2,ry,q2⟩ =>
  thn (hr pins s2 σ H2 _ I2 q2) fun ws s3 ⟨ps,H3,I3,rel,q3⟩=>⟨(x,y)::ps,H3,I3,.cons ⟨rx,ry⟩ rel,q3⟩)
def oU (kvs more:List (Key × V)):List (Key × V):=more.foldl (fun acc kv=>dr acc kv.1 kv.2) kvs
theorem KV.merge:∀ {more:List (Key × V)} {rs:List (Key × Value)} {kvs:List (Key × V)} {vs:List (Key × Value)},KV more rs→KV kvs vs→KV (oU kvs more) (merged vs rs):=by
 intro more rs kvs vs r;unfold KV at r
 induction r generalizing kvs vs with
 | nil=>intro q;exact q
 | @cons p q ps qs h t ih =>
  intro r0;have e:KV (dr kvs p.1 p.2) (stored vs q.1 q.2):=by
   have:=r0.put p.1 h.2
   rw[← h.1];exact this
  exact ih e
theorem jR:∀ (more kvs:List (Key × V)),(oU kvs more).length≤kvs.length + more.length
 | [],kvs=>by show kvs.length≤kvs.length + 0;simp
 | p::r,kvs=>by
  have h1:=jR r (dr kvs p.1 p.2);have h2:=d8 kvs p.1 p.2;show (oU (dr kvs p.1 p.2) r).length≤_;rw[G2];lia
theorem pN {P:Program}{w:World}:∀ {kvs:List (Key × V)} {ws:List (Value × Value)},VV (kvs.map fun kv=>(kV kv.1,kv.2)) ws→∃ rs,Carries (aI P w) ws rs∧KV kvs rs
 | [],_,r=>by rw[Jz]at r;cases r;exact⟨[],True.intro,.nil⟩
 | p::kvs,_,r=>by
  rw[GX]at r;cases r with
  | @cons a b as bs h t =>
   obtain⟨rs,c,q⟩:=pN (P:=P) (w:=w) t;obtain⟨b1,b2⟩:=b;exact⟨(p.1,b2)::rs,⟨fO h.1,rfl,c⟩,.cons ⟨rfl,h.2⟩ q⟩
def Dq (trs:List (TE × TE)):TE:=fun σ H Q=>∀ p,H p=none→vj trs σ (upd H p (.dK [])) fun ps H2=>H2 p=some (.dK [])∧∃ kvs:List (Key × V),ps=kvs.map (fun kv=>(kV kv.1,kv.2))∧kvs.length≤15∧Q (.ref p) (upd H2 p (.dK (oU [] kvs)))
theorem CA {X:Cx}{pos:Pos}{keys:List (Option Expr)}{values:List Expr}{trs:List (TE × TE)}(h:PPs X pos keys values trs)(hall:keys.all (·.isSome)=true)(hl:keys.length=values.length)(h0:keys≠[])
  (h15:keys.length≤15):PE X (.Dict keys values pos) (Dq trs):=by
 intro pins s σ H Q I q;have hn:=I.hok.fresh (GB s.heap.objs.size);have I1:=I.laid (a:=s.heap.objs.size) (o:=.dK []) (h':=s.heap.push { cls:=.type "dict",data:=.dict #[] }) (t':=s.toks) (fun _ _ q=>Gx _ q) (GB _) (uG s.heap I.big)
 refine wpAny_Dict_walk (knd:=aI X.prog X.w) hall hl h0 h15 (thn (h pins _ σ _ _ I1 (q _ hn)) fun ws s2 ⟨ps,H2,I2,rel,e,kvs,ep,lk,q2⟩ =>?_);subst ep;obtain⟨rs,c,rk⟩:=pN (P:=X.prog) (w:=X.w) rel;obtain⟨z,hd,vs0,r0,dd⟩:=Bu I2.hok e;cases r0;refine⟨rs,c,dd,fun h' dd' hs=>⟨.ref s.heap.objs.size,_,?_,rfl,q2⟩⟩;have hz:(oU [] kvs).length≤sizeLine:=by
  have h1:=jR kvs [];rw[JL]at h1;rw[sizeLine_eq];lia
 have he:∃ q,h'.get? s.heap.objs.size=some q:=let ⟨q,_,_,hq,_⟩:=dd';⟨q,hq⟩
 exact nV I2 (by rw[e];exact True.intro) hs he (Bv hz hd (rk.merge .nil) dd')
def IsD (H:Hp)(a:Addr):Prop:=(∃ kvs,Rd H a (.dK kvs))∨∃ kvs,Rd H a (.dT kvs)
theorem Ev {X:Cx}{pins:List (Addr × Obj)}{σ:St}{H:Hp}{s:Shared}{a:Addr}(I:Inv X pins σ H s)(d:IsD H a):
  s.TypeIs (.ref a) "dict" ∧ (∀ b,Value.ref a=.ref b→∃ ob,s.heap.get? b=some ob∧ob.dict=none)∧(a == sysModules)=false:=by
 rcases d with⟨kvs,e⟩|⟨kvs,e⟩
 ·obtain⟨_,hd,vs,_,dd⟩:=uF I.hok e;refine⟨dd.typeIs,fun b q =>?_,hd⟩;cases q;obtain⟨ob,_,_,h1,h2,_⟩:=dd;exact⟨ob,h1,h2.2.1⟩
 ·obtain⟨_,hd,xs,_,dd⟩:=uE I.hok e;refine⟨dd.typeIs,fun b q =>?_,hd⟩;cases q;obtain⟨ob,_,_,h1,h2,_⟩:=dd;exact⟨ob,h1,h2.2.1⟩
section
variable {pins:List (Addr × Obj)}{σ:St}{a:Addr}{y d:V}{u r:Value}{o:Option V}{E:Value→Shared→Prop}
end
section
variable {o e f:Expr}{apos cpos:Pos}{td ty tx:TE}
end
section
variable {pins:List (Addr × Obj)}{σ:St}{a:Addr}{kvs:List (Key × V)}{E:Value→Shared→Prop}
end
section
variable {pins:List (Addr × Obj)}{σ:St}{a:Addr}{y:V}{u:Value}{E:Value→Shared→Prop}
end
section
variable {κ:Type}[DecidableEq κ]
end
def Itg (n:Nat)(g:Nat→V):It:=⟨fun i _=>i < n,fun i H x H'=>H'=H∧x=g i,fun i _=>n≤i⟩
theorem lA {P:Program}{w:World}{K:PySem.W.Frag}{tg:Expr}{it:Addr}{n:Nat}{Pn:Nat→Value→Prop}{St:Nat→Heap→Prop}{g:Nat→V}
  (W:∀ A:Around,A.handled=none→Walks P w A it [it] [it] n Pn St) (hv:∀ i v,Pn i v→aV (g i) v)
  (hk:∀ i h h',St i h→(∀ o,h.get? it=some o→h'.get? it=some o)→St i h')
  (hself:∀ (A:Around) (i:Nat) (s:Shared) (Q:Value→Shared→Prop) (E:Value→Shared→Prop),St i s.heap→Q (.ref it) s→wpAny (model P w) A (pyIter (.ref it)) Q E s)
  (ho:∀ i h,St i h→∃ o c vs,h.get? it=some o∧o.cls=.type c∧o.data=.fields vs ∧
   ["enumerate","zip","dict_itemiterator","dict_reverseitemiterator","odict_iterator","itertools.zip_longest","itertools.pairwise"].contains c=false) :
  zn P w K tg (Itg n g) [it] it (fun i h=>i≤n∧St i h) where
 mem:=by simp
 obj:=fun i h st b hb=>by
  have e:b=it:=by simpa using hb
  subst e;obtain⟨o,c,vs,e,_,d,_⟩:=ho i h st.2;exact⟨o,e,fun v z=>by rw[d]at z;cases z⟩
 keep:=fun i h h' st k=>⟨st.1,hk i h h' st.2 fun o e=>k it (by simp) o e⟩
 item:=by
  intro X hP hw hK hc i pins s σ H E I hf st hg;subst hP hw hK;obtain⟨f0,f1,f2,f3,f4,f5⟩:=hf it (by simp);refine (W X.A (I.ok.hd hc)).item i s _ _ hg st.2 fun v h' tk hP st' kk =>?_;have I1:Inv X pins σ H { s with heap:=h',toks:=tk }:=I.turned (fun b o hb e=>kk b o (by simpa using hb) e) f0 f1 f3 f4 f5;obtain⟨o,c,vs,e,hcls,d,hn⟩:=ho _ _ st';exact⟨v,rfl,uv (s:={ s with heap:=h',toks:=tk }) e hcls d hn ⟨g i,H,I1,hv i v hP,⟨rfl,rfl⟩,⟨hg,st'⟩,fun b hb=>(hf b hb).1⟩⟩
 done:=by
  intro X hP hw hK hc i pins s σ H E I hf st hg;subst hP hw hK;obtain⟨f0,f1,f2,f3,f4,f5⟩:=hf it (by simp);have hg':n≤i:=hg;have e:i=n:=Nat.le_antisymm st.1 hg';subst e;exact (W X.A (I.ok.hd hc)).done s _ _ st.2 fun h' tk kk=>⟨rfl,I.turned (fun b o hb e=>kk b o (by simpa using hb) e) f0 f1 f3 f4 f5⟩
 self:=fun A i s Q E st h=>hself A i s Q E st.2 h
theorem ss {n:Nat}{g':Nat→V}{g:TG}{tb:TS}{D:lh}{σ:St}{H:Hp}(Pv:Nat→St→Hp→Prop)(h0:Pv 0 σ H)
  (hs:∀ i σ H,i < n→Pv i σ H→g (g' i) σ H fun σ2 H2=>tb { D with nx:=Pv (i + 1),ct:=Pv (i + 1),bk:=D.nx } σ2 H2) (hd:∀ σ H,Pv n σ H→D.nx σ H) :
  ∃ W:Nat→Nat→St→Hp→Prop,(∃ m,W 0 m σ H)∧∀ i m σ H,W i m σ H →
   ((Itg n g').stop i H∧D.nx σ H)∨((Itg n g').go i H∧∃ N:St→Hp→Prop,(∀ σ' H',N σ' H'→∃ m',m' < m∧W (i + 1) m' σ' H')∧∀ x H',(Itg n g').yld i H x H'→g x σ H' fun σ2 H2=>tb { D with nx:=N,ct:=N,bk:=D.nx } σ2 H2):=by
 refine⟨fun i m σ H=>m=n - i∧i≤n∧Pv i σ H,⟨n,by simp,GF _,h0⟩,?_⟩;rintro i m σ H ⟨rfl,hi,p⟩;by_cases hlt:i < n
 ·refine .inr ⟨hlt,Pv (i + 1),fun σ' H' p'=>⟨n - (i + 1),by lia,rfl,hlt,p'⟩,fun x H' y =>?_⟩;obtain⟨e,y⟩:=y;subst e y;exact hs i σ _ hlt p
 ·have e:i=n:=by lia
  subst e;exact .inl ⟨GB _,hd σ H p⟩
section
variable {tg:Expr}
def sgn (z:Str)(i:Nat):Str:=⟨#[z.cps.getD i 0]⟩
abbrev Gi (tl:TE):TI:=fun σ H R=>tl σ H fun x H1=>∃ z,x=.str z∧R (Itg z.length fun i=>.str (sgn z i)) H1
theorem zM {z:Str}{i:Nat}{v:Value}(h:SignAt z i v):aV (.str (sgn z i)) v:=by
 obtain⟨c,u,hc,rfl⟩:=h;refine⟨u,?_⟩;have e:z.cps.getD i 0=c:=by simp[Hs,hc]
 unfold sgn;rw[e]
theorem vN {l:Expr}{tl:TE}(hl:PE X l tl):PI X tg l (Gi tl):=by
 intro pins s σ H R I h;refine thn (hl pins s σ H _ I h) fun v s1 ⟨x,H1,I1,r1,q1⟩ =>?_;obtain⟨z,e,q⟩:=q1;subst e;obtain⟨t,rfl⟩:=r1;have fp:∀ b∈[s1.heap.objs.size],u_ X pins H1 b:=fun b hb=>by
  have e:b=s1.heap.objs.size:=by simpa using hb
  subst e;exact I1.fpOk (GB _) (I1.hok.fresh (GB _))
 cases ha:z.cps.all (· < 128)
 ·refine wpAny_pyIter_wide ha ?_;refine⟨s1.heap.objs.size,[s1.heap.objs.size],_,_,H1,rfl,I1.kept (t':=s1.toks) fun b o e=>Gx _ e,
   lA (St:=fun i h=>h.IsStrIter s1.heap.objs.size "str_iterator" z t i) (fun A hA=>Walks.strWide hA _ z t) (fun i v=>zM) (fun i h h' st k=>let ⟨o,ho,r⟩:=st;⟨o,k o ho,r⟩) (fun A i s Q E st hQ=>wpAny_pyIter_striter_wide st hQ)
    (fun i h st=>let ⟨o,ho,hc,hd⟩:=st;⟨o,_,_,ho,hc,hd,by decide⟩),⟨GF _,⟨_,GQ _ rfl,rfl,rfl⟩⟩,fp,q⟩
 ·refine wpAny_pyIter_ascii ha ?_;refine⟨s1.heap.objs.size,[s1.heap.objs.size],_,_,H1,rfl,I1.kept (t':=s1.toks) fun b o e=>Gx _ e,
   lA (St:=fun i h=>h.IsStrIter s1.heap.objs.size "str_ascii_iterator" z t i) (fun A hA=>Walks.strAscii hA _ z t) (fun i v=>zM) (fun i h h' st k=>let ⟨o,ho,r⟩:=st;⟨o,k o ho,r⟩) (fun A i s Q E st hQ=>wpAny_pyIter_striter_ascii st hQ)
    (fun i h st=>let ⟨o,ho,hc,hd⟩:=st;⟨o,_,_,ho,hc,hd,by decide⟩),⟨GF _,⟨_,GQ _ rfl,rfl,rfl⟩⟩,fp,q⟩
abbrev FG (ta:TA):TI:=fun σ H R=>ta σ H fun vs H1=>∃ (i j c:Int) (n:Nat),vs=[.int i,.int j,.int c]∧c≠0∧(c < 1073741824∧-1073741824 < c)∧Builtin.Range.small i j c=true∧Builtin.Range.rangeSize i j c=(n:Int)∧R (Itg n fun k=>.int (i + (k:Int) * c)) H1
theorem yw {a b d:Expr}{ta:TA}{p pos:Pos}(hg:Gl X "range")(hm:X.mg "range" = none)(ha:PA X [a,b,d] ta)
  (hs:starEach [a,b,d] X.env=(false,eval a X.env)::starEach [b,d] X.env:=by rfl) (hpl:(backTo pos (starEach [b,d] X.env)).any (·.1)=false:=by rfl) :
  PI X tg (.Call (.Name "range" p) [a,b,d] [] pos) (FG ta):=by
 intro pins s σ H R I h;refine Call_ (ke I hg hm boot_range (PyProof.Rows.callWith_type1 (thn (ha pos pins s σ H _ I h) fun us s1 ⟨vs,H1,I1,r1,q1⟩ =>?_) hs hpl));obtain⟨i,j,c,n,e,hc,hc2,hsm,hsz,q⟩:=q1;subst e;cases r1 with
 | cons r rr =>
  cases rr with
  | cons r' rr =>
   cases rr with
   | cons r'' rr =>
    cases rr;obtain⟨t,rfl⟩:=r;obtain⟨t',rfl⟩:=r';obtain⟨t'',rfl⟩:=r'';refine call_range_3 hc ?_ (.inl (PyProof.noPylong_small (by lia)));refine wpAny_pyIter_range (IsRange.new ..) hsm ?_;have I2:Inv X pins σ H1 { s1 with heap:=s1.heap.push { cls:=.type "range",data:=.fields #[.int i t,.int j t',.int c t''] } }:=I1.kept (t':=s1.toks) fun b o e=>Gx _ e
    refine⟨(s1.heap.push { cls:=.type "range",data:=.fields #[.int i t,.int j t',.int c t''] }).objs.size,[(s1.heap.push { cls:=.type "range",data:=.fields #[.int i t,.int j t',.int c t''] }).objs.size],_,_,H1,rfl,
     I2.kept (t':=s1.toks) fun b o e=>Gx _ e,
     lA (g:=fun k=>.int (i + (k:Int) * c)) (fun A hA=>Walks.range hA _ i c n) (fun k v h=>let ⟨t,e⟩:=h;⟨t,e⟩) (fun i h h' st k=>k _ st) (fun A i s Q E st hQ=>wpAny_pyIter_rangeiter st hQ)
      (fun i h st=>⟨_,_,_,st,rfl,rfl,by decide⟩),⟨GF _,?_⟩,fun b hb =>?_,q⟩
    ·have e1:i + ((0:Nat):Int) * c=i:=by simp
     have e2:(n:Int) - ((0:Nat):Int)=Builtin.Range.rangeSize i j c:=by rw[hsz];simp
     show IsRangeIter _ _ (i + ((0:Nat):Int) * c) ((n:Int) - ((0:Nat):Int)) c;rw[e1,e2];exact GQ _ rfl
    ·have e:b=(s1.heap.push { cls:=.type "range",data:=.fields #[.int i t,.int j t',.int c t''] }).objs.size:=by simpa using hb
     subst e;exact I2.fpOk (GB _) (I2.hok.fresh (GB _))
end
section
theorem dA:fQ X (.type "int") (fun xs H Q=>∃ z n,xs=[.str z]∧PySem.intText? z=some n∧z.length≤640∧Q (.int n) H):=by
 intro pins s σ H xs us Q I r h;obtain⟨z,n,rfl,hn,hl,q⟩:=h;obtain⟨u,rfl,t,rfl⟩:=jM r;exact PySem.W.KIN.call_text hn hl ⟨.int n,H,I.tok _,⟨_,rfl⟩,q⟩
def F_:V→Option Int→Option Int→Hp→VK→Prop:=fun x lo hi H Q=>∃ z,x=.str z∧z.length≤sizeLine∧Q (.str (Txt.slice z lo hi)) H
theorem jV:SlR X F_:=by
 intro pins s σ H x v vl vu lo hi sl Q I rx hs pl pu h;obtain⟨z,rfl,hz,q⟩:=h;obtain⟨t,rfl⟩:=rx;refine⟨"str",_,F.slot_str_getitem.lookup,typeIs_str _ _ _,?_⟩
 obtain⟨o,e1,e2,e3⟩:=hs;have fin:∀ (z':Str) (t':Tok) (k:Nat),z'=Txt.slice z lo hi→EP X pins σ Q (.str z' t') { s with toks:=k }:=fun z' t' k e=>by
  subst e;exact⟨.str _,H,I.tok _,⟨_,rfl⟩,q⟩
 cases pl with
 | none =>
  cases pu with
  | none=>exact wpAny_getItem_str_slice (l:=none) (u:=none) (st:=none) ⟨o,e1,e2,e3⟩ rfl (post_val_or_str ⟨G8 (Txt.slice_le z _ _) hz,fun t' k=>fin _ t' k rfl⟩)
  | int j uj=>exact wpAny_getItem_str_slice (l:=none) (u:=some (j,uj)) (st:=none) ⟨o,e1,e2,e3⟩ rfl (post_val_or_str ⟨G8 (Txt.slice_le z _ _) hz,fun t' k=>fin _ t' k rfl⟩)
 | int i ui =>
  cases pu with
  | none=>exact wpAny_getItem_str_slice (l:=some (i,ui)) (u:=none) (st:=none) ⟨o,e1,e2,e3⟩ rfl (post_val_or_str ⟨G8 (Txt.slice_le z _ _) hz,fun t' k=>fin _ t' k rfl⟩)
  | int j uj=>exact wpAny_getItem_str_slice (l:=some (i,ui)) (u:=some (j,uj)) (st:=none) ⟨o,e1,e2,e3⟩ rfl (post_val_or_str ⟨G8 (Txt.slice_le z _ _) hz,fun t' k=>fin _ t' k rfl⟩)
def Fl (K:PySem.W.Frag)(T:String):List V→Hp→VK→Prop:=fun xs H Q=>∃ x t b,xs=[x,.ty T]∧gF K H x t∧PySem.W.kitOne K t (.type T)=some b∧Q (.bl b) H
theorem bq (T:String):fQ X (.builtin "isinstance") (Fl X.K T):=by
 intro pins s σ H xs us Q I r h;obtain⟨x,t,b,rfl,ty,hk,q⟩:=h;obtain⟨u,c,rfl,rx,rc⟩:=ms r;cases (show c=.type T from rc);exact yV I rx ty hk fun tk=>⟨.bl b,H,I.tok _,rfl,q⟩
end
section
variable {w:World}{R:Result→Shared→Prop}
def zD (ifs:List Expr)(env:Env):Sem Bool:=forIn ifs true fun c r=>if r=true then do
  let ok ← isTrue c env (eval c env)
  pure (ForInStep.yield ok)
 else pure (ForInStep.yield r)
theorem uN {elt target iter:Expr}{ifs:List Expr}{scope:Scope}{pos:Pos}{it acc:Value}{env:Env}(I:Nat→Shared→Prop)
  (turn:∀ n s,I n s→wpAny (model prog w) A (pyNext it) (fun r s1=>match r with
   | none=>R (.ok .next) s1
   | some v=>wpAny (model prog w) A (letOwnedTupleGo target it v) (fun _ s2=>wpAny (model prog w) A (assign target env v) (fun _ s3 =>
     wpAny (model prog w) A (zD ifs env) (fun ok s4=>if ok=true then
     wpAny (model prog w) A (eval elt env) (fun x s4 =>
      wpAny (model prog w) A (call (.builtin "list.append") [acc,x]) (fun _ s5=>∃ m,m < n∧I m s5) (notedBy (model prog w) A env fun e s'=>R (.error e) s') s4) (notedBy (model prog w) A env fun e s'=>R (.error e) s') s4
     else ∃ m,m < n∧I m s4) (notedBy (model prog w) A env fun e s'=>R (.error e) s') s3)
     (notedBy (model prog w) A env fun e s'=>R (.error e) s') s2) (notedBy (model prog w) A env fun e s'=>R (.error e) s') s1) (notedBy (model prog w) A env fun e s'=>R (.error e) s') s)
  (n:Nat) (h:I n s) :
  codeAny (model prog w) A (.compLoop (.ListComp elt [⟨target,iter,ifs,0⟩] scope pos) 0 it acc env) R s:=by
 refine codeAny_loop rfl I (fun n s hI =>?_) n h;show wpAny _ A ((compTurn (.ListComp elt [⟨target,iter,ifs,0⟩] scope pos) 0 it acc env).onRaise (fun x=>do noteFrame x env;theTreesLotGoes x)) _ _ s;refine wpAny_noted ?_;rw[compTurn_list];refine Gw (wpAny_standAt (Gw (Ho (turn n s hI) (fun r s1 h1 =>?_) fun _ _ h'=>h')));cases r with
 | none=>exact GN h1
 | some v =>
  refine Gw (Ho h1 (fun _ s2 h2=>Gw (Ho h2 (fun _ s3 h3 =>?_) fun _ _ h'=>h')) fun _ _ h'=>h');refine Gw (Ho h3 (fun ok s4 h4 =>?_) fun _ _ h'=>h');cases ok with
  | false=>exact GN ⟨rfl,h4⟩
  | true =>
   exact Gw (Gw (Ho h4 (fun x s4 h4=>Gw (Ho h4 (fun _ s5 h5=>GN (GN ⟨rfl,h5⟩)) fun _ _ h'=>h')) fun _ _ h'=>h'))
end
section
variable {elt tg iter:Expr}{scope:Scope}{N':List Str}{wi:TI}{g:TG}{te:TE}
end
section
theorem mI:∀ {bs:List Bool} {us:List Value},aN (bs.map V.bl) us→LSm.BoolsAre us bs
 | [],us,r=>by rw[Jz]at r;cases r;exact .nil
 | b::bs,us,r=>by
  rw[GX]at r;cases r with
  | cons r1 r2 =>
   cases (show _=Value.bool b from r1);exact .cons b (mI r2)
theorem BH (hc:X.calm=true):fQ X (.builtin "all") (fun xs H Q=>∃ (a:Addr) (bs:List Bool),xs=[.ref a]∧SqL X.K H a (bs.map V.bl)∧Q (.bl (bs.all id)) H):=by
 intro pins s σ H xs us Q I r h;obtain⟨a,bs,rfl,hS,q⟩:=h;obtain⟨u,rfl,ru⟩:=jM r;cases ru;obtain⟨its,rv,pl,_⟩:=I.list hS;have hb:=mI rv;have hlt:a < s.heap.objs.size:=by obtain⟨_,e,_⟩:=pl.isList;exact GJ e
 refine call_all_walk (wpAny_pyIter_list pl.isList ?_);refine⟨s.heap.objs.size,[s.heap.objs.size,a],[s.heap.objs.size],its.toArray.size,_,_,fun i=>(bs[i]?).getD true,rfl,Walks.list (A:=X.A.in1) (I.ok.hd hc) _ a (G3 hlt) its.toArray,
  ⟨⟨_,GQ _ rfl,rfl,rfl⟩,pl.isList.push _⟩,fun i v s' Q' E' hP hQ =>?_,fun h' tk hk =>?_⟩
 ·obtain⟨b,e,rfl⟩:=hb.get i v (by simpa using hP);simp only[e,Option.getD_some]at hQ;exact wpAny_truthy_bool hQ
 ·have e:((List.range its.toArray.size).all fun i=>(bs[i]?).getD true)=bs.all id:=by
   rw[GR,hb.length];exact LSm.range_all bs
  rw[e];exact⟨.bl _,H,I.kept (LSm.kept_iter hk),rfl,q⟩
end
def br (CX:CXT):Prop:=∀ outer H s e s',CX outer H s E0 e s'→False
theorem Fo {CX:CXT}{X:Cx}(q:br CX):pV CX X E0:=fun _ _ _ _ _ _ _ h=>(q _ _ _ _ _ h).elim
structure Fok (P:Program)(w:World)(K:PySem.W.Frag)(mg:Str→Option Value)(base:Heap)(CX:CXT)(j:Nat)(x:Str)(ps:List Str)(dvs:List V)(sp:Sp):Prop where
 ex:∃ f fd ds,bd P w K mg base CX j f fd ps sp∧cL K fd ps ds∧aN dvs ds∧PySem.W.keepIn K (.ref f)=true∧mg x=some (.ref f)
section
variable {CX:CXT}{j k:Nat}{ps:List Str}{sp:Sp}{dvs:List V}{E:XK}{x:Str}{p:Pos}{e:Expr}{es:List Expr}{t:TA}
theorem bI (F:Fok X.prog X.w X.K X.mg X.base CX j x ps dvs sp)(hr:cz k X.A)(hx:pV CX X E)(ha:PA X (e::es) t)(hj:j≤k:=by decide)(hg:Gl X x:=by rfl)
  (hdb:(x == ("__debug__" : Str))=false:=by decide) (he:starEach (e::es) X.env=(false,eval e X.env)::starEach es X.env:=by rfl) (hpl:(backTo pos (starEach es X.env)).any (·.1)=false:=by rfl) :
  PE X (.Call (.Name x p) (e::es) [] pos) (wF sp dvs E t):=by
 obtain⟨f,fd,ds,G,b,v,kp,m⟩:=F.ex;exact CB G (hr.mono hj) hg m kp b v hx ha hdb he hpl
theorem ai (F:Fok X.prog X.w X.K X.mg X.base CX j x ps dvs sp)(q:br CX)(hr:cz k X.A)(ha:PA X (e::es) t)(hj:j≤k:=by decide)(hg:Gl X x:=by rfl)
  (hdb:(x == ("__debug__" : Str))=false:=by decide) (he:starEach (e::es) X.env=(false,eval e X.env)::starEach es X.env:=by rfl) (hpl:(backTo pos (starEach es X.env)).any (·.1)=false:=by rfl) :
  PE X (.Call (.Name x p) (e::es) [] pos) (wF sp dvs E0 t):=bI F hr (Fo q) ha hj hg hdb he hpl
end
section
variable {P:Program}{w:World}{mg:Str→Option Value}{base:Heap}
structure aT (K:PySem.W.Frag)(x qual:Str)(st:Stmt)(f:Addr)(fd:FuncData)(dV:Value):Prop where
 ex:∃ (oc:Value) (od:Option Addr) (kV doc pm:Value) (an:Option Addr) (cdv ct:Value) (osl:Array (Option Value)),
  fd=PySem.W.fnOf x qual (bH st) (aY st) (aj st) dV kV doc pm an cdv ct∧K.lookup f=some ⟨oc,od,.func fd,osl⟩∧PySem.W.codeIn K cdv qual=true
 kp:PySem.W.keepIn K (.ref f)=true
theorem nM {x qual:Str}{st:Stmt}{f:Addr}{oc:Value}{od an:Option Addr}{osl:Array (Option Value)}{dV kV doc pm cdv ct:Value}(l:K.lookup f=some ⟨oc,od,.func (PySem.W.fnOf x qual (bH st) (aY st) (aj st) dV kV doc pm an cdv ct),osl⟩)
  (c:PySem.W.codeIn K cdv qual=true) (k:PySem.W.keepIn K (.ref f)=true):aT K x qual st f (PySem.W.fnOf x qual (bH st) (aY st) (aj st) dV kV doc pm an cdv ct) dV:=⟨⟨oc,od,kV,doc,pm,an,cdv,ct,osl,rfl,l,c⟩,k⟩
theorem aT.ok {x qual:Str}{st:Stmt}{f:Addr}{fd:FuncData}{dV:Value}{N ps:List Str}{k:Nat}{sp:Sp}{CX:CXT}(F:aT K x qual st f fd dV)(S:az N ps (aj st))(len:∀ vs H Q E,sp vs H Q E→vs.length=ps.length)
  (hbody:∀ (cdv:Value) (A:Around) (outer:List Env) (s:Shared) (H:Hp) (vs:List V) (Q:VK) (E:XK),cz k (A.deeper (envOfC qual (aj st) s.heap.objs.size f cdv))→sp vs H Q E →
   ∃ t,PSs (fS CX P w K mg base N qual (aj st) f cdv A outer s H E).nox (aY st) t∧t { nx:=fun _ H'=>Q .non H',rt:=Q } (start N vs) H):bd P w K mg base CX (k + 1) f fd ps sp:=by
 obtain⟨oc,od,kV,doc,pm,an,cdv,ct,osl,rfl,lk,hcd⟩:=F.ex;refine Bl lk hcd S len fun A outer s H vs Q E hr hsp =>?_;obtain⟨t,h,q⟩:=hbody cdv A outer s H vs Q E hr hsp;exact⟨t,h.nox,q⟩
theorem aT.okX {x qual:Str}{st:Stmt}{f:Addr}{fd:FuncData}{dV:Value}{N ps:List Str}{k:Nat}{sp:Sp}{CX:CXT}(F:aT K x qual st f fd dV)(S:az N ps (aj st))(len:∀ vs H Q E,sp vs H Q E→vs.length=ps.length)
  (hbody:∀ (cdv:Value) (A:Around) (outer:List Env) (s:Shared) (H:Hp) (vs:List V) (Q:VK) (E:XK),cz k (A.deeper (envOfC qual (aj st) s.heap.objs.size f cdv))→sp vs H Q E →
   ∃ t,PSs (fS CX P w K mg base N qual (aj st) f cdv A outer s H E) (aY st) t∧t { nx:=fun _ H'=>Q .non H',rt:=Q } (start N vs) H):bd P w K mg base CX (k + 1) f fd ps sp:=by
 obtain⟨oc,od,kV,doc,pm,an,cdv,ct,osl,rfl,lk,hcd⟩:=F.ex;exact Bl lk hcd S len fun A outer s H vs Q E hr hsp=>hbody cdv A outer s H vs Q E hr hsp
theorem aT.binds {x qual:Str}{st:Stmt}{f:Addr}{fd:FuncData}{dV:Value}{ps:List Str}(F:aT K x qual st f fd dV)
  (h:∀ (kV doc pm:Value) (an:Option Addr) (cdv ct:Value) (us:List Value),us.length=ps.length→bindArgs (PySem.W.fnOf x qual (bH st) (aY st) (aj st) dV kV doc pm an cdv ct) ⟨us,[]⟩=pure (ps.zip us)):cL K fd ps []:=by
 obtain⟨oc,od,kV,doc,pm,an,cdv,ct,osl,rfl,lk,hcd⟩:=F.ex;exact .all (h kV doc pm an cdv ct)
theorem aT.bindsD {x qual:Str}{st:Stmt}{f t:Addr}{fd:FuncData}{ps:List Str}{o:Obj}{items:Array Value}{n:Nat}{ds:List Value}(F:aT K x qual st f fd (.ref t))(ho:K.lookup t=some o)(hs:o.data=.seq items n)
  (h:∀ (kV doc pm:Value) (an:Option Addr) (cdv ct:Value) (us:List Value),(us++ds).length=ps.length →
   ∃ k,bindArgs (PySem.W.fnOf x qual (bH st) (aY st) (aj st) (.ref t) kV doc pm an cdv ct) ⟨us,[]⟩=seqItems? (.ref t) >>= k∧k (some items)=pure (ps.zip (us++ds))):cL K fd ps ds:=by
 obtain⟨oc,od,kV,doc,pm,an,cdv,ct,osl,rfl,lk,hcd⟩:=F.ex;intro s us X hl;obtain⟨k,h1,h2⟩:=h kV doc pm an cdv ct us hl;exact BindsTo.of_defaults rfl (X _ _ ho) hs h1 h2
theorem fok {CX:CXT}{j:Nat}{x qual:Str}{st:Stmt}{f:Addr}{fd:FuncData}{dV:Value}{ps:List Str}{sp:Sp}(F:aT K x qual st f fd dV)(G:bd P w K mg base CX j f fd ps sp)(b:cL K fd ps [])(m:mg x=some (.ref f)):
  Fok P w K mg base CX j x ps [] sp:=⟨f,fd,[],G,b,.nil,F.kp,m⟩
theorem Gp {CX:CXT}{j:Nat}{x qual:Str}{st:Stmt}{f:Addr}{fd:FuncData}{dV:Value}{ps:List Str}{sp:Sp}{ds:List Value}{dvs:List V}(F:aT K x qual st f fd dV)(G:bd P w K mg base CX j f fd ps sp)(b:cL K fd ps ds)(v:aN dvs ds)(m:mg x=some (.ref f)):
  Fok P w K mg base CX j x ps dvs sp:=⟨f,fd,ds,G,b,v,F.kp,m⟩
end
section
def DE (i j:Int):Prop:=0 < j∧j < 2 ^ 1000
def vI:R2:=fun x y H Q=>of2 (fun i j=>DE i j∧Q (.int (i / j)) H) x y
theorem a_:OpR X (binaryOp .FloorDiv) vI:=opI fun i j _ _ _ _ _ hc q=>by
 have h1:(0:Int) < j:=hc.1;have h2:j < 2 ^ 1000:=hc.2;refine floordiv_int (by lia) (by rw[Int.fdiv_eq_ediv_of_nonneg i (by lia)];exact q) (.inl (PyProof.noPylong_of_log2 ?_));have e:j.natAbs.log2 < 1000:=by
  refine (Nat.log2_lt (by lia)).mpr ?_;have e2:((j.natAbs:Nat):Int)=j:=by lia
  have e3:((2 ^ 1000:Nat):Int)=(2:Int) ^ 1000:=by rw[Int.natCast_pow];rfl
  lia
 lia
theorem cK {i j:Int}(h0:0 < j)(h1:j < 1000000000000000000000000):DE i j:=⟨h0,Int.lt_trans h1 (by decide +kernel)⟩
end
theorem gE:bootBuiltins "int" = some (.type "int"):=by decide +kernel
theorem ww:bootBuiltins "str" = some (.type "str"):=by decide +kernel
theorem xR:bootBuiltins "bool" = some (.type "bool"):=by decide +kernel
theorem sK:bootBuiltins "list" = some (.type "list"):=by decide +kernel
theorem eA:bootBuiltins "tuple" = some (.type "tuple"):=by decide +kernel
theorem sL:bootBuiltins "dict" = some (.type "dict"):=by decide +kernel
theorem au:bootBuiltins "isinstance" = some (.builtin "isinstance"):=by decide +kernel
theorem wy:bootBuiltins "max" = some (.builtin "max"):=by decide +kernel
theorem pR:bootBuiltins "min" = some (.builtin "min"):=by decide +kernel
theorem EQ:bootBuiltins "all" = some (.builtin "all"):=by decide +kernel
theorem dM:bootBuiltins "len" = some (.builtin "len"):=by decide +kernel
section
theorem Bb:PySem.W.kitOne K (.type "int") (.type "int")=some true:=by kernel_rfl
theorem Bc:PySem.W.kitOne K (.type "int") (.type "bool")=some false:=by kernel_rfl
theorem El:PySem.W.kitOne K (.type "str") (.type "str")=some true:=by kernel_rfl
theorem AZ:PySem.W.kitOne K (.type "str") (.type "int")=some false:=by kernel_rfl
theorem Eo:PySem.W.kitOne K (.type "bool") (.type "int")=some true:=by kernel_rfl
theorem Ep:PySem.W.kitOne K (.type "bool") (.type "bool")=some true:=by kernel_rfl
theorem kg:PySem.W.kitOne K (.type "tuple") (.type "tuple")=some true:=by kernel_rfl
theorem Em:PySem.W.kitOne K (.type "NoneType") (.type "int")=some false:=by kernel_rfl
theorem En:PySem.W.kitOne K (.type "list") (.type "int")=some false:=by kernel_rfl
theorem Ek:PySem.W.kitOne K (.type "tuple") (.type "int")=some false:=by kernel_rfl
end
section
variable {w:World}{E:Value→Shared→Prop}
end
section
variable {w:World}{E:Value→Shared→Prop}
end
section
variable {pins:List (Addr × Obj)}{σ:St}{h':Heap}
end
section
end
def KTu (K:PySem.W.Frag)(a:Addr)(xs:List V):Prop:=∃ (o:Obj) (its:Array Value) (n:Nat),K.lookup a=some o∧o.cls=.type "tuple" ∧ o.data=.seq its n∧its.size≤sizeLine∧aN xs its.toList
theorem KTu.sq {K:PySem.W.Frag}{a:Addr}{xs:List V}{H:Hp}(h:KTu K a xs):SqT K H a xs:=.inr h
def KD (P:Program)(w:World)(K:PySem.W.Frag)(a:Addr)(kvs:List (Key × V)):Prop:=∃ (o:Obj) (vs:List (Key × Value)),K.lookup a=some o∧KV kvs vs∧o.IsDictOf (aI P w) vs
abbrev E9 (P:Program)(w:World)(K:PySem.W.Frag)(td ty:TE):TE:=fun σ H Q=>td σ H fun x H1=>ty σ H1 fun y H2=>∃ a kvs k v,x=.ref a∧y=kV k∧KD P w K a kvs∧bD kvs k=some v∧Q v H2
theorem xf {X:Cx}{o i:Expr}{pos:Pos}{td ty:TE}(ho:PE X o td)(hi:PE X i ty)(hs:Dk i):PE X (.Subscript o i pos) (E9 X.prog X.w X.K td ty):=by
 intro pins s σ H Q I h;refine rf PySem.F.slot_dict_getitem.lookup hs (thn (ho pins s σ H _ I h) fun u s1 ⟨x,H1,I1,rx,q1⟩=>thn (hi pins s1 σ H1 _ I1 q1) fun iv s2 ⟨y,H2,I2,ry,a,kvs,k,v,ex,ey,kd,l,q2⟩ =>?_);subst ex ey;obtain rfl:u=Value.ref a:=rx;obtain⟨ob,vs,hk,rel,dd⟩:=kd;have dd':s2.heap.DictOf (aI X.prog X.w) a vs:=Heap.dictOf_iff.mpr ⟨ob,I2.kIn a ob hk,dd⟩;obtain⟨w',hw,rw'⟩:=nj.some_of (v:=v) (o:=valueAt vs k) (by rw[← l];exact rel.val k);exact⟨dd'.typeIs,wpAny_getItem_of (fO ry) dd'.mapOf hw ⟨v,H2,I2.tok _,rw',q2⟩⟩
def Tr3 (h base:Heap)(e:Addr)(cls a0 fl:Value):Prop :=
 ∃ oe vs T oT ts,h.get? e=some oe∧(oe.cls=cls∧vs[0]? = some a0∧vs[2]? = some .none)∧oe.data=.fields vs∧vs[1]? = some (.ref T)∧base.get? T=none∧T≠e∧h.get? T=some oT∧oT.data=.fields ts∧ts[3]? = some fl
def On3 (base:Heap)(l:List Env)(e:Addr)(cls a0 fl:Value)(h:Heap):Prop:=base.StaysIn h∧base.get? e=none∧h.FunFrames base l∧Tr3 h base e cls a0 fl
section
variable {M:Model}{E:Value→Shared→Prop}{base:Heap}{env:Env}{outer l:List Env}{L e:Addr}{cls a0 fl:Value}{Q:Unit→Shared→Prop}
theorem Ch {b:Addr}{o:Obj}{vs:Array Value}(fr:s.heap.FunFrames base l)(ho:s.heap.get? b=some o)(hd:o.data=.fields vs):b∉l.filterMap (·.frame):=fun m=>by
 obtain⟨_,o',ho',nf⟩:=fr.mem m;cases ho.symm.trans ho';exact nf vs hd
theorem On3.poke {h h':Heap}{T:Addr}{oT:Obj}{ts:Array Value}(st:base.StaysIn h)(fr:h.FunFrames base l)(hT:h.get? T=some oT)(dT:oT.data=.fields ts)(nT:base.get? T=none)(oth:∀ b,b≠T→h'.get? b=h.get? b):
  base.StaysIn h'∧h'.FunFrames base l∧∀ b o,h.get? b=some o→(∀ vs,o.data≠.fields vs)→h'.get? b=some o:=by
 have k:∀ b o,h.get? b=some o→(∀ vs,o.data≠.fields vs)→h'.get? b=some o:=fun b o hb nf=>(oth b fun q=>by subst q;cases hb.symm.trans hT;exact nf ts dT).trans hb;exact⟨fun b o hb=>(oth b fun q=>by subst q;rw[nT]at hb;cases hb).trans (st b o hb),fr.of_keeps fun b o hb nf=>⟨o,k b o hb nf,rfl⟩,k⟩
theorem CK (f:On3 base l e cls a0 fl s.heap)(q:∀ h',On3 base l e cls a0 .none h'→s.heap.UpToSlots h'→Q () { s with heap:=h' }):wpAny M A (setFlight (.ref e) none) Q E s:=by
 obtain⟨st,ne,fr,oe,vs,T,oT,ts,he,hc,hd,h1,nT,Te,hT,dT,h3⟩:=f;have lt:=(HW.mp h3).1;unfold setFlight;refine Gw (wpAny_field he hd h1 ?_);rw[if_pos (by simp)];refine wpAny_setField hT dT lt ?_;obtain⟨a1,a2,a3⟩:=On3.poke st fr hT dT nT (h':=s.heap.update T (Obj.mapFields (·.setIfInBounds 3 ((none:Option Addr).elim Value.none fun f=>rawInt f)))) fun b hb=>G4 _ _ (Ne.symm hb);exact q _ ⟨a1,ne,a2,oe,vs,T,_,_,(G4 _ _ Te).trans he,hc,hd,h1,nT,Te,IH _ hT (Obj.isFreed_of_fields (Obj.data_mapFields dT _)),Obj.data_mapFields dT _,by simp[lt]⟩ fun b o hb nf=>⟨o.slots,a3 b o hb nf⟩
theorem Bs {oe:Obj}{vs:Array Value}{head:Value}{had:Bool}(hfr:A.frames=some (env::outer))(hf:env.frame=some L)(st:base.StaysIn s.heap)(ne:base.get? e=none)(fr:s.heap.FunFrames base (env::outer))
  (he:s.heap.get? e=some oe) (hd:oe.data=.fields vs) (lt:1 < vs.size) (hc:oe.cls=cls∧vs[0]? = some a0∧vs[2]? = some .none) (q:∀ h',On3 base (env::outer) e cls a0 (rawInt L) h'→s.heap.UpToSlots h'→Q () { s with heap:=h' }) :
  wpAny M A (do let a ← frameOf env;let pl ← entryPlaceOf L had;let b ← EntryCells.newEntry head a .none (rawInt L) .none pl;setField (.ref e) 1 b) Q E s:=by
 have out:=Ch fr he hd;refine Gw (wpAny_frameOf_fun hfr fr hf fun g sl=>Gw (wpAny_entryPlaceOf fun pl hp =>?_));unfold EntryCells.newEntry newFields;refine Gw (wpAny_newObj_type ?_ (hp.sizeOk5 _ _ _ _ _));have g1:g.get? e=some oe:=(sl.2.1 e out).trans he;have g2:base.StaysIn g:=fun b o hb=>(sl.2.1 b fun m=>by rw[(fr.mem m).1]at hb;cases hb).trans (st b o hb);obtain⟨N,eN⟩:∃ N:Obj,N={ cls:=.type "traceback",dict:=none,data:=.fields ([head,.ref L,.none,rawInt L,.none]++(if pl.isEmpty then List.replicate 6 Value.none else pl)).toArray }:=⟨_,rfl⟩
 have dN:N.data=.fields ([head,.ref L,.none,rawInt L,.none]++(if pl.isEmpty then List.replicate 6 Value.none else pl)).toArray:=by rw[eN]
 have gN:(g.push N).get? g.objs.size=some N:=GQ g (by rw[eN];rfl);have g3:(g.push N).get? e=some oe:=Gx N g1;have Te:g.objs.size≠e:=Ij (GJ g1);rw[← eN];refine wpAny_setField g3 hd lt (q _ ?_ ?_)
 all_goals
  have oth:∀ b,b≠e→((g.push N).update e (Obj.mapFields (·.setIfInBounds 1 (Value.ref g.objs.size)))).get? b=(g.push N).get? b:=fun b hb=>G4 _ _ (Ne.symm hb);have hk:∀ b o,s.heap.get? b=some o→(∀ vs,o.data≠.fields vs)→∃ sl',((g.push N).update e (Obj.mapFields (·.setIfInBounds 1 (Value.ref g.objs.size)))).get? b=some { o with slots:=sl' }:=fun b o hb nf=>by
   obtain⟨sl',e1⟩:=sl.2.2 b o hb;exact⟨sl',(oth b fun z=>by subst z;cases hb.symm.trans he;exact nf vs hd).trans (Gx N e1)⟩
 ·have d3:=Obj.data_mapFields hd (·.setIfInBounds 1 (Value.ref g.objs.size));refine⟨fun b o hb=>(oth b fun z=>by subst z;rw[ne]at hb;cases hb).trans (Gx N (g2 b o hb)),ne,fr.of_keeps fun b o hb nf =>?_,_,_,g.objs.size,N,_,IH _ g3 (Obj.isFreed_of_fields d3),⟨?_,?_,?_⟩,d3,by simp[lt],g2.fresh,Te,(oth _ Te).trans gN,dN,by rfl⟩
  ·obtain⟨sl',e1⟩:=hk b o hb nf;exact⟨_,e1,rfl⟩
  ·exact (Obj.cls_mapFields _ _).trans hc.1
  ·rw[I_ (by decide)];exact hc.2.1
  ·rw[I_ (by decide)];exact hc.2.2
 ·exact hk
theorem Du (hfr:A.frames=some (env::outer))(hf:env.frame=some L)(f:On3 base (env::outer) e cls a0 .none s.heap)(q:∀ h',On3 base (env::outer) e cls a0 (rawInt L) h'→s.heap.UpToSlots h'→Q () { s with heap:=h' }):
  wpAny M A (noteFrame (.ref e) env) Q E s:=by
 obtain⟨st,ne,fr,oe,vs,T,oT,ts,he,hc,hd,h1,nT,Te,hT,dT,h3⟩:=f;unfold noteFrame;simp only[hf];refine Gw (wpAny_field he hd h1 ?_);rw[if_pos (by simp)];refine Gw (wpAny_field hT dT h3 ?_);rw[if_neg (by simp[rawInt])];refine Gw (wpAny_setField hT dT (HW.mp h3).1 ?_);obtain⟨a1,a2,a3⟩:=On3.poke st fr hT dT nT (h':=s.heap.update T (Obj.mapFields (·.setIfInBounds 3 Value.none))) fun b hb=>G4 _ _ (Ne.symm hb);exact Bs hfr hf a1 ne a2 ((G4 _ _ Te).trans he) hd (HW.mp h1).1 hc fun h' o u=>q h' o fun b o' hb nf=>u b o' (a3 b o' hb nf) nf
theorem Eh (hfr:A.frames=some (env::outer))(hf:env.frame=some L)(f:On3 base (env::outer) e cls a0 .none s.heap)(q:∀ h',On3 base outer e cls a0 .none h'→s.heap.UpToSlots h'→Q () { s with heap:=h' }):
  wpAny M A (leaving env (.ref e)) Q E s:=by
 unfold leaving;refine Gw (Du hfr hf f fun h1 o1 u1=>CK o1 fun h2 o2 u2 =>?_);obtain⟨b1,b2,⟨_,_,b3⟩,b4⟩:=o2;exact q h2 ⟨b1,b2,b3,b4⟩ (u1.trans u2)
theorem Fv {h:Heap}{args:List Value}(hfr:A.frames=some (env::outer))(hf:env.frame=some L)(st:base.StaysIn h)(fr:h.FunFrames base (env::outer))(hx:Heap.MadeExcOf h s.heap e cls args)
  (q:∀ h' a0,On3 base outer e cls a0 .none h'→s.heap.UpToSlots h'→Q () { s with heap:=h' }):wpAny M A (leaving env (.ref e)) Q E s:=by
 obtain⟨t,he,tn,ht⟩:=hx.there;have ne:base.get? e=none:=by
  cases z:base.get? e with
  | none=>rfl
  | some o=>have:=st e o z;rw[hx.new]at this;cases this
 unfold leaving noteFrame;simp only[hf];refine Gw (Gw (wpAny_field he rfl (x:=Value.none) rfl ?_));rw[if_neg (by decide)];refine Bs hfr hf (fun b o hb=>hx.keeps b o (st b o hb)) ne (fr.of_keeps fun b o hb _=>⟨o,hx.keeps b o hb,rfl⟩) he rfl (by simp) ⟨rfl,rfl,rfl⟩ fun h1 o1 u1=>CK o1 fun h2 o2 u2 =>?_;obtain⟨b1,b2,⟨_,_,b3⟩,b4⟩:=o2;exact q h2 _ ⟨b1,b2,b3,b4⟩ (u1.trans u2)
end
theorem bo.there {P:Program}{w:World}{H:Hp}{h:Heap}{a:Addr}{o:HO}(x:bo P w H h a o):∃ u,h.get? a=some u:=by
 cases o with
 | lst xs=>obtain⟨_,_,_,_,e⟩:=x;exact⟨_,e⟩
 | tup xs=>obtain⟨_,_,_,o,e,_⟩:=x;exact⟨_,e⟩
 | dK kvs=>obtain⟨_,_,_,_,o,_,_,e,_⟩:=x;exact⟨_,e⟩
 | dT kvs=>obtain⟨_,_,_,_,o,_,_,e,_⟩:=x;exact⟨_,e⟩
 | set S n=>obtain⟨o,_,_,_,e,_⟩:=x;exact⟨_,e⟩
 | ins C dx fs=>obtain⟨_,_,_,e,_⟩:=x;exact⟨_,e⟩
 | own y=>exact x
 | xd fs=>obtain⟨_,⟨_,_,_,e,_⟩,_⟩:=x;exact⟨_,e⟩
 | rng lo hi=>obtain⟨_,_,_,e⟩:=x;exact⟨_,e⟩
 | frz ob u=>obtain⟨e,_⟩:=x;exact⟨_,e⟩
 | tbl ps=>exact⟨_,(show h.get? a=some _ from x)⟩
 | met f y=>exact⟨_,(show h.get? a=some _ from x)⟩
 | ext φ=>obtain⟨_,e,_⟩:=x;exact e
theorem HOk.not {P:Program}{w:World}{H:Hp}{h:Heap}{a:Addr}(x:HOk P w H h)(e:h.get? a=none):H a=none:=by
 cases q:H a with
 | none=>rfl
 | some o =>
  obtain⟨u,z⟩:=(x a o q).there;rw[e]at z;cases z
structure Fly (h0:Heap)(H:Hp)(h:Heap)(e:Addr)(cls:Value):Prop where
 ex:∃ oe vs a0 T oT ts,h.get? e=some oe∧(oe.cls=cls∧vs[0]? = some a0∧vs[2]? = some .none)∧oe.data=.fields vs∧vs[1]? = some (.ref T)∧(h0.get? T=none∧H T=none)∧T≠e∧h.get? T=some oT∧oT.data=.fields ts∧ts[3]? = some .none
 new:h0.get? e=none
 un:H e=none
def CXe (P:Program)(w:World):CXT:=fun outer H s E ev s'=>∃ e cls H',ev=.ref e∧s'.os=s.os∧AllBare s'.gens∧Un (frs outer) [] H H' s.heap s'.heap∧HOk P w H' s'.heap∧Fly s.heap H' s'.heap e cls∧E cls none H'
theorem aU {P:Program}{w:World}:br (CXe P w):=fun _ _ _ _ _ ⟨_,_,_,_,_,_,_,_,_,h⟩=>h
theorem rE {h b b':Heap}:∀ {l:List Env},h.FunFrames b l→(∀ a∈frs l,b'.get? a=none)→h.FunFrames b' l
 | [],_,_=>trivial
 | env::r,⟨hk,⟨L,o,hf,hn,ho,hd⟩,hr⟩,k=>by
  have e:frs (env::r)=L::frs r:=by unfold frs;rw[IN,hf]
  rw[e]at k;exact⟨hk,⟨L,o,hf,k L GO,ho,hd⟩,rE hr fun a ha=>k a (GG _ ha)⟩
abbrev less (h:Heap)(l:List Addr):Heap:=PySem.W.hideAll h l
theorem j_ (h:Heap)(l:List Addr):(less h l).StaysIn h:=fun _ _ e=>PySem.W.of_hideAll l e
section
variable {P:Program}{w:World}{H':Hp}{h h' h'' bs:Heap}{l:List Env}{hid:List Addr}
theorem ra (u:Un (frs l) [] H H' h h')(ok:HOk P w H' h')(fr:h'.FunFrames bs l)(fre:∀ b∈frs l,H' b=none)(hh:∀ b∈hid,h.get? b=none∧H' b=none)
  (st:(less h' (hid++frs l)).StaysIn h'') (up:h'.UpToSlots h''):Un (frs l) [] H H' h h''∧HOk P w H' h'':=by
 have kp:∀ b o,h'.get? b=some o→b∉hid→b∉frs l→h''.get? b=some o:=fun b o e n1 n2=>st b o (PySem.W.hideAll_get _ e fun z=>(GS.mp z).elim n1 n2);have nh:∀ b o,h.get? b=some o→b∉hid:=fun b o e z=>by rw[(hh b z).1]at e;cases e
 have fs:∀ b o,h'.get? b=some o→b∈frs l→∃ sl,h''.get? b=some { o with slots:=sl }:=fun b o e hb=>by
  obtain⟨_,o',e',nf⟩:=fr.mem hb;rw[e]at e';cases e';exact up b o e nf
 refine⟨⟨fun b o e n hb hx=>kp b o (u.keep b o e n hb hx) (nh b o e) hb,fun b o e n hb hx =>?_,u.free,fun b o e hx =>?_,u.tups,u.frzs,u.tbls⟩,fun a o e =>?_⟩
 ·obtain⟨sl,e1⟩:=u.slot b o e n hb hx;obtain⟨sl',e2⟩:=fs b _ e1 hb;exact⟨sl',e2⟩
 ·obtain⟨o',e1⟩:=u.there b o e hx;by_cases hb:b∈frs l
  ·obtain⟨sl',e2⟩:=fs b _ e1 hb;exact⟨_,e2⟩
  ·exact⟨o',kp b o' e1 (nh b o e) hb⟩
 ·refine (ok a o e).stay (fun b v hb q =>?_) (fun _ q=>q) fun _ _ q=>q;have tr:∃ v,H' b=some v:=by
   rcases hb with z|z
   ·exact⟨o,z▸e⟩
   ·exact⟨_,z⟩
  obtain⟨v',tr⟩:=tr;refine kp b v q (fun z =>?_) fun z =>?_
  ·rw[(hh b z).2]at tr;cases tr
  ·rw[fre b z]at tr;cases tr
theorem qQ (u:Un (frs l) [] H H' h h')(ok:HOk P w H' h')(fr:h'.FunFrames bs l)(hh:∀ b∈hid,h.get? b=none∧H' b=none)(up:h'.UpToSlots h''){T:Addr}{oT:Obj}{ts:Array Value}
  (e:h''.get? T=some oT) (d:oT.data=.fields ts) (n:(less h' (hid++frs l)).get? T=none):h.get? T=none∧H' T=none:=by
 have nf:T∉frs l:=fun z=>by
  obtain⟨_,o',e',nf⟩:=fr.mem z;obtain⟨sl,q⟩:=up T o' e' nf;rw[e]at q;cases q;exact nf ts d
 by_cases hb:T∈hid
 ·exact hh T hb
 ·have z:h'.get? T=none:=by
   cases q:h'.get? T with
   | none=>rfl
   | some o =>
    have z:(less h' (hid++frs l)).get? T=some o:=PySem.W.hideAll_get _ q fun z=>(GS.mp z).elim hb nf;rw[n]at z;cases z
  refine⟨?_,ok.not z⟩;cases q:h.get? T with
  | none=>rfl
  | some o =>
   obtain⟨o',q'⟩:=u.there T o q (by simp);rw[z]at q';cases q'
end
theorem uV {fs:List Addr}{H H':Hp}{h h':Heap}(u:Un fs [] H H' h h'){a:Addr}(e:h'.get? a=none):h.get? a=none:=by
 cases q:h.get? a with
 | none=>rfl
 | some o =>
  obtain⟨o',q'⟩:=u.there a o q (by simp);rw[e]at q';cases q'
section
variable {P:Program}{w:World}{mg:Str→Option Value}{base:Heap}{N:List Str}{qual:Str}{scope:Scope}{f:Addr}{cd:Value}{outer:List Env}{s0:Shared}{H0:Hp}{E:XK}
theorem v9 {pins:List (Addr × Obj)}{σ:St}{H:Hp}{s:Shared}{h':Heap}{e:Addr}{cls:Value}{args:List Value}(I:Inv (fS (CXe P w) P w K mg base N qual scope f cd A outer s0 H0 E) pins σ H s)
  (hx:Heap.MadeExcOf s.heap h' e cls args) (q:E cls none H):(fS (CXe P w) P w K mg base N qual scope f cd A outer s0 H0 E).xe (.ref e) { s with heap:=h' }:=by
 have fr:s.heap.FunFrames _ (fS (CXe P w) P w K mg base N qual scope f cd A outer s0 H0 E).stack:=I.stack;have kin:=I.stkFree;refine Fv (base:=less s.heap ([]++frs (fS (CXe P w) P w K mg base N qual scope f cd A outer s0 H0 E).stack)) (h:=s.heap) (L:=s0.heap.objs.size) I.ok.frames rfl (j_ _ _)
  (rE fr fun a ha=>PySem.W.hideAll_none _ (GZ _ ha)) hx fun h'' a0 x1 x4 =>?_
 have up:s.heap.UpToSlots h'':=(Heap.UpToSlots.of_keeps hx.keeps).trans x4;obtain⟨y1,y2,y3,oe,vs,T,oT,ts,z1,z2,z3,z4,z5,z6,z7,z8,z9⟩:=x1;obtain⟨u,ok⟩:=ra (H:=H) (hid:=[]) Un.refl I.hok fr kin (fun b z=>by cases z) y1 up;have J:=I.call' (s':={ s with heap:=h'' }) (ch:=[]) rfl u ok I.bare (fun b z=>by cases z);obtain⟨n1,n2⟩:=qQ (H:=H) (hid:=[]) Un.refl I.hok fr (fun b z=>by cases z) up z7 z8 z5;exact⟨e,cls,H,rfl,J.os,J.bare,J.base,ok,⟨⟨oe,vs,_,T,oT,ts,z1,z2,z3,z4,⟨uV I.base n1,n2⟩,z6,z7,z8,z9⟩,uV I.base hx.new,I.hok.not hx.new⟩,q⟩
theorem AU {pins:List (Addr × Obj)}{σ:St}{H:Hp}{s s':Shared}{e:Value}(I:Inv (fS (CXe P w) P w K mg base N qual scope f cd A outer s0 H0 E) pins σ H s)
  (c:CXe P w (fS (CXe P w) P w K mg base N qual scope f cd A outer s0 H0 E).stack H s E e s'):(fS (CXe P w) P w K mg base N qual scope f cd A outer s0 H0 E).xe e s':=by
 obtain⟨ea,cls,H',rfl,c1,c2,c3,c4,⟨⟨oe,vs,a0,T,oT,ts,f1,f2,f3,f4,f5,f6,f7,f8,f9⟩,fn,fu⟩,q⟩:=c;have J:=I.call' (s':=s') (ch:=[]) c1 c3 c4 c2 (fun b z=>by cases z);have fr:s'.heap.FunFrames _ (fS (CXe P w) P w K mg base N qual scope f cd A outer s0 H0 E).stack:=J.stack;have hh:∀ b∈[ea,T],s.heap.get? b=none∧H' b=none:=fun b hb=>by
  rcases GU.mp hb with rfl|hb
  ·exact⟨fn,fu⟩
  ·rcases GU.mp hb with rfl|hb
   ·exact f5
   ·cases hb
 refine Eh (base:=less s'.heap ([ea,T]++frs (fS (CXe P w) P w K mg base N qual scope f cd A outer s0 H0 E).stack)) (L:=s0.heap.objs.size) (cls:=cls) (a0:=a0) I.ok.frames rfl
  ⟨j_ _ _,PySem.W.hideAll_none _ (by simp),rE fr fun a ha=>PySem.W.hideAll_none _ (GZ _ ha),oe,vs,T,oT,ts,f1,f2,f3,f4,PySem.W.hideAll_none _ (by simp),f6,f7,f8,f9⟩ fun h'' x1 x4 =>?_
 obtain⟨y1,y2,y3,oe',vs',T',oT',ts',z1,z2,z3,z4,z5,z6,z7,z8,z9⟩:=x1;obtain⟨u,ok⟩:=ra c3 c4 fr J.stkFree hh y1 x4;have J':=I.call' (s':={ s' with heap:=h'' }) (ch:=[]) c1 u ok c2 (fun b z=>by cases z);obtain⟨n1,n2⟩:=qQ c3 c4 fr hh x4 z7 z8 z5;exact⟨ea,cls,H',rfl,J'.os,J'.bare,J'.base,ok,⟨⟨oe',vs',_,T',oT',ts',z1,z2,z3,z4,⟨uV I.base n1,n2⟩,z6,z7,z8,z9⟩,uV I.base fn,fu⟩,q⟩
theorem fX:pV (CXe P w) (fS (CXe P w) P w K mg base N qual scope f cd A outer s0 H0 E) E:=fun _ _ _ _ _ _ I c=>AU I c
end
abbrev bmV:List Value:=[.type "ValueError",.type "Exception",.type "BaseException",.type "object"]
structure EY (K:PySem.W.Frag)(mg:Str→Option Value)(x:Str)(C:Addr):Prop where
 m:mg x=some (.ref C)
 ok:PySem.W.excIn K C bmV "ValueError.__new__" = true
theorem CF {K:PySem.W.Frag}{h:Heap}{C:Addr}{bmB:List Value}{newId:String}(X:K.In h)(q:PySem.W.excIn K C bmB newId=true):
  ∃ bm N nm qn bs hd sn sub ab col dd k0 k1 k2 k3 k5 mN,h.get? C=some (excClassObj nm qn C N bs bm hd sn sub ab col dd k0 k1 k2 k3 k5 newId)∧h.Ns N mN∧mN "__init__" = none∧OwnTail h bmB bm:=by
 unfold PySem.W.excIn at q
 split at q
 ·rename_i dct cdt slo hob
  split at q
  ·rename_i C2 bmx j0 j1 j2 j3 nw j5 hmr hsl
   simp only[HE,beq_iff_eq,Bool.not_eq_true']at q;obtain⟨⟨⟨⟨⟨q1,q2⟩,q3⟩,q4⟩,q5⟩,q6⟩:=q;subst q1 q2;obtain⟨nm,bs,mro,ns,qn,hd,sn,sub,ab,col,del⟩:=cdt;dsimp only at hmr q3 q5 q6;subst hmr q3;have es:slo = #[j0,j1,j2,j3,some (.builtin nw),j5]:=by
    obtain⟨l⟩:=slo;simp only at hsl;rw[hsl]
   subst es;exact⟨bmx,ns,nm,qn,bs,hd,sn,sub,ab,col,dct,j0,j1,j2,j3,j5,_,X _ _ hob,.of_isNs (PySem.W.isNs_of_in X q5),PySem.W.nsMap_none_of_in X q5 q6,PySem.W.tail_of_in X q4⟩
  ·cases q
 ·cases q
def BP (X:Cx)(E:XK):Prop:=∀ (pins:List (Addr × Obj)) (σ:St) (H:Hp) (s:Shared) (h':Heap) (e:Addr) (cls:Value) (args:List Value),Inv X pins σ H s→Heap.MadeExcOf s.heap h' e cls args→E cls none H→X.xe (.ref e) { s with heap:=h' }
theorem wV {P:Program}{w:World}{K:PySem.W.Frag}{mg:Str→Option Value}{base:Heap}{N:List Str}{qual:Str}{scope:Scope}{f:Addr}{cd:Value}{A:Around}{outer:List Env}{s0:Shared}{H0:Hp}{E:XK}:
  BP (fS (CXe P w) P w K mg base N qual scope f cd A outer s0 H0 E) E:=fun _ _ _ _ _ _ _ _ I hx q=>v9 I hx q
abbrev DK (te:TE)(cls:Value)(E:XK):TS:=fun _ σ H=>te σ H fun _ H1=>E cls none H1
section
theorem tJ {x:Str}{C:Addr}{np cpos pos:Pos}{e:Expr}{te:TE}{E:XK}(o:EY X.K X.mg x C)(hE:BP X E)(ha:PE X e te)(hc:X.calm=true:=by rfl)(hg:Gl X x:=by rfl)(hd:(x == ("__debug__" : Str))=false:=by decide)
  (he:starEach [e] X.env=(false,eval e X.env)::starEach [] X.env:=by rfl):PS X (.Raise (some (.Call (.Name x np) [e] [] cpos)) none pos) (DK te (.ref C) E):=by
 intro pins s σ H D I h;obtain⟨bm,N,nm,qn,bs,hdt,sn,sub,ab,col,dd,k0,k1,k2,k3,k5,mN,hC,hN,hni,T⟩:=CF I.mod.kin o.ok;refine wpAny_Raise_call_subT (C:=C) (nm:=nm) (q:=qn) (N:=N) (bs:=bs) (bm:=bm) (hdct:=hdt) (sn:=sn) (sub:=sub) (ab:=ab) (col:=col) (dd:=dd) (k0:=k0) (k1:=k1) (k2:=k2) (k3:=k3) (k5:=k5) (mN:=mN)
  F.excBase_ValueError (T.hasType F.excBase_ValueError.hasBase) (I.ok.hd hc) (by rw[he];rfl) hni (jG I hg o.m ⟨rfl,?_⟩ hd)
 have ha':=aa ha af he cpos pins s σ H (fun vs H1=>vs.length=1∧E (.ref C) none H1) I (by
  refine (?_:tf te x8 σ H _);exact (show te σ H _ from by
   have e1:(fun x H1=>x8 σ H1 fun xs H2=>(x::xs).length=1∧E (Value.ref C) none H2)=fun (_:V) H1=>E (Value.ref C) none H1:=by
    funext x H1;simp[x8]
   rw[e1];exact h))
 rw[he]at ha' ⊢;refine Calls.evalArgs_plain (Ho ha' (fun us s2 z =>?_) fun _ _ y=>y);obtain⟨vs,H1,I2,r,hl,q⟩:=z;refine⟨rfl,by rw[← r.length,hl];decide,I2.bk _ _ hC,hN.keeps I2.bk,T.keeps I2.bk,fun h' e hm=>hE pins σ H1 s2 h' e _ us I2 hm q⟩
end
def q9 (e:Addr)(cls:Value)(h:Heap):Prop:=∃ o vs,h.get? e=some o∧o.cls=cls∧o.data=.fields vs∧vs[2]? = some .none
structure BV (K:PySem.W.Frag)(C:Addr):Prop where
 ga:PySem.W.findIn K (.ref C) "__getattribute__" = some (some (.builtin "BaseException.__getattribute__"))
 gt:PySem.W.findIn K (.ref C) "__getattr__" = some none
 ca:PySem.W.findIn K (.ref C) "__class__" = some (some (.builtin "object.__class__"))
 m1:PySem.W.subIn K (.ref C) (.type "object")=some true
 m2:PySem.W.subIn K (.ref C) (.type "BaseException")=some true
 cl:(PySem.W.clsIn K C).isSome=true
section
variable {w:World}{E:Value→Shared→Prop}{h:Heap}{g:Array GenState}{d:Drawn}{t:Nat}{os:OsState}{a C:Addr}{o:Obj}{vs:Array Value}
theorem zt {R:Result→Shared→Prop}(hx:h.get? a=some o)(hc:o.cls=.ref C)(S:PySem.W.Looks (model prog w) h (isSubtype (.ref C) (.type "object")) true)(hq:R (.ok (.ret (.ref C))) ⟨h,g,d,t,os⟩):
  codeAny (model prog w) A (.call (.builtin "getset_descriptor.__get__") ⟨[.builtin "object.__class__",.ref a,.ref C],[]⟩) R ⟨h,g,d,t,os⟩:=by
 have hT5:(⟨h,g,d,t,os⟩:Shared).TypeIs (.builtin "object.__class__") "getset_descriptor" := F.typeOf_object_class
 have S':PySem.W.Looks (model prog w) h (isSubtype (.ref C) (.type (".".intercalate ("object.__class__".cutAt '.').dropLast))) true:=by rw[F.owner_object_class];exact S
 refine codeAny_call_builtin F.slot_gs_get.plain F.entry_gs_get (F.slot_gs_get.check _ _ _ _ _ _ _ _ hT5 (F.args_gs_get _ _ _) ?_)
 repeat (any_goals (first | assumption | (with_reducible refine wpAny_loadPart_at hx ?_;rw[hc]) | with_reducible refine S'.at ?_ | wp_step))
 refine⟨Code.quiet_builtin _ (by decide +kernel),codeAny_builtin F.entry_object_class ?_⟩
 repeat (any_goals (first | assumption | (with_reducible refine wpAny_loadPart_at hx ?_;rw[hc]) | wp_step))
theorem vb {tk:Tok}{Q:Fin→Shared→Prop}(hx:h.get? a=some o)(hc:o.cls=.ref C)(S:PySem.W.Looks (model prog w) h (isSubtype (.ref C) (.type "object")) true)
  (L:PySem.W.Looks (model prog w) h (typeLookup (.ref C) "__class__") (some (.builtin "object.__class__"))) (hq:Q (.done (.ret (.ref C))) ⟨h,g,d,t,os⟩) :
  wpAny (model prog w) A (Builtin.«object.__getattribute__» ⟨[.ref a,.str "__class__" tk],[]⟩) Q E ⟨h,g,d,t,os⟩:=by
 have hT5:(⟨h,g,d,t,os⟩:Shared).TypeIs (.builtin "object.__class__") "getset_descriptor" := F.typeOf_object_class
 have f5:=F.typeOf_object_class;have f6:=F.slot_gs_get.lookup;have f7:=F.slot_gs_set.lookup
 repeat (any_goals (first | assumption | (with_reducible refine wpAny_loadPart_at hx ?_;rw[hc]) | with_reducible refine L.at ?_ | wp_step))
 refine zt hx hc S ?_
 repeat (any_goals (first | assumption | wp_step))
theorem vd {M:Model}{nv:Value}{Q:Unit→Shared→Prop}(hx:h.get? a=some o)(hc:o.cls=.ref C)(S:PySem.W.Looks M h (isSubtype (.ref C) (.type "BaseException")) true)(hq:Q () ⟨h,g,d,t,os⟩):
  wpAny M A (checkBuiltinCall "BaseException.__getattribute__" ⟨[.ref a,nv],[]⟩) Q E ⟨h,g,d,t,os⟩:=by
 have hk:builtinKind "BaseException.__getattribute__" = some .slot:=by decide +kernel
 have hs:splitId "BaseException.__getattribute__" = some ("BaseException","__getattribute__"):=by decide +kernel
 have ha:=F.args_bexc_ga (.ref a) nv;simp only[checkBuiltinCall,hk,hs];refine Gw ?_;unfold isInstance
 repeat (first | (with_reducible refine wpAny_loadPart_at hx ?_;rw[hc]) | with_reducible refine S.at ?_ | wp_step)
 exact hq
theorem BW {tk:Tok}{Q:Value→Shared→Prop}(hx:h.get? a=some o)(hc:o.cls=.ref C)(S:PySem.W.Looks (model prog w) h (isSubtype (.ref C) (.type "object")) true)(S2:PySem.W.Looks (model prog w) h (isSubtype (.ref C) (.type "BaseException")) true)
  (L:PySem.W.Looks (model prog w) h (typeLookup (.ref C) "__class__") (some (.builtin "object.__class__"))) (L1:PySem.W.Looks (model prog w) h (typeLookup (.ref C) "__getattribute__") (some (.builtin "BaseException.__getattribute__")))
  (L2:PySem.W.Looks (model prog w) h (typeLookup (.ref C) "__getattr__") none) (sl:Slot "ValueError" "__getattribute__" "BaseException.__getattribute__") (hq:Q (.ref C) ⟨h,g,d,t,os⟩):wpAny (model prog w) A (getAttrBy (.ref a) (.str "__class__" tk) false) Q E ⟨h,g,d,t,os⟩:=by
 have f3:=sl.bind (.ref a);have hx2:(Value.builtin "BaseException.__getattribute__" == Value.builtin "object.__getattribute__")=false:=by decide +kernel
 have hx1:(onTheHeap (Value.ref C) && Value.builtin "BaseException.__getattribute__" == Value.builtin "object.__getattribute__")=false:=by rw[hx2];rfl
 repeat (any_goals (first | assumption | (with_reducible refine wpAny_loadPart_at hx ?_;rw[hc]) | with_reducible refine L1.at ?_ | with_reducible refine L2.at ?_ | wp_step))
 refine codeAny_call_builtin sl.plain F.entry_bexc_ga (vd hx hc S2 (vb hx hc S L ?_))
 repeat (any_goals (first | assumption | wp_step))
theorem xW {Q:Option Value→Shared→Prop}(hx:h.get? a=some o)(hc:o.cls=.ref C)(S:PySem.W.Looks (model prog w) h (isSubtype (.ref C) (.type "object")) true)(S2:PySem.W.Looks (model prog w) h (isSubtype (.ref C) (.type "BaseException")) true)
  (L:PySem.W.Looks (model prog w) h (typeLookup (.ref C) "__class__") (some (.builtin "object.__class__"))) (L1:PySem.W.Looks (model prog w) h (typeLookup (.ref C) "__getattribute__") (some (.builtin "BaseException.__getattribute__")))
  (L2:PySem.W.Looks (model prog w) h (typeLookup (.ref C) "__getattr__") none) (sl:Slot "ValueError" "__getattribute__" "BaseException.__getattribute__") (hq:Q (some (.ref C)) ⟨h,g,d,t + 1,os⟩):wpAny (model prog w) A (getAttr? (.ref a) "__class__") Q E ⟨h,g,d,t,os⟩:=by
 unfold getAttr? getAttrBy?
 repeat (any_goals (first | assumption | with_reducible apply BW hx hc S S2 L L1 L2 sl | wp_step))
end
theorem uo {K:PySem.W.Frag}{e C:Addr}(c:BV K C)(sl:Slot "ValueError" "__getattribute__" "BaseException.__getattribute__"):PySem.W.KitX K (.ref e) (.ref C) (q9 e (.ref C)) where
 ty:=fun M h _ p=>by
  obtain⟨o,vs,h1,h2,_⟩:=p;exact h2▸(PySem.W.Looks.ld h1).andThen .now
 it:=fun M h X _=>by
  have z:=c.cl;unfold PySem.W.clsIn at z
  split at z
  ·rename_i c' d' cd' sl' ho
   intro A' Q' E' s' k q;unfold isType loadHead;exact Gw (wpAny_loadPart (k _ _ (X _ _ ho)) (GN q))
  ·cases z
 ne:=fun h tp dd its n sl X htp=>by
  have z:=c.cl;refine Iv.mpr fun q =>?_;have e:C=tp:=Value.ref.inj (beq_iff_eq.mp q);subst e;unfold PySem.W.clsIn at z
  split at z
  ·rename_i c' d' cd' sl' ho
   have y:=(X _ _ ho).symm.trans htp;cases y
  ·cases z
 ca:=fun {prog w A E Q s} X p k=>by
  obtain⟨o,vs,h1,h2,_⟩:=p;obtain⟨hh,g,d,t,os⟩:=s;exact xW h1 h2 (PySem.W.looks_subIn X c.m1) (PySem.W.looks_subIn X c.m2) (PySem.W.looks_findIn X c.ca) (PySem.W.looks_findIn X c.ga) (PySem.W.looks_findIn X c.gt) sl k
section
def Fj (K:PySem.W.Frag)(T:String):List V→Hp→VK→Prop:=fun xs H Q=>∃ e C b,xs=[.ref e,.ty T]∧H e=some (.ext (q9 e (.ref C)))∧BV K C∧PySem.W.kitOne K (.ref C) (.type T)=some b∧Q (.bl b) H
def Fk (K:PySem.W.Frag):List V→Hp→VK→Prop:=fun xs H Q=>∃ e C D b,xs=[.ref e,.ref D]∧H e=some (.ext (q9 e (.ref C)))∧BV K C∧PySem.W.kitOne K (.ref C) (.ref D)=some b∧Q (.bl b) H
theorem zj {K:PySem.W.Frag}(T:String)(hK:X.K=K:=by rfl):fQ X (.builtin "isinstance") (Fj K T):=by
 subst hK;intro pins s σ H xs us Q I r h;obtain⟨e,C,b,rfl,he,c,hk,q⟩:=h;obtain⟨u,c',rfl,rx,rc⟩:=ms r;cases (show c'=.type T from rc);cases (show u=.ref e from rx);exact PySem.W.kia_one (uo c F.attr_ValueError.ga) I.kIn (I.hok e _ he).1 hk (fun z=>nomatch z) fun tk=>⟨.bl b,H,I.tok _,rfl,q⟩
theorem bL {K:PySem.W.Frag}(hK:X.K=K:=by rfl):fQ X (.builtin "isinstance") (Fk K):=by
 subst hK;intro pins s σ H xs us Q I r h;obtain⟨e,C,D,b,rfl,he,c,hk,q⟩:=h;obtain⟨u,c',rfl,rx,rc⟩:=ms r;cases (show c'=.ref D from rc);cases (show u=.ref e from rx);exact PySem.W.kia_one (uo c F.attr_ValueError.ga) I.kIn (I.hok e _ he).1 hk (fun z=>nomatch z) fun tk=>⟨.bl b,H,I.tok _,rfl,q⟩
end
abbrev Xs (X:Cx)(e:Addr):Cx:={ X with A:=X.A.mark (some (.ref e)),calm:=false,xe:=fun _ _=>False }
abbrev Xb (X:Cx)(W:Value→Shared→Prop)(pn:List (Addr × Obj)):Cx:={ X with xe:=W,pn:=pn }
section
variable {pins:List (Addr × Obj)}{σ:St}
theorem Inv.toXs (I:Inv X pins σ H s)(e:Addr):Inv (Xs X e) pins σ H s :=
 ⟨⟨I.ok.mod,I.ok.kind,I.ok.glob,I.ok.blt,I.ok.above,I.ok.inj,I.ok.has,I.ok.cab,(fun z=>nomatch z),I.ok.frames,I.ok.stk,I.ok.exf,I.ok.bs,I.ok.bsz,I.ok.noex,I.ok.exfs,I.ok.funs,I.ok.frf⟩,I.os,I.bare,I.base,I.loc,I.cell,I.free,I.freeC,I.pin,I.hok,I.len⟩
theorem Inv.ofXs {e:Addr}(I:Inv (Xs X e) pins σ H s)(ok:X.Ok):Inv X pins σ H s:=⟨ok,I.os,I.bare,I.base,I.loc,I.cell,I.free,I.freeC,I.pin,I.hok,I.len⟩
theorem Inv.toXb (I:Inv X pins σ H s)(W:Value→Shared→Prop):Inv (Xb X W (X.pn++pins)) [] σ H s :=
 ⟨⟨I.ok.mod,I.ok.kind,I.ok.glob,I.ok.blt,I.ok.above,I.ok.inj,I.ok.has,I.ok.cab,I.ok.hd,I.ok.frames,I.ok.stk,I.ok.exf,I.ok.bs,I.ok.bsz,I.ok.noex,I.ok.exfs,I.ok.funs,I.ok.frf⟩,I.os,I.bare,I.base,I.loc,I.cell,I.free,I.freeC,fun p hp=>I.pin p (by simpa using hp),I.hok,I.len⟩
theorem Inv.ofXb {W:Value→Shared→Prop}{pins':List (Addr × Obj)}(ok:X.Ok)(I:Inv (Xb X W (X.pn++pins)) pins' σ H s):Inv X pins σ H s :=
 ⟨ok,I.os,I.bare,I.base,I.loc,I.cell,I.free,I.freeC,fun p hp=>I.pin p (Hv _ hp),I.hok,I.len⟩
theorem SP.ofXb {W:Value→Shared→Prop}{pins':List (Addr × Obj)}{D:lh}{f:Flow}(ok:X.Ok)(h:SP (Xb X W (X.pn++pins)) pins' D f s):SP X pins D f s:=by
 cases f with
 | next=>obtain⟨σ',H',I,q⟩:=h;exact⟨σ',H',I.ofXb ok,q⟩
 | brk=>obtain⟨σ',H',I,q⟩:=h;exact⟨σ',H',I.ofXb ok,q⟩
 | cont=>obtain⟨σ',H',I,q⟩:=h;exact⟨σ',H',I.ofXb ok,q⟩
 | ret u=>obtain⟨v,σ',H',I,r,q⟩:=h;exact⟨v,σ',H',I.ofXb ok,r,q⟩
theorem Inv.track {a:Addr}{o:HO}(I:Inv X pins σ H s)(new:X.s₀.heap.get? a=none)(hx:H a=none)(h1:a≠X.env.locals)(h2:∀ x c,X.env.cells.lookup x=some c→c≠a)(h3:∀ p∈X.pn++pins,p.1≠a)
  (ok:bo X.prog X.w (upd H a o) s.heap a o):Inv X pins σ (upd H a o) s:=by
 refine⟨I.ok,I.os,I.bare,⟨I.base.keep,I.base.slot,fun b u e n hb =>?_,I.base.there,fun b xs e =>?_,fun b u v e =>?_,fun b ps e =>?_⟩,I.loc,I.cell,?_,fun x c e =>?_,fun p hp =>?_,fun b u e =>?_,I.len⟩
 ·have ne:b≠a:=fun z=>by rw[z,new]at e;cases e
  rw[aD ne];exact I.base.free b u e n hb
 ·have z:=I.base.tups b xs e;rw[aD (aZ z hx)];exact z
 ·have z:=I.base.frzs b u v e;rw[aD (aZ z hx)];exact z
 ·obtain⟨more,z⟩:=I.base.tbls b ps e;exact⟨more,by rw[aD (aZ z hx)];exact z⟩
 ·rw[aD (Ne.symm h1)];exact I.free
 ·rw[aD (h2 x c e)];exact I.freeC x c e
 ·obtain⟨a1,a2,a3⟩:=I.pin p hp;exact⟨a1,by rw[aD (h3 p hp)];exact a2,a3⟩
 ·by_cases hb:b=a
  ·subst hb;rw[ah]at e;cases e;exact ok
  ·rw[aD hb]at e;exact (I.hok b u e).stay (fun _ _ _ q=>q) (fun c q=>by rw[aD (aZ q hx)];exact q) fun c xs q=>by rw[aD (aZ q hx)];exact q
theorem Inv.nameless {h':Heap}{m':Str→Option Value}{t':Nat}(I:Inv X pins σ H s)(hn:h'.Ns X.env.locals m')(hs:Heap.SameBut X.env.locals s.heap h'):
  Inv X pins (List.replicate X.N.length none) H { s with heap:=h',toks:=t' }:=by
 have neL:∀ b o,X.s₀.heap.get? b=some o→b≠X.env.locals:=fun b o e=>G3 (GK (GJ e) I.ok.above);refine⟨I.ok,I.os,I.bare,⟨fun b o e n hb hx =>?_,fun b o e n hb hx =>?_,I.base.free,fun b o e hx =>?_,I.base.tups,I.base.frzs,I.base.tbls⟩,⟨m',hn,fun i x v e1 e2 e3 =>?_⟩,fun x c e =>?_,I.free,I.freeC,fun p hp =>?_,fun b u e =>?_,by simp⟩
 ·exact (hs.2 b (neL b o e)).trans (I.base.keep b o e n hb hx)
 ·obtain⟨sl,e1⟩:=I.base.slot b o e n hb hx;exact⟨sl,(hs.2 b (neL b o e)).trans e1⟩
 ·obtain⟨o',e1⟩:=I.base.there b o e hx;exact⟨o',(hs.2 b (neL b o e)).trans e1⟩
 ·rw[Ix]at e2
  split at e2<;>cases e2
 ·obtain⟨v,z⟩:=I.cell x c e;exact⟨v,z.sameBut hs (I.cne x c e)⟩
 ·obtain⟨a1,a2,a3,a4⟩:=I.pin p hp;exact⟨(hs.2 p.1 a3).trans a1,a2,a3,a4⟩
 ·refine (I.hok b u e).stay (fun c v hc q=>(hs.2 c ?_).trans q) (fun _ q=>q) fun _ _ q=>q;rintro rfl;rcases hc with rfl | hc
  ·rw[I.free]at e;cases e
  ·rw[I.free]at hc;cases hc
end
abbrev Cg (D:lh):lh:={ nx:=fun _ _=>False,rt:=D.rt }
def F1 (K:PySem.W.Frag)(C:Value)(i:Nat)(tb:(Value→St→Hp→Prop)→TS)(ts:Addr→TS):TS:=fun D σ H =>
 tb (fun cls σ' H'=>PySem.W.exmOne K cls C=some true∧∀ e,H' e=none→ts e (Cg D) (σ'.set i (some (.ref e))) (upd H' e (.ext (q9 e cls)))) D σ H
def DD (X:Cx)(W:Value→Shared→Prop)(pn:List (Addr × Obj))(R:Value→St→Hp→Prop):Prop :=
 ∀ (pins:List (Addr × Obj)) (σ:St) (H:Hp) (s:Shared) (e:Value) (s':Shared),Inv (Xb X W pn) pins σ H s→CXe X.prog X.w X.stack H s (fun cls _ H'=>R cls σ H') e s'→W e s'
section
theorem DX {body suite:List Stmt}{b₀:Stmt}{cx n:Str}{np hp pos:Pos}{i:Nat}{C:Value}{tb:(Value→St→Hp→Prop)→TS}{ts:Addr→TS}(hnd:X.N.Nodup)(hi:X.N[i]? = some n)(hl:X.env.kindOf n=some .local)
  (hex:X.ex=[]) (hst:X.stack=X.env::X.outer) (hf:X.env.frame=some X.env.locals) (hm:X.mg cx=some C) (hg:Gl X cx) (hd:(cx == ("__debug__" : Str))=false)
  (hb:∀ W pn R,DD X W pn R→PSs (Xb X W pn) body (tb R)) (hs:∀ e,PSs (Xs X e) (b₀::suite) (ts e)) :
  PS X (.Try body [.ExceptHandler (some (.Name cx np)) (some n) (b₀::suite) hp] [] [] pos) (F1 X.K C i tb ts):=by
 intro pins s σ H D I h;refine wpAny_Try_except ?_;have key:=hb (fun e s₁=>wpAny (model X.prog X.w) X.A (noteFrame e X.env) (fun _ s₂=>wpAny (model X.prog X.w) X.A (setFlight e none) (fun _ s₃ =>
   wpAny (model X.prog X.w) X.A (handleBy e X.env [.ExceptHandler (some (.Name cx np)) (some n) (b₀::suite) hp]) (SP X pins D) X.xe s₃) X.xe s₂) X.xe s₁) (X.pn++pins) _ (?_) [] s σ H D (I.toXb _) h
 ·refine Ho key (fun f s₁ q =>?_) fun _ _ z=>z;have q':=q.ofXb I.ok;cases f with
  | next=>exact wpAny_execs_nil q'
  | brk=>exact q'
  | cont=>exact q'
  | ret u=>exact q'
 ·intro pins' σ' H1 s1 e s' I' c;have I1:Inv X pins σ' H1 s1:=I'.ofXb I.ok;obtain⟨ea,cls,H',rfl,c1,c2,c3,c4,⟨⟨oe,vs,a0,T,oT,ts',f1,f2,f3,f4,f5,f6,f7,f8,f9⟩,fn,fu⟩,hx,q⟩:=c;have J:=I1.call' (s':=s') (ch:=[]) c1 c3 c4 c2 (fun b z=>by cases z);have fr:s'.heap.FunFrames _ X.stack:=J.stack;have fr':=fr;rw[hst]at fr';have hh:∀ b∈[ea,T],s1.heap.get? b=none∧H' b=none:=fun b hb=>by
   rcases GU.mp hb with rfl|hb
   ·exact⟨fn,fu⟩
   ·rcases GU.mp hb with rfl|hb
    ·exact f5
    ·cases hb
  have hfr:X.A.frames=some (X.env::X.outer):=by rw[← hst];exact I.ok.frames
  have stp:∀ h'':Heap,(less s'.heap ([ea,T]++frs X.stack)).StaysIn h''→s'.heap.UpToSlots h''→Inv X pins σ' H' { s' with heap:=h'' }:=fun h'' y1 y2=>by
   obtain⟨u,ok⟩:=ra c3 c4 fr J.stkFree hh y1 y2;exact I1.call' (s':={ s' with heap:=h'' }) (ch:=[]) c1 u ok c2 (fun b z=>by cases z)
  refine Du (base:=less s'.heap ([ea,T]++frs X.stack)) (L:=X.env.locals) (cls:=cls) (a0:=a0) hfr hf
   ⟨j_ _ _,PySem.W.hideAll_none _ (by simp),rE fr' fun a ha=>PySem.W.hideAll_none _ (GZ _ (by rw[hst];exact ha)),oe,vs,T,oT,ts',f1,f2,f3,f4,PySem.W.hideAll_none _ (by simp),f6,f7,f8,f9⟩ fun h1 g1 up1 =>?_
  refine CK g1 fun h2 g2 up2 =>?_;have up12:=up1.trans up2;have J2:=stp h2 g2.1 up12;have Js:=J2.toXs ea;refine wpAny_handleBy_cons (codeAny_handlers_test (jG (X:=Xs X ea) Js hg hm ?_ hd)) (by intro z;cases z);have LT:PySem.W.Looks (model X.prog X.w) h2 (typeOf (.ref ea)) cls:=by
   obtain⟨_,_,_,oe2,vs2,T2,oT2,ts2,z1,z2,_⟩:=g2;exact z2.1▸(PySem.W.Looks.ld z1).andThen .now
  refine (PySem.W.exm_one (K:=X.K) J2.kIn LT hx).here ?_;refine codeAny_handlers_suite_as (CK g2 fun h3 g3 up3 =>?_);have J3:=stp h3 g3.1 (up12.trans up3);obtain⟨_,_,_,oe3,vs3,T3,oT3,ts3,z1,z2,z3,_⟩:=g3;have old:∀ b o,s1.heap.get? b=some o→b≠ea:=fun b o e z=>by rw[z,fn]at e;cases e
  have b0:Un X.fs [] X.H₀ H1 X.s₀.heap s1.heap:=by
   have z:=I1.base;rw[hex]at z;exact z
  have J4:Inv X pins σ' (upd H' ea (.ext (q9 ea cls))) { s' with heap:=h3 }:=by
   refine J3.track (uV b0 fn) fu ?_ (fun x c e =>?_) (fun p hp' =>?_) ⟨⟨oe3,vs3,z1,z2.1,z3,z2.2.2⟩,⟨oe3,z1⟩,fun h1 h2 ⟨o,v,a1,a2,a3,a4⟩ k=>⟨o,v,k o a1,a2,a3,a4⟩⟩
   ·obtain⟨m,⟨o,_,_,ho,_⟩,_⟩:=I1.loc;exact Ne.symm (old _ o ho)
   ·obtain⟨v,o,ho,_⟩:=I1.cell x c e;exact old c o ho
   ·exact old _ _ (I1.pin p hp').1
  refine n8 (X:=Xs X ea) (J4.toXs ea) hnd hi (.inl hl) (v:=.ref ea) rfl (fun s5 J5 =>?_) (.inr hl);refine Ho (hs ea pins s5 _ _ _ J5 (q ea fu)) (fun f s6 z =>?_) fun _ _ z=>False.elim z;cases f with
  | next=>obtain⟨_,_,_,z⟩:=z;exact False.elim z
  | brk=>obtain⟨_,_,_,z⟩:=z;exact False.elim z
  | cont=>obtain⟨_,_,_,z⟩:=z;exact False.elim z
  | ret u =>
   obtain⟨v,σ6,H6,J6,r6,q6⟩:=z;have J6':=J6.ofXs I.ok;obtain⟨m,hn,_⟩:=J6'.loc;refine wpAny_nameGoes hl hn (by rw[I.ok.kind];rfl) fun h7 m7 hn7 sb =>?_;exact⟨v,_,H6,J6'.nameless hn7 sb,r6,q6⟩
abbrev DR (sp:Sp)(dvs:List V)(R:Value→St→Hp→Prop)(t:TA):TE:=fun σ H Q=>t σ H fun vs H1=>sp (vs++dvs) H1 Q (fun cls _ H'=>R cls σ H')
theorem As {W:Value→Shared→Prop}{pn:List (Addr × Obj)}{R:Value→St→Hp→Prop}{j k:Nat}{x:Str}{ps:List Str}{dvs:List V}{sp:Sp}{p pos:Pos}{e:Expr}{es:List Expr}{t:TA}
  (F:Fok X.prog X.w X.K X.mg X.base (CXe X.prog X.w) j x ps dvs sp) (hr:cz k X.A) (pt:DD X W pn R) (ha:PA (Xb X W pn) (e::es) t) (hj:j≤k:=by decide) (hg:Gl X x:=by rfl)
  (hdb:(x == ("__debug__" : Str))=false:=by decide) (he:starEach (e::es) X.env=(false,eval e X.env)::starEach es X.env:=by rfl) (hpl:(backTo pos (starEach es X.env)).any (·.1)=false:=by rfl) :
  PE (Xb X W pn) (.Call (.Name x p) (e::es) [] pos) (DR sp dvs R t):=by
 obtain⟨f,fd,ds,G,b,v,kp,m⟩:=F.ex;intro pins s σ H Q I h;refine wpAny_Call_Name_kw (jG I hg m ?_ hdb);refine PySem.W.callWith_K (h₀:=X.base) I.ok.mod.kin kp (thn (ha pos pins s σ H _ I h) fun us s1 ⟨vs,H1,I1,r,q⟩=>⟨I1.kIn,?_⟩) he hpl;have r2:aN (vs++dvs) (us++ds):=r.append v;have hl:(us++ds).length=ps.length:=by rw[← r2.length];exact G.len _ _ _ _ q
 refine wpAny_call (codeAny_mono (G.run X.A X.stack s1 H1 ⟨us,[]⟩ (us++ds) (vs++dvs) Q _ (hr.mono hj) I1.env0 (b s1 us I1.kIn hl) r2 q) fun r s' hq =>?_);cases r with
 | error e=>exact pt pins σ H1 s1 e s' I1 hq
 | ok fl =>
  cases fl with
  | ret u=>exact I1.after hq
  | next=>exact False.elim hq
  | brk=>exact False.elim hq
  | cont=>exact False.elim hq
end
section
variable {w:World}{E:Value→Shared→Prop}{x:Str}{t:Tok}
end
section
variable {tg:Expr}
end
def clo (env:Env)(xs:List Str):List (Str × Addr):=xs.map fun x=>(x,(env.cells.lookup x).getD 0)
def sS (env:Env)(scope:Scope)(xs caps:List Str):Prop:=∀ x∈caps,env.kindOf x=some .cell∧(relabel scope env).names.lookup x=some .cell∧x∈xs
theorem wq {env:Env}{scope:Scope}{xs:List Str}:sS env scope xs []:=fun _ h=>by cases h
theorem uT {env:Env}{scope:Scope}{xs:List Str}{x:Str}{r:List Str}(h1:env.kindOf x=some .cell)(h2:(relabel scope env).names.lookup x=some .cell)(h3:x∈xs)(h:sS env scope xs r):sS env scope xs (x::r):=fun y hy=>by
 rcases GU.mp hy with rfl|hy
 ·exact⟨h1,h2,h3⟩
 ·exact h y hy
theorem BG {env:Env}{x:Str}{c:Addr}:∀ {xs:List Str},x∈xs→env.cells.lookup x=some c→(clo env xs).lookup x=some c
 | [],h,_=>by cases h
 | y::r,h,e=>by
  unfold clo;rw[GX,Iz];by_cases z:x=y
  ·subst z;simp[e]
  ·have zb:(x == y)=false:=by simpa using z
   rw[zb];rcases GU.mp h with q | q
   ·exact absurd q z
   ·exact BG q e
theorem sI {env:Env}{x:Str}:∀ {xs:List Str},x∈xs→∃ c,(clo env xs).lookup x=some c
 | [],h=>by cases h
 | y::r,h=>by
  unfold clo;rw[GX,Iz];by_cases z:x=y
  ·subst z;exact⟨_,by simp;rfl⟩
  ·have zb:(x == y)=false:=by simpa using z
   rw[zb];rcases GU.mp h with q | q
   ·exact absurd q z
   ·exact sI q
theorem Da {env:Env}{x:Str}{c:Addr}{xs:List Str}(hin:(xs.all fun x=>(env.cells.lookup x).isSome)=true)(e:(clo env xs).lookup x=some c):env.cells.lookup x=some c:=by
 induction xs with
 | nil=>cases e
 | cons y r ih =>
  unfold clo at e;rw[GX,Iz]at e;rw[Jo,HE]at hin;by_cases z:x=y
  ·subst z;obtain⟨a,ha⟩:=G9.mp hin.1;rw[ha]at e ⊢;simpa using e
  ·have zb:(x == y)=false:=by simpa using z
   rw[zb]at e;exact ih hin.2 e
theorem uR {σ:St}{vs:List V}{is:List Nat}{N N' caps:List Str}{k:Nat}(hvs:is.map (fun i=>σ[i]?)=vs.map fun v=>some (some v))(his:is.map (N[·]?)=caps.map some)(hN:N'.drop k=caps)(hk:k≤N'.length):
  (List.replicate k (none:Option V)++vs.map some).length=N'.length:=by
 have h1:=Hn List.length hvs;have h2:=Hn List.length his;have h3:=Hn List.length hN;simp only[Gy,Ih,GE,IE]at *
 lia
theorem Db {σ:St}{vs:List V}{is:List Nat}{N N' caps:List Str}{k i:Nat}{x:Str}{v:V}(hvs:is.map (fun i=>σ[i]?)=vs.map fun v=>some (some v))(his:is.map (N[·]?)=caps.map some)(hN:N'.drop k=caps)
  (e1:N'[i]? = some x) (e2:(List.replicate k (none:Option V)++vs.map some)[i]? = some (some v)):∃ j:Nat,N[j]? = some x∧x∈caps∧σ[j]? = some (some v):=by
 have hik:k≤i:=by
  by_cases h:k≤i
  ·exact h
  ·rw[Hf (by simpa using h),Ix]at e2
   split at e2<;>cases e2
 rw[Hm (by simpa using hik),IE]at e2;have e1':caps[i - k]? = some x:=by rw[← hN,JA,Nat.add_sub_cancel' hik];exact e1
 have ev:vs[i - k]? = some v:=by
  rw[Ha]at e2;cases z:vs[i - k]? with
  | none=>rw[z]at e2;cases e2
  | some a=>rw[z]at e2;cases e2;rfl
 have q1:=Hn (·[i - k]?) hvs;have q2:=Hn (·[i - k]?) his;simp only[Ha,ev,e1',IQ]at q1 q2;cases z:is[i - k]? with
 | none=>rw[z]at q1;cases q1
 | some j =>
  rw[z]at q1 q2;exact⟨j,Option.some.inj q2,GW e1',Option.some.inj q1⟩
theorem zi {σ:St}{vs:List V}{k:Nat}(h:σ.drop k=vs.map some)(i:Nat)(v:V)(e:(List.replicate k (none:Option V)++vs.map some)[i]? = some (some v)):σ[i]? = some (some v):=by
 have hik:k≤i:=by
  by_cases h:k≤i
  ·exact h
  ·rw[Hf (by simpa using h),Ix]at e
   split at e<;>cases e
 rw[Hm (by simpa using hik),IE,← h,JA,Nat.add_sub_cancel' hik]at e;exact e
theorem ET {names:List (Str × NameKind)}{xs:List Str}(h:(names.all fun y => !(y.2 == .cell || y.2 == .free) || xs.contains y.1)=true):∀ y∈names,(y.2=.cell∨y.2=.free)→y.1∈xs:=fun y hy hk=>by
 have z:=Jj.mp h y hy;rcases hk with e | e
 ·rw[e]at z;exact List.contains_iff_mem.mp (by simpa using z)
 ·rw[e]at z;exact List.contains_iff_mem.mp (by simpa using z)
def bB (X:Cx)(N':List Str)(scope:Scope)(xs:List Str)(C:Addr)(s0:Shared)(H0:Hp)(fp:List Addr)(pins:List (Addr × Obj)):Cx where
 prog:=X.prog
 w:=X.w
 K:=X.K
 mg:=X.mg
 base:=X.base
 A:=X.A
 N:=N'
 s₀:=s0
 H₀:=H0
 env:=compEnvC scope (clo X.env xs) C X.env
 outer:=X.stack
 stack:=X.stack
 ex:=fp
 fn:=fun _=>false
 calm:=X.calm
 pn:=X.pn++pins
 xe:=fun _ _=>False
def pK (σ0:St)(k:Nat)(cs:St)(g:TG)(te:TE)(Q:VK):It→Hp→Prop:=fun J H1=>∀ D,H1 D=none→∃ W:Nat→Nat→List V→Hp→Prop,(∃ m,W 0 m [] (upd H1 D (.lst []))) ∧
 ∀ i m ys H2,W i m ys H2→H2 D=some (.lst ys)∧((J.stop i H2∧Q (.ref D) H2)∨(J.go i H2∧ys.length < sizeLine ∧
  ∀ x H',J.yld i H2 x H'→g x σ0 H' fun σ2 H3=>σ2.drop k=cs∧te σ2 H3 fun y H4=>H4 D=some (.lst ys)∧∃ m',m' < m∧W (i + 1) m' (ys++[y]) (upd H4 D (.lst (ys++[y])))))
def vk (is:List Nat)(k:Nat)(wi:TI)(g:TG)(te:TE):TE:=fun σ H Q=>∃ vs:List V,is.map (fun i=>σ[i]?)=vs.map (fun v=>some (some v))∧wi σ H (pK (List.replicate k none++vs.map some) k (vs.map some) g te Q)
def nW (σ0:St)(k:Nat)(cs:St)(g:TG)(tt:TT)(te:TE)(Q:VK):It→Hp→Prop:=fun J H1=>∀ D,H1 D=none→∃ W:Nat→Nat→List V→Hp→Prop,(∃ m,W 0 m [] (upd H1 D (.lst []))) ∧
 ∀ i m ys H2,W i m ys H2→H2 D=some (.lst ys)∧((J.stop i H2∧Q (.ref D) H2)∨(J.go i H2∧ys.length < sizeLine ∧
  ∀ x H',J.yld i H2 x H'→g x σ0 H' fun σ2 H3=>σ2.drop k=cs∧tt σ2 H3 fun b H4=>if b=true then te σ2 H4 fun y H5=>H5 D=some (.lst ys)∧∃ m',m' < m∧W (i + 1) m' (ys++[y]) (upd H5 D (.lst (ys++[y])))
   else ∃ m',m' < m∧W (i + 1) m' ys H4))
def ko (is:List Nat)(k:Nat)(wi:TI)(g:TG)(tt:TT)(te:TE):TE:=fun σ H Q=>∃ vs:List V,is.map (fun i=>σ[i]?)=vs.map (fun v=>some (some v))∧wi σ H (nW (List.replicate k none++vs.map some) k (vs.map some) g tt te Q)
def PTs (X:Cx)(ifs:List Expr)(tt:TT):Prop:=∀ (pins:List (Addr × Obj)) (s:Shared) (σ:St) (H:Hp) (Q:Bool→Hp→Prop),Inv X pins σ H s→tt σ H Q→wpAny (model X.prog X.w) X.A (zD ifs X.env) (fun ok s'=>∃ H',Inv X pins σ H' s'∧Q ok H') X.xe s
def DH:TT:=fun _ H Q=>Q true H
theorem Co {X:Cx}{c:Expr}{tt:TT}(h:PT X c tt):PTs X [c] tt:=fun pins s σ H Q I q=>wpAny_tests_one (h pins s σ H Q I q)
theorem Cp {X:Cx}:PTs X [] DH:=fun _ _ _ H _ I q=>wpAny_tests_nil ⟨H,I,q⟩
theorem ze (is:List Nat)(k:Nat)(wi:TI)(g:TG)(te:TE):vk is k wi g te=ko is k wi g DH te:=by
 unfold vk ko pK nW DH;simp only[if_true]
structure sR (X:Cx)(N':List Str)(scope:Scope)(xs caps:List Str)(is:List Nat)(k:Nat):Prop where
 hclos:closureFor scope X.env=pure (clo X.env xs):=by with_unfolding_all rfl
 hin:(xs.all fun x=>(X.env.cells.lookup x).isSome)=true:=by rfl
 hcap:sS X.env scope xs caps:=by repeat (first | exact wq | refine uT rfl rfl (by decide) ?_)
 his:is.map (X.N[·]?)=caps.map some:=by rfl
 hN:N'.drop k=caps:=by rfl
 hk:k≤N'.length:=by decide
 hallB:((relabel scope X.env).names.all fun y => !(y.2 == .cell || y.2 == .free) || xs.contains y.1)=true:=by rfl
 hcell:∀ y∈scope.names,y.2≠.cell:=by decide +kernel
 hkind:scope.kind=.function:=by rfl
 hnames:∀ y∈scope.names,y.2=.local→scope.names.lookup y.1=some .local:=by decide +kernel
 hcalm:X.calm=true:=by rfl
section
variable {elt tg iter cnd:Expr}{ifs:List Expr}{scope:Scope}{N':List Str}{wi:TI}{g:TG}{te:TE}{tt:TT}
theorem zd {pos':Pos}{use:Option (Value→Sem Unit)}{Qf:Value→Shared→Prop}{R:VK}{pins:List (Addr × Obj)}{s:Shared}{σ:St}{H:Hp}(xs caps:List Str)(is:List Nat)(k:Nat)(ok:sR X N' scope xs caps is k)(hi:PI X tg iter wi)(hg:∀ C s0 H0 fp pins,PG (bB X N' scope xs C s0 H0 fp pins) tg g)(ht:∀ C s0 H0 fp pins,PTs (bB X N' scope xs C s0 H0 fp pins) ifs tt)(he:∀ C s0 H0 fp pins,PE (bB X N' scope xs C s0 H0 fp pins) elt te)
  (hs:∀ x,foldedSetIterable iter X.env x=pure x) (I:Inv X pins σ H s) (h:ko is k wi g tt te σ H R)
  (hfin:∀ (d C:Addr) (H':Hp) (s':Shared),Inv X pins σ H' s'→∀ m,s'.heap.Ns C m→H' C=none→C≠X.env.locals→X.s₀.heap.objs.size≤C→(∀ x c,X.env.cells.lookup x=some c→c≠C)→(∀ p∈X.pn++pins,p.1≠C)→R (.ref d) H'→compPost (model X.prog X.w) X.A X.xe use Qf (.ref d) C (.ok .next) s') :
  wpAny (model X.prog X.w) X.A (comprehension (.ListComp elt [⟨tg,iter,ifs,0⟩] scope pos) scope X.env pos' (newList []) false (eval iter X.env) use) Qf X.xe s:=by
 obtain⟨hclos,hin,hcap,his,hN,hk,hallB,hcell,hkind,hnames,hcalm⟩:=ok;have hall:=ET hallB;obtain⟨vs,hvs,h⟩:=h;refine wpAny_comprehension_free rfl hs hclos hkind hnames (thn (hi pins s σ H _ I h) fun v s1 h1=>thn h1 fun itv s2 h2 =>?_);obtain⟨it,fp,tn,J,H2,e,I2,T,st2,f2,hW⟩:=h2;subst e;refine wpAny_newObj_type (wpAny_newFunctionEnv hcell (by intro y hy;simp at hy) (fun h₁ hns₁ hsb₁ =>?_) hkind);dsimp only at hns₁ hsb₁ ⊢;generalize hH2:s2.heap.push { cls:=.type "list",dict:=none,data:=.seq ([]:List Value).toArray }=P2 at hns₁ hsb₁ ⊢
 have hC:P2.objs.size=s2.heap.objs.size + 1:=by rw[← hH2,Heap.size_push]
 have below:∀ b,b < s2.heap.objs.size→b≠P2.objs.size∧b≠s2.heap.objs.size:=fun b hb=>⟨by rw[hC];exact G3 (Nat.lt_succ_of_lt hb),G3 hb⟩;have hDC:s2.heap.objs.size≠P2.objs.size:=by rw[hC];exact G3 (Jg _)
 have old:∀ b o,s2.heap.get? b=some o→h₁.get? b=some o:=fun b o e=>hsb₁.extBut b o (below b (GJ e)).1 (Gx _ (hH2▸Gx _ e));have hD:h₁.get? s2.heap.objs.size=some { cls:=.type "list",dict:=none,data:=.seq ([]:List Value).toArray }:=hsb₁.extBut _ _ hDC (Gx _ (hH2▸GQ _ rfl))
 have frD:H2 s2.heap.objs.size=none:=I2.hok.fresh (GB _);have frC:H2 P2.objs.size=none:=I2.hok.fresh (by rw[hC];exact Nat.le_succ _);have hfp:∀ b∈fp,b < s2.heap.objs.size:=fun b hb=>by
  obtain⟨o,e,_⟩:=T.obj _ _ st2 b hb;exact GJ e
 have nst:∀ b,b≠X.env.locals→b∉X.fs→b∉frs X.stack:=fun b n1 n2 z=>by
  rcases GU.mp (I2.stkSub b z) with e|e
  ·exact n1 e
  ·exact n2 e
 obtain⟨W,⟨m0,w0⟩,turn⟩:=hW s2.heap.objs.size frD;have csub:∀ (x:Str) (c:Addr),(clo X.env xs).lookup x=some c→X.env.cells.lookup x=some c:=fun x c e=>Da hin e;have cold:∀ (x:Str) (c:Addr),(clo X.env xs).lookup x=some c→∃ v,s2.heap.IsCell c v:=fun x c e=>I2.cell x c (csub x c e);have clt:∀ (x:Str) (c:Addr),(clo X.env xs).lookup x=some c→c < s2.heap.objs.size:=fun x c e=>by
  obtain⟨v,o,ho,_⟩:=cold x c e;exact GJ ho
 have ok':(bB X N' scope xs P2.objs.size s2 H2 fp pins).Ok:=by
  refine⟨I2.ok.mod,hkind,I2.ok.glob,I2.ok.blt,?_,fun x y c e e'=>I2.ok.inj x y c (csub x c e) (csub y c e'),fun x hx =>?_,(fun x c z _=>by cases z),I2.ok.hd,I2.ok.frames,.inl rfl,fun b hb=>⟨(below b (hfp b hb)).1,fun x c e=>(f2 b hb).2.2.2.2.1 x c (csub x c e)⟩,I2.bs,G8 I2.ok.bsz I2.sz,fun b o e hb =>?_,fun b hb=>nst b (f2 b hb).2.1 (f2 b hb).2.2.1,I2.stack,I2.stkFree⟩
  ·show s2.heap.objs.size≤P2.objs.size;rw[hC];exact Nat.le_succ _
  ·have hx':(relabel scope X.env).names.lookup x=some .cell∨(relabel scope X.env).names.lookup x=some .free:=hx;rcases hx' with z | z
   ·exact sI (hall _ (PySem.mem_of_lookup z) (.inl rfl))
   ·exact sI (hall _ (PySem.mem_of_lookup z) (.inr rfl))
  ·rcases (f2 b hb).2.2.2.1 with z|z
   ·exact I2.ok.noex b o e z
   ·exact absurd (GK (GJ (I2.ok.bs b o e).1) z) (H_ _)
 have I':Inv (bB X N' scope xs P2.objs.size s2 H2 fp pins) [] (List.replicate k none++vs.map some) (upd H2 s2.heap.objs.size (.lst [])) { s2 with heap:=h₁,toks:=s2.toks + ([]:List (Str × Value)).length }:=by
  refine⟨ok',rfl,I2.bare,Un.laid old (GB _) frD,⟨_,hns₁,fun i x v e1 e2 e3 =>?_⟩,fun x c e =>?_,?_,fun x c e =>?_,fun p hp =>?_,I2.hok.laid old (GB _) ⟨by simp,[],0,.nil,hD⟩,?_⟩
  ·obtain⟨j,ej,hj1,hj2⟩:=Db hvs his hN e1 e2;obtain⟨hc1,hc2,hc3⟩:=hcap x hj1;obtain⟨m,hn,hl⟩:=I2.loc;obtain⟨u,r,l⟩:=hl j x v ej hj2 (.inr (.inl hc1));refine⟨u,r,.inr ⟨.inl hc2,?_⟩⟩;rcases l with⟨z,_⟩|⟨_,c,ec,⟨o,ho,hd⟩⟩
   ·rw[show X.env.kindOf x=some .cell from hc1]at z;cases z
   ·exact⟨c,BG hc3 ec,o,old _ _ ho,hd⟩
  ·obtain⟨v,o,ho,hd⟩:=cold x c e;exact⟨v,o,old _ _ ho,hd⟩
  ·show upd H2 s2.heap.objs.size (.lst []) P2.objs.size=none;rw[aD (Ne.symm hDC)];exact frC
  ·show upd H2 s2.heap.objs.size (.lst []) c=none;rw[aD (below _ (clt x c e)).2];exact I2.freeC x c (csub x c e)
  ·have hp':p∈X.pn++pins:=by
    rcases GS.mp hp with z|z
    ·exact z
    ·cases z
   obtain⟨a1,a2,a3,a4,a5⟩:=I2.pin p hp';refine⟨old _ _ a1,?_,(below _ (GJ a1)).1,nst _ a3 a4,a5⟩;rw[aD (below _ (GJ a1)).2];exact a2
  ·show (List.replicate k none++vs.map some).length=N'.length;exact uR hvs his hN hk
 have stat:∀ {H':Hp},(∀ b∈fp,H' b=none)→∀ b∈fp,u_ (bB X N' scope xs P2.objs.size s2 H2 fp pins) [] H' b:=fun {H'} hn b hb =>
  ⟨hn b hb,(below b (hfp b hb)).1,nst b (f2 b hb).2.1 (f2 b hb).2.2.1,.inl hb,fun x c e=>(f2 b hb).2.2.2.2.1 x c (csub x c e),fun p hp=>(f2 b hb).2.2.2.2.2 p (by
   rcases GS.mp hp with z|z
   ·exact z
   ·cases z)⟩
 have fin:∀ (ys:List V) (σ':St) (H':Hp) (s':Shared),Inv (bB X N' scope xs P2.objs.size s2 H2 fp pins) [] σ' H' s'→R (.ref s2.heap.objs.size) H'→compPost (model X.prog X.w) X.A X.xe use Qf (.ref s2.heap.objs.size) P2.objs.size (.ok .next) s':=by
  intro ys σ' H' s' J1 q;obtain⟨m,hm,_⟩:=id J1.loc;have J2:Inv X pins σ H' s':=I2.call' (s':=s') (ch:=fp) J1.os ⟨J1.base.keep,J1.base.slot,J1.base.free,J1.base.there,J1.base.tups,J1.base.frzs,J1.base.tbls⟩ J1.hok J1.bare fun b hb=>⟨(f2 b hb).2.2.2.1,(f2 b hb).2.1,(f2 b hb).2.2.2.2.1,(f2 b hb).2.2.2.2.2⟩;have s0C:X.s₀.heap.objs.size≤P2.objs.size:=G8 I2.sz (by rw[hC];exact Nat.le_succ _);have neL:P2.objs.size≠X.env.locals:=Ne.symm (below _ I2.lt).1;have neC:∀ x c,X.env.cells.lookup x=some c→c≠P2.objs.size:=fun x c e=>by
   obtain⟨v,o,ho,_⟩:=I2.cell x c e;exact (below _ (GJ ho)).1
  have neP:∀ p∈X.pn++pins,p.1≠P2.objs.size:=fun p hp=>(below _ (GJ (I2.pin p hp).1)).1;exact hfin _ _ H' s' J2 m hm J1.free neL s0C neC neP q
 have loop:codeAny (model X.prog X.w) X.A (.compLoop (.ListComp elt [⟨tg,iter,ifs,0⟩] scope pos) 0 (.ref it) (.ref s2.heap.objs.size) (compEnvC scope (clo X.env xs) P2.objs.size X.env))
   (compPost (model X.prog X.w) X.A X.xe use Qf (.ref s2.heap.objs.size) P2.objs.size)
   { s2 with heap:=h₁,toks:=s2.toks + ([]:List (Str × Value)).length }:=by
  refine uN (fun n s'=>∃ i ys σ' H',σ'.drop k=vs.map some∧Inv (bB X N' scope xs P2.objs.size s2 H2 fp pins) [] σ' H' s'∧tn i s'.heap∧(∀ b∈fp,H' b=none)∧W i n ys H') ?_ m0
   ⟨0,[],List.replicate k none++vs.map some,_,by simp,I',T.keep _ _ _ st2 (fun b hb o e=>old b o e),fun b hb=>by rw[aD (below b (hfp b hb)).2];exact (f2 b hb).1,w0⟩
  rintro n s3 ⟨i,ys,σ3,H3,hd3,J3,st3,fr3,w3⟩;obtain⟨hl,q3⟩:=turn i n ys H3 w3;rcases q3 with⟨stop,q⟩ | ⟨go,hlt,step⟩
  ·refine thn (T.done (bB X N' scope xs P2.objs.size s2 H2 fp pins) rfl rfl rfl hcalm i [] s3 σ3 H3 _ J3 (stat fr3) st3 stop) fun r s4 ⟨hr,J4⟩ =>?_;subst hr;exact fin ys σ3 H3 s4 J4 q
  ·refine thn (T.item (bB X N' scope xs P2.objs.size s2 H2 fp pins) rfl rfl rfl hcalm i [] s3 σ3 H3 _ J3 (stat fr3) st3 go) fun r s4 ⟨u,hr,h4⟩ =>?_;subst hr;refine thn h4 fun _ s5 ⟨x,H5,J5,r5,y5,st5,fr5⟩ =>?_;have J5':=J5.pinned (stat fr5) (T.obj _ _ st5);have J6:Inv (bB X N' scope xs P2.objs.size s2 H2 fp pins) ([]++oF fp s5.heap) (List.replicate k none++vs.map some) H5 s5:=J5'.weak (by rw[J5'.len];exact uR hvs his hN hk) (zi hd3);refine Ho (hg _ _ _ _ _ _ s5 _ H5 x u _ J6 r5 (step x H5 y5)) (fun _ s6 ⟨σ6,H6,J7,hd6,q6⟩ =>?_) fun _ _ z=>False.elim z;refine Ho (ht _ _ _ _ _ _ s6 σ6 H6 _ J7 q6) (fun ok s6b ⟨H6b,J7b,q6b⟩ =>?_) fun _ _ z=>False.elim z;cases ok with
   | false =>
    rw[if_neg (by decide)];rw[if_neg (by decide)]at q6b;obtain⟨m',hm',w7⟩:=q6b;have pk:∀ b∈fp,∀ o,s5.heap.get? b=some o→s6b.heap.get? b=some o∧H6b b=none:=fun b hb o e =>
     let z:=J7b.pin (b,o) (GZ _ (GZ _ (iB hb e)))
     ⟨z.1,z.2.1⟩
    refine⟨m',hm',i + 1,ys,σ6,_,hd6,J7b.unpinned,T.keep _ _ _ st5 fun b hb o e=>(pk b hb o e).1,fun b hb =>?_,w7⟩;obtain⟨o,e,_⟩:=T.obj _ _ st5 b hb;exact (pk b hb o e).2
   | true =>
    rw[if_pos rfl];rw[if_pos rfl]at q6b;refine Ho (he _ _ _ _ _ _ s6b σ6 H6b _ J7b q6b) (fun yv s7 ⟨y,H7,J8,r7,q7⟩ =>?_) fun _ _ z=>False.elim z;obtain⟨hl7,m',hm',w7⟩:=q7;refine Ho (qF (X:=bB X N' scope xs P2.objs.size s2 H2 fp pins) _ s7 σ6 H7 (.ref s2.heap.objs.size) [y] (.ref s2.heap.objs.size) [yv] (fun v H8=>H8=upd H7 s2.heap.objs.size (.lst (ys++[y]))) J8 rfl (.cons r7 .nil) ⟨_,ys,y,rfl,rfl,hl7,hlt,rfl⟩) (fun _ s8 ⟨v8,H8,J9,r8,e8⟩ =>?_) fun _ _ z=>False.elim z;subst e8;have pk:∀ b∈fp,∀ o,s5.heap.get? b=some o→s8.heap.get? b=some o∧upd H7 s2.heap.objs.size (.lst (ys++[y])) b=none:=fun b hb o e =>
     let z:=J9.pin (b,o) (GZ _ (GZ _ (iB hb e)))
     ⟨z.1,z.2.1⟩
    refine⟨m',hm',i + 1,ys++[y],σ6,_,hd6,J9.unpinned,T.keep _ _ _ st5 fun b hb o e=>(pk b hb o e).1,fun b hb =>?_,w7⟩;obtain⟨o,e,_⟩:=T.obj _ _ st5 b hb;exact (pk b hb o e).2
 exact codeAny_compStart_list loop (T.self X.A 0 { s2 with heap:=h₁,toks:=s2.toks + ([]:List (Str × Value)).length } _ _ (T.keep _ _ _ st2 fun b hb o e=>old b o e) loop)
theorem tR (xs caps:List Str)(is:List Nat)(k:Nat)(ok:sR X N' scope xs caps is k)(hi:PI X tg iter wi)(hg:∀ C s0 H0 fp pins,PG (bB X N' scope xs C s0 H0 fp pins) tg g)(ht:∀ C s0 H0 fp pins,PTs (bB X N' scope xs C s0 H0 fp pins) ifs tt)(he:∀ C s0 H0 fp pins,PE (bB X N' scope xs C s0 H0 fp pins) elt te)
  (hs:∀ x,foldedSetIterable iter X.env x=pure x:=by intro _;rfl):PE X (.ListComp elt [⟨tg,iter,ifs,0⟩] scope pos) (ko is k wi g tt te):=by
 intro pins s σ H Q I h;rw[eval_ListComp];exact zd (use:=none) (Qf:=EP X pins σ Q) xs caps is k ok hi hg ht he hs I h fun d C H' s' J m hm f nL s0 nC nP q=>⟨m,hm,fun h' sb=>⟨.ref d,H',J.turned (t':=s'.toks) (fun b o hb e=>(sb.2 b hb).trans e) f nL (.inr s0) nC nP,rfl,q⟩⟩
theorem oG (xs caps:List Str)(is:List Nat)(k:Nat)(ok:sR X N' scope xs caps is k)(hi:PI X tg iter wi)(hg:∀ C s0 H0 fp pins,PG (bB X N' scope xs C s0 H0 fp pins) tg g)(he:∀ C s0 H0 fp pins,PE (bB X N' scope xs C s0 H0 fp pins) elt te)
  (hs:∀ x,foldedSetIterable iter X.env x=pure x:=by intro _;rfl):PE X (.ListComp elt [⟨tg,iter,[],0⟩] scope pos) (vk is k wi g te):=by
 rw[ze];exact tR xs caps is k ok hi hg (fun _ _ _ _ _=>Cp) he hs
theorem yB (xs caps:List Str)(is:List Nat)(k:Nat)(ok:sR X N' scope xs caps is k)(hi:PI X tg iter wi)(hg:∀ C s0 H0 fp pins,PG (bB X N' scope xs C s0 H0 fp pins) tg g)(ht:∀ C s0 H0 fp pins,PT (bB X N' scope xs C s0 H0 fp pins) cnd tt)(he:∀ C s0 H0 fp pins,PE (bB X N' scope xs C s0 H0 fp pins) elt te)
  (hs:∀ x,foldedSetIterable iter X.env x=pure x:=by intro _;rfl):PE X (.ListComp elt [⟨tg,iter,[cnd],0⟩] scope pos) (ko is k wi g tt te) :=
 tR xs caps is k ok hi hg (fun C s0 H0 fp pins=>Co (ht C s0 H0 fp pins)) he hs
end
section
end
mutual
inductive Dat (H:Hp):V→PyData→Prop
 | non:Dat H .non .none
 | bl (b:Bool):Dat H (.bl b) (.bool b)
 | int (i:Int):Dat H (.int i) (.int i)
 | str (x:Str):Dat H (.str x) (.str x)
 | lst {a:Addr} {xs:List V} {ds:List PyData}:H a=some (.lst xs)→Dats H xs ds→Dat H (.ref a) (.list ds)
 | tup {a:Addr} {xs:List V} {ds:List PyData}:H a=some (.tup xs)→Dats H xs ds→Dat H (.ref a) (.tuple ds)
inductive Dats (H:Hp):List V→List PyData→Prop
 | nil:Dats H [] []
 | cons {x:V} {xs:List V} {d:PyData} {ds:List PyData}:Dat H x d→Dats H xs ds→Dats H (x::xs) (d::ds)
end
section
variable {P:Program}{w:World}{H:Hp}{h:Heap}
mutual
theorem Dat.reads (ok:HOk P w H h):∀ {x:V} {d:PyData} {u:Value},Dat H x d→aV x u→∃ as,Reads h u d as
 | _,_,u,.non,r=>by cases (show u=Value.none from r);exact⟨_,.none⟩
 | _,_,u,.bl b,r=>by cases (show u=Value.bool b from r);exact⟨_,.bool b⟩
 | _,_,u,.int i,r=>by obtain⟨t,rfl⟩:=r;exact⟨_,.int i t⟩
 | _,_,u,.str x,r=>by obtain⟨t,rfl⟩:=r;exact⟨_,.str x t⟩
 | _,_,u,.lst (a:=a) e q,r=>by
  cases (show u=Value.ref a from r);obtain⟨_,its,n,rv,g⟩:=ok a _ e;obtain⟨as,rs⟩:=Dats.reads ok q rv;exact⟨_,.list g rfl rfl rs⟩
 | _,_,u,.tup (a:=a) e q,r=>by
  cases (show u=Value.ref a from r);obtain⟨_,its,rv,o,g,c,n,dd⟩:=ok a _ e;obtain⟨as,rs⟩:=Dats.reads ok q rv;exact⟨_,.tuple g c dd rs⟩
theorem Dats.reads (ok:HOk P w H h):∀ {xs:List V} {ds:List PyData} {us:List Value},Dats H xs ds→aN xs us→∃ as,ReadsAll h us ds as
 | _,_,_,.nil,.nil=>⟨_,.nil⟩
 | _,_,_,.cons p q,.cons r s=>by
  obtain⟨as,x⟩:=Dat.reads ok p r;obtain⟨bs,y⟩:=Dats.reads ok q s;exact⟨_,.cons x y⟩
end
end
def Fm (neg:Bool):R2:=fun x y H Q=>∃ d1 d2,Dat H x d1∧Dat H y d2∧SeqAt.shaped d1=true∧SeqAt.shaped d2=true∧Q (.bl (if neg then !PyData.eqv d1 d2 else PyData.eqv d1 d2)) H
section
variable {X:Cx}
theorem vQ {k:Nat}(hr:cz k X.A):OpR X (compareOp .Eq) (Fm false):=by
 intro pins s σ H x y v u Q I rx ry h;obtain⟨d1,d2,p,q,s1,s2,h⟩:=h;obtain⟨as,r1⟩:=p.reads I.hok rx;obtain⟨bs,r2⟩:=q.reads I.hok ry;exact eq_dataH r1 r2 s1 s2 hr.units ⟨.bl _,H,I,rfl,h⟩
theorem D7 {k:Nat}(hr:cz k X.A):OpR X (compareOp .NotEq) (Fm true):=by
 intro pins s σ H x y v u Q I rx ry h;obtain⟨d1,d2,p,q,s1,s2,h⟩:=h;obtain⟨as,r1⟩:=p.reads I.hok rx;obtain⟨bs,r2⟩:=q.reads I.hok ry;exact ne_dataH r1 r2 s1 s2 hr.units ⟨.bl _,H,I,rfl,h⟩
end
end L2
namespace L2
open PySem PySem.Spec PyProof.Rows
variable {H:Hp}{X:Cx}{s:Shared}{pos:Pos}{prog:Program}{A:Around}{K:PySem.W.Frag}
section
end
section
theorem o0 (hK:X.K=K:=by rfl):IxR X (Fi K):=hK▸bc
theorem sd (hK:X.K=K:=by rfl):IxR X (Fh K):=hK▸aF
end
section
variable {σ0 cs:St}{k:Nat}{g:TG}{te:TE}{tt:TT}{H1:Hp}{Q:VK}
theorem uO {J:It}(n:Nat)(gv:Nat→V→Prop)(Pv:Addr→Nat→List V→Hp→Prop)(hn:n≤sizeLine)
  (hgo:∀ D i ys H,i < n→Pv D i ys H→J.go i H) (hst:∀ D ys H,Pv D n ys H→J.stop n H) (hy:∀ D i ys H x H',i < n→Pv D i ys H→J.yld i H x H'→H'=H∧gv i x)
  (hl:∀ D i ys H,Pv D i ys H→H D=some (.lst ys)∧ys.length≤i) (h0:∀ D,H1 D=none→Pv D 0 [] (upd H1 D (.lst [])))
  (hs:∀ D i x ys H,i < n→gv i x→H1 D=none→Pv D i ys H→g x σ0 H fun σ2 H3=>σ2.drop k=cs∧te σ2 H3 fun y H4=>H4 D=some (.lst ys)∧Pv D (i + 1) (ys++[y]) (upd H4 D (.lst (ys++[y]))))
  (hd:∀ D ys H,H1 D=none→Pv D n ys H→Q (.ref D) H) (mono:∀ x σ H (R R':St→Hp→Prop),(∀ σ' H',R σ' H'→R' σ' H')→g x σ H R→g x σ H R')
  (mono2:∀ σ H (R R':VK),(∀ v H',R v H'→R' v H')→te σ H R→te σ H R'):pK σ0 k cs g te Q J H1:=by
 intro D hD;refine⟨fun i m ys H=>m=n - i∧i≤n∧Pv D i ys H,⟨n,rfl,GF _,h0 D hD⟩,?_⟩;rintro i m ys H ⟨rfl,hi,p⟩;obtain⟨e1,e2⟩:=hl D i ys H p;refine⟨e1,?_⟩;by_cases hlt:i < n
 ·refine .inr ⟨hgo D i ys H hlt p,by lia,fun x H' y =>?_⟩;obtain⟨rfl,hx⟩:=hy D i ys H x H' hlt p y;refine mono _ _ _ _ _ (fun σ2 H3 ⟨z1,z2⟩=>⟨z1,mono2 _ _ _ _ (fun v H4 ⟨z3,z4⟩=>⟨z3,n - (i + 1),by lia,rfl,hlt,z4⟩) z2⟩) (hs D i x ys H' hlt hx hD p)
 ·have e:i=n:=by lia
  subst e;exact .inl ⟨hst D ys H p,hd D ys H hD p⟩
theorem zg {J:It}(n:Nat)(gv:Nat→V→Prop)(Pv:Addr→Nat→List V→Hp→Prop)(hn:n≤sizeLine)
  (hgo:∀ D i ys H,i < n→Pv D i ys H→J.go i H) (hst:∀ D ys H,Pv D n ys H→J.stop n H) (hy:∀ D i ys H x H',i < n→Pv D i ys H→J.yld i H x H'→H'=H∧gv i x)
  (hl:∀ D i ys H,Pv D i ys H→H D=some (.lst ys)∧ys.length≤i) (h0:∀ D,H1 D=none→Pv D 0 [] (upd H1 D (.lst [])))
  (hs:∀ D i x ys H,i < n→gv i x→H1 D=none→Pv D i ys H→g x σ0 H fun σ2 H3=>σ2.drop k=cs∧tt σ2 H3 fun b H4=>if b=true then te σ2 H4 fun y H5=>H5 D=some (.lst ys)∧Pv D (i + 1) (ys++[y]) (upd H5 D (.lst (ys++[y]))) else Pv D (i + 1) ys H4)
  (hd:∀ D ys H,H1 D=none→Pv D n ys H→Q (.ref D) H) (mono:∀ x σ H (R R':St→Hp→Prop),(∀ σ' H',R σ' H'→R' σ' H')→g x σ H R→g x σ H R')
  (mono2:∀ σ H (R R':VK),(∀ v H',R v H'→R' v H')→te σ H R→te σ H R') (mono3:∀ σ H (R R':Bool→Hp→Prop),(∀ v H',R v H'→R' v H')→tt σ H R→tt σ H R'):nW σ0 k cs g tt te Q J H1:=by
 intro D hD;refine⟨fun i m ys H=>m=n - i∧i≤n∧Pv D i ys H,⟨n,rfl,GF _,h0 D hD⟩,?_⟩;rintro i m ys H ⟨rfl,hi,p⟩;obtain⟨e1,e2⟩:=hl D i ys H p;refine⟨e1,?_⟩;by_cases hlt:i < n
 ·refine .inr ⟨hgo D i ys H hlt p,by lia,fun x H' y =>?_⟩;obtain⟨rfl,hx⟩:=hy D i ys H x H' hlt p y;refine mono _ _ _ _ _ (fun σ2 H3 ⟨z1,z2⟩=>⟨z1,mono3 _ _ _ _ (fun b H4 z =>?_) z2⟩) (hs D i x ys H' hlt hx hD p);cases b with
  | true =>
   rw[if_pos rfl]at z ⊢;exact mono2 _ _ _ _ (fun v H5 ⟨z3,z4⟩=>⟨z3,n - (i + 1),by lia,rfl,hlt,z4⟩) z
  | false =>
   rw[if_neg (by decide)]at z ⊢;exact⟨n - (i + 1),by lia,rfl,hlt,z⟩
 ·have e:i=n:=by lia
  subst e;exact .inl ⟨hst D ys H p,hd D ys H hD p⟩
theorem pL {a:Addr}(xs:List V)(Pv:Addr→Nat→List V→Hp→Prop)(hn:xs.length≤sizeLine)(hq:∀ D i ys H,Pv D i ys H→SqL K H a xs)
  (hl:∀ D i ys H,Pv D i ys H→H D=some (.lst ys)∧ys.length≤i) (h0:∀ D,H1 D=none→Pv D 0 [] (upd H1 D (.lst [])))
  (hs:∀ D i x ys H,xs[i]? = some x→H1 D=none→Pv D i ys H→g x σ0 H fun σ2 H3=>σ2.drop k=cs∧te σ2 H3 fun y H4=>H4 D=some (.lst ys)∧Pv D (i + 1) (ys++[y]) (upd H4 D (.lst (ys++[y]))))
  (hd:∀ D ys H,H1 D=none→Pv D xs.length ys H→Q (.ref D) H) (mono:∀ x σ H (R R':St→Hp→Prop),(∀ σ' H',R σ' H'→R' σ' H')→g x σ H R→g x σ H R')
  (mono2:∀ σ H (R R':VK),(∀ v H',R v H'→R' v H')→te σ H R→te σ H R'):pK σ0 k cs g te Q (Itl K a) H1 :=
 uO xs.length (fun i x=>xs[i]? = some x) Pv hn (fun D i ys H hi p=>⟨xs,xs[i],hq D i ys H p,by simp[hi]⟩) (fun D ys H p=>⟨xs,hq D _ ys H p,GB _⟩)
  (fun D i ys H x H' hi p y=>⟨y.1,y.2 xs (hq D i ys H p)⟩) hl h0 (fun D i x ys H hi hx hD p=>hs D i x ys H hx hD p) hd mono mono2
end
inductive Tr where
 | col (i:Int)
 | four (a b c d:Tr)
deriving DecidableEq
def Tr.data:Tr→PyData
 | .col i=>.int i
 | .four a b c d=>.tuple [a.data,b.data,c.data,d.data]
def Tr.deep:Tr→Nat
 | .col _=>0
 | .four a b c d=>max a.deep (max b.deep (max c.deep d.deep)) + 1
def Tr.isCol:Tr→Bool
 | .col _=>true
 | .four ..=>false
inductive bu (H:Hp):V→Tr→Prop
 | col (i:Int):bu H (.int i) (.col i)
 | four {p:Addr} {a b c d:V} {ta tb tc td:Tr}:H p=some (.tup [a,b,c,d])→bu H a ta→bu H b tb→bu H c tc→bu H d td→bu H (.ref p) (.four ta tb tc td)
def bO (H H':Hp):Prop:=∀ b xs,H b=some (.tup xs)→H' b=some (.tup xs)
theorem am.tups {H H':Hp}(s:am H H'):bO H H':=fun b xs e=>s b _ e
theorem bO.trans {H H' H'':Hp}(s:bO H H')(t:bO H' H''):bO H H'':=fun b xs e=>t b xs (s b xs e)
theorem bO.lst {H:Hp}{l:Addr}{xs ys:List V}(e:H l=some (.lst xs)):bO H (upd H l (.lst ys)):=fun b zs q=>by
 rw[aD (Dt q e (by intro z;cases z))];exact q
theorem bu.up {H H':Hp}(s:bO H H'):∀ {v:V} {t:Tr},bu H v t→bu H' v t
 | _,_,.col i=>.col i
 | _,_,.four e a b c d=>.four (s _ _ e) (bu.up s a) (bu.up s b) (bu.up s c) (bu.up s d)
theorem bu.dat {H:Hp}:∀ {v:V} {t:Tr},bu H v t→Dat H v t.data
 | _,_,.col i=>.int i
 | _,_,.four e a b c d=>.tup e (.cons a.dat (.cons b.dat (.cons c.dat (.cons d.dat .nil))))
theorem Tr.eqv:∀ t u:Tr,PyData.eqv t.data u.data=decide (t=u)
 | .col i,.col j=>by
  show (i == j)=_;by_cases h:i=j<;>simp[h]
 | .col i,.four ..=>by
  show false=_;simp
 | .four ..,.col j=>by
  show false=_;simp
 | .four a b c d,.four a' b' c' d'=>by
  show (PyData.eqv a.data a'.data && (PyData.eqv b.data b'.data && (PyData.eqv c.data c'.data && (PyData.eqv d.data d'.data && true))))=_;rw[Tr.eqv a a',Tr.eqv b b',Tr.eqv c c',Tr.eqv d d'];by_cases h1:a=a'<;>by_cases h2:b=b'<;>by_cases h3:c=c'<;>by_cases h4:d=d'<;>simp[h1,h2,h3,h4]
theorem Tr.lay:∀ t:Tr,t.data.canLay0=true
 | .col i=>rfl
 | .four a b c d=>by
  show (a.data.canLay0 && (b.data.canLay0 && (c.data.canLay0 && (d.data.canLay0 && true))))=true;rw[Tr.lay a,Tr.lay b,Tr.lay c,Tr.lay d];rfl
theorem Tr.depth:∀ t:Tr,t.data.depth=t.deep
 | .col i=>rfl
 | .four a b c d=>by
  show max a.data.depth (max b.data.depth (max c.data.depth (max d.data.depth 0))) + 1=_;rw[Tr.depth a,Tr.depth b,Tr.depth c,Tr.depth d,Nat.max_zero];rfl
theorem bu.ty {K:PySem.W.Frag}{H:Hp}{v:V}{t:Tr}(h:bu H v t):gF K H v (if t.isCol then .type "int" else .type "tuple"):=by
 cases h with
 | col i=>exact .int i
 | four e=>exact .tup e
section
variable {elt tg iter cnd:Expr}{ifs:List Expr}{scope:Scope}{N':List Str}{wi:TI}{g:TG}{te:TE}{tt:TT}
end
section
theorem xk:MtR X "str.find" (fun x vs H Q=>∃ z y,x=.str z∧vs=[.str y]∧Q (.int (Txt.find z y)) H):=by
 intro pins s σ H x vs v us Q I rx rv h;obtain⟨z,y,rfl,rfl,q⟩:=h;obtain⟨t,rfl⟩:=rx;obtain⟨u,rfl,tu,rfl⟩:=rv.one;exact SC.find ⟨.int _,H,I.tok _,⟨_,rfl⟩,q⟩
end
section
theorem Cu {K:PySem.W.Frag}{es:List Expr}{k:Nat}{t:TGs}{n:Nat}(hc:X.calm=true)(h:PGs X es t)(hK:X.K=K:=by rfl)
  (hn:(assignEach es X.env).length=n:=by rfl) (hst:(assignEach es X.env).findIdx? (·.1)=none:=by rfl):PG X (.Tuple es k pos) (FM K n t):=by
 subst hK;exact j8 hc h hn hst
end
def F5 (t:TS):TS:=fun D σ H=>∃ Pv:St→Hp→Prop,t { D with nx:=Pv } σ H∧∀ σ' H',Pv σ' H'→D.nx σ' H'
section
variable {st:Stmt}{t:TS}
theorem rG (h:PS X st t):PS X st (F5 t):=by
 intro pins s σ H D I ⟨Pv,h1,h2⟩;refine thn (h pins s σ H { D with nx:=Pv } I h1) fun f s1 q =>?_;cases f with
 | next =>
  obtain⟨σ',H',I',q⟩:=q;exact⟨σ',H',I',h2 _ _ q⟩
 | ret v=>exact q
 | brk=>exact q
 | cont=>exact q
end
section
variable {w:World}{E:Value→Shared→Prop}
end
section
variable {tg:Expr}
end
section
variable {σ0 cs:St}{k:Nat}{g:TG}{te:TE}{tt:TT}{H1:Hp}{Q:VK}
end
section
variable {o e:Expr}{es:List Expr}{to:TE}{t:TA}{name:Str}{apos cpos:Pos}{T id:String}{r:V→List V→Hp→VK→Prop}
end
end L2
namespace L2
open PySem PySem.Spec PySem.Calls PyProof.Rows
variable {H:Hp}{X:Cx}{s:Shared}{pos:Pos}{prog:Program}{A:Around}{K:PySem.W.Frag}
section
end
section
variable {σ0 cs:St}{k:Nat}{g:TG}{te:TE}{tt:TT}{H1:Hp}{Q:VK}
theorem zf {n:Nat}{g':Nat→V}(Pv:Addr→Nat→List V→Hp→Prop)(hn:n≤sizeLine)
  (hl:∀ D i ys H,Pv D i ys H→H D=some (.lst ys)∧ys.length≤i) (h0:∀ D,H1 D=none→Pv D 0 [] (upd H1 D (.lst [])))
  (hs:∀ D i ys H,i < n→H1 D=none→Pv D i ys H→g (g' i) σ0 H fun σ2 H3=>σ2.drop k=cs∧te σ2 H3 fun y H4=>H4 D=some (.lst ys)∧Pv D (i + 1) (ys++[y]) (upd H4 D (.lst (ys++[y]))))
  (hd:∀ D ys H,H1 D=none→Pv D n ys H→Q (.ref D) H) (mono:∀ x σ H (R R':St→Hp→Prop),(∀ σ' H',R σ' H'→R' σ' H')→g x σ H R→g x σ H R')
  (mono2:∀ σ H (R R':VK),(∀ v H',R v H'→R' v H')→te σ H R→te σ H R'):pK σ0 k cs g te Q (Itg n g') H1 :=
 uO n (fun i x=>x=g' i) Pv hn (fun D i ys H hi p=>hi) (fun D ys H p=>GB _)
  (fun D i ys H x H' hi p y=>y) hl h0 (fun D i x ys H hi hx hD p=>hx▸hs D i ys H hi hD p) hd mono mono2
end
section
end
structure jT (k:Nat)(A:Around):Prop where
 dp:A.depth + 3 * k + 5 < recursionLimit
 un:A.units + 16 * k + 200 < cLine
theorem jT.mono {j k:Nat}{A:Around}(r:jT k A)(h:j≤k):jT j A:=⟨by have:=r.dp;lia,by have:=r.un;lia⟩
theorem cz.inX {k:Nat}{X:Cx}{e:Addr}(r:cz k X.A):jT k (Xs X e).A:=⟨r.dp,r.un⟩
structure qa (P:Program)(w:World)(K:PySem.W.Frag)(mg:Str→Option Value)(base:Heap)(CX:CXT)(k:Nat)(f:Addr)(fd:FuncData)(ps:List Str)(sp:Sp):Prop where
 len:∀ vs H Q E,sp vs H Q E→vs.length=ps.length
 run:∀ (A:Around) (outer:List Env) (s:Shared) (H:Hp) (args:Args) (us:List Value) (vs:List V) (Q:VK) (E:XK),jT k A→wB P w K mg base A outer s H→BindsTo s fd args (ps.zip us)→aN vs us→sp vs H Q E →
  codeAny (model P w) A (.call (.ref f) args) (CR CX outer P w H s Q E) s
abbrev cxH (CX:CXT)(P:Program)(w:World)(K:PySem.W.Frag)(mg:Str→Option Value)(base:Heap)(N:List Str)(qual:Str)(scope:Scope)(f:Addr)(cd:Value)(A:Around)(outer:List Env)(s:Shared)(H:Hp)(E:XK):Cx :=
 { fS CX P w K mg base N qual scope f cd A outer s H E with calm:=false }
theorem wf {CX:CXT}{P:Program}{w:World}{K:PySem.W.Frag}{mg:Str→Option Value}{base:Heap}{N ps:List Str}{qual:Str}{scope:Scope}{f:Addr}{cd:Value}{A:Around}{outer:List Env}{s s1:Shared}{H:Hp}{E:XK}{us:List Value}{vs:List V}
  (S:az N ps scope) (e0:wB P w K mg base A outer s H) (hl:vs.length=ps.length) (r:aN vs us)
  (x:InCallC s s.heap.objs.size (bindL (envOfC qual scope s.heap.objs.size f cd).kindOf (ps.zip us) fun _=>none) (cellsFrom (s.heap.objs.size + 1) scope.names []) (bindC (envOfC qual scope s.heap.objs.size f cd).kindOf (ps.zip us) fun _=>none) s1) :
  Inv (cxH CX P w K mg base N qual scope f cd A outer s H E) [] (start N vs) H s1:=by
 have e0':wB P w K mg base { A with handled:=none } outer s H:=⟨e0.frames,e0.mod,e0.bs,e0.bsz,e0.funs,e0.frf,e0.hok,e0.bare⟩;have I:Inv (fS CX P w K mg base N qual scope f cd { A with handled:=none } outer s H E) [] (start N vs) H s1:=qI S rfl e0' hl r x;exact⟨⟨I.ok.mod,I.ok.kind,I.ok.glob,I.ok.blt,I.ok.above,I.ok.inj,I.ok.has,I.ok.cab,(fun z=>nomatch z),Around.frames_deeper e0.frames,I.ok.stk,I.ok.exf,I.ok.bs,I.ok.bsz,I.ok.noex,I.ok.exfs,I.ok.funs,I.ok.frf⟩,I.os,I.bare,I.base,I.loc,I.cell,I.free,I.freeC,I.pin,I.hok,I.len⟩
theorem EA {CX:CXT}{P:Program}{w:World}{K:PySem.W.Frag}{mg:Str→Option Value}{base:Heap}{k:Nat}{f:Addr}{name qual:Str}{params:Arguments}{body:List Stmt}{scope:Scope}{dV kV doc pm cdv ct oc:Value}{an od:Option Addr}
  {osl:Array (Option Value)} {N ps:List Str} {sp:Sp} (lk:K.lookup f=some ⟨oc,od,.func (PySem.W.fnOf name qual params body scope dV kV doc pm an cdv ct),osl⟩) (hcd:PySem.W.codeIn K cdv qual=true) (S:az N ps scope)
  (len:∀ vs H Q E,sp vs H Q E→vs.length=ps.length)
  (hbody:∀ (A:Around) (outer:List Env) (s:Shared) (H:Hp) (vs:List V) (Q:VK) (E:XK),jT k (A.deeper (envOfC qual scope s.heap.objs.size f cdv))→sp vs H Q E →
   ∃ t,PSs (cxH CX P w K mg base N qual scope f cdv A outer s H E) body t∧t { nx:=fun _ H'=>Q .non H',rt:=Q } (start N vs) H) :
  qa P w K mg base CX (k + 1) f (PySem.W.fnOf name qual params body scope dV kV doc pm an cdv ct) ps sp:=by
 refine⟨len,fun A outer s H args us vs Q E hr e0 hb r hsp =>?_⟩;have hl:=len _ _ _ _ hsp;have KX:K.In s.heap:=e0.mod.kin.keeps fun b o e=>(e0.bs b o e).1;have lim:s.heap.NoLimit:=e0.mod.nolimit.keeps fun b o e=>(e0.bs b o e).1;have hkind:∀ y∈ps.zip us,scope.names.lookup y.1=some .local∨(scope.names.lookup y.1=some .cell∧((cellsFrom (s.heap.objs.size + 1) scope.names []).lookup y.1).isSome=true):=fun⟨n,v⟩ hy=>by
  rcases S.par n (ID hy).1 with q|q
  ·exact .inl q
  ·exact .inr ⟨q,PySem.W.cellsFrom_some _ _ _ (.inl q)⟩
 have dpt:A.depth < recursionLimit:=by have:=hr.dp;lia
 have rd:jT k (A.deeper (envOfC qual scope s.heap.objs.size f cdv)):=⟨by have:=hr.dp;show A.depth + 1 + 3 * k + 5 < _;lia,by have:=hr.un;show A.units + 3 + 16 * k + 200 < _;lia⟩;refine codeAny_call_function dpt (KX _ _ lk) rfl S.co S.gen rfl (PySem.W.codeRec_of KX hcd) (hb _ _ _ _ ?_);refine wpAny_newFunctionEnv_cells S.kind hkind fun env he s1 x =>?_;subst he;refine⟨lim.keeps x.toInCall.keep,codeAny_func ?_⟩;obtain⟨t,ht,hq⟩:=hbody A outer s H vs Q E rd hsp;have I:Inv (cxH CX P w K mg base N qual scope f cdv A outer s H E) [] (start N vs) H s1:=wf S e0 hl r x;refine Ho (ht [] s1 (start N vs) H _ I hq) (fun fl s' hs =>?_) fun e s' hs=>hs;have fin:∀ {σ':St} {H':Hp} {v:V} {u:Value},Inv (cxH CX P w K mg base N qual scope f cdv A outer s H E) [] σ' H' s'→aV v u→Q v H'→CE outer P w H s Q u s' :=
  fun {σ' H' v u} J rv q=>⟨v,H',J.os,J.bare,J.base,J.hok,rv,q⟩
 cases fl with
 | ret u =>
  obtain⟨v,σ',H',J,rv,q⟩:=hs;exact fin J rv q
 | next =>
  obtain⟨σ',H',J,q⟩:=hs;exact fin (v:=V.non) (u:=Value.none) J rfl q
 | brk =>
  obtain⟨_,_,_,q⟩:=hs;exact False.elim q
 | cont =>
  obtain⟨_,_,_,q⟩:=hs;exact False.elim q
section
variable {P:Program}{w:World}{mg:Str→Option Value}{base:Heap}
theorem aT.okH {x qual:Str}{st:Stmt}{f:Addr}{fd:FuncData}{dV:Value}{N ps:List Str}{k:Nat}{sp:Sp}{CX:CXT}(F:aT K x qual st f fd dV)(S:az N ps (aj st))(len:∀ vs H Q E,sp vs H Q E→vs.length=ps.length)
  (hbody:∀ (cdv:Value) (A:Around) (outer:List Env) (s:Shared) (H:Hp) (vs:List V) (Q:VK) (E:XK),jT k (A.deeper (envOfC qual (aj st) s.heap.objs.size f cdv))→sp vs H Q E →
   ∃ t,PSs (cxH CX P w K mg base N qual (aj st) f cdv A outer s H E).nox (aY st) t∧t { nx:=fun _ H'=>Q .non H',rt:=Q } (start N vs) H):qa P w K mg base CX (k + 1) f fd ps sp:=by
 obtain⟨oc,od,kV,doc,pm,an,cdv,ct,osl,rfl,lk,hcd⟩:=F.ex;refine EA lk hcd S len fun A outer s H vs Q E hr hsp =>?_;obtain⟨t,h,q⟩:=hbody cdv A outer s H vs Q E hr hsp;exact⟨t,h.nox,q⟩
structure Dm (P:Program)(w:World)(K:PySem.W.Frag)(mg:Str→Option Value)(base:Heap)(CX:CXT)(j:Nat)(x:Str)(ps:List Str)(sp:Sp):Prop where
 ex:∃ f fd,qa P w K mg base CX j f fd ps sp∧cL K fd ps []∧PySem.W.keepIn K (.ref f)=true∧mg x=some (.ref f)
theorem Gn {CX:CXT}{j:Nat}{x qual:Str}{st:Stmt}{f:Addr}{fd:FuncData}{dV:Value}{ps:List Str}{sp:Sp}(F:aT K x qual st f fd dV)(G:qa P w K mg base CX j f fd ps sp)(b:cL K fd ps [])(m:mg x=some (.ref f)):
  Dm P w K mg base CX j x ps sp:=⟨f,fd,G,b,F.kp,m⟩
end
section
variable {CX:CXT}{j k:Nat}{ps:List Str}{sp:Sp}{x:Str}{p:Pos}{e:Expr}{es:List Expr}{t:TA}
theorem At (F:Dm X.prog X.w X.K X.mg X.base CX j x ps sp)(q:br CX)(hr:jT k X.A)(ha:PA X (e::es) t)(hj:j≤k:=by decide)(hg:Gl X x:=by rfl)
  (hdb:(x == ("__debug__" : Str))=false:=by decide) (he:starEach (e::es) X.env=(false,eval e X.env)::starEach es X.env:=by rfl) (hpl:(backTo pos (starEach es X.env)).any (·.1)=false:=by rfl) :
  PE X (.Call (.Name x p) (e::es) [] pos) (wF sp [] E0 t):=by
 obtain⟨f,fd,G,b,kp,m⟩:=F.ex;intro pins s σ H Q I h;refine wpAny_Call_Name_kw (jG I hg m ?_ hdb);refine PySem.W.callWith_K (h₀:=X.base) I.ok.mod.kin kp (thn (ha pos pins s σ H _ I h) fun us s1 ⟨vs,H1,I1,r,z⟩=>⟨I1.kIn,?_⟩) he hpl;have r2:aN (vs++[]) (us++[]):=by simpa using r
 have hl:(us++([]:List Value)).length=ps.length:=by rw[← r2.length];exact G.len _ _ _ _ z
 refine wpAny_call (codeAny_mono (G.run X.A X.stack s1 H1 ⟨us,[]⟩ (us++[]) (vs++[]) Q E0 (hr.mono hj) I1.env0 (b s1 us I1.kIn hl) r2 z) fun r s' hq =>?_);cases r with
 | error e=>exact (q _ _ _ _ _ hq).elim
 | ok fl =>
  cases fl with
  | ret u=>exact I1.after hq
  | next=>exact False.elim hq
  | brk=>exact False.elim hq
  | cont=>exact False.elim hq
theorem pI {x:V}:∀ {xs:List V} {us:List Value},aN xs us→xs.all d9=true→us.countP (eqU x)=xs.countP fun y=>eqV y x
 | _,_,.nil,_=>rfl
 | y::xs,u::us,.cons r t,f=>by
  rw[Jo,HE]at f;rw[Ji,Ji,sw r f.1,pI t f.2]
theorem AQ:MtR X "list.count" (fun x vs H Q=>∃ l y xs,x=.ref l∧vs=[y]∧H l=some (.lst xs)∧d9 y=true∧xs.all d9=true∧Q (.int ((xs.countP fun z=>eqV z y:Nat):Int)) H):=by
 intro pins s σ H x vs v us Q I rx rv h;obtain⟨l,y,xs,rfl,rfl,hH,fy,fx,q⟩:=h;cases rx;obtain⟨u,rfl,ru⟩:=rv.one;obtain⟨z,its,n,r,hl,e⟩:=I.lstM hH;refine call_meets F.slot_list_count ⟨_,e,rfl⟩ F.entry_list_count (F.args_list_count_2 _ _) (SeqAt.list_countAt l its.toArray n none #[] u (eqU y)) ⟨e,fun v hv=>jr ru fy r fx v (by simpa using hv),?_⟩;exact⟨.int _,H,I.tok _,⟨_,rfl⟩,by rw[show its.toArray.toList=its from rfl,pI r fx];exact q⟩
theorem aN.getD {xs:List V}{us:List Value}(r:aN xs us){i:Nat}(h:i < us.length):∃ y,xs[i]? = some y∧aV y us[i]:=by
 have h':i < xs.length:=by rw[r.length];exact h
 obtain⟨u,hu,ru⟩:=r.get (G0 h');exact⟨_,G0 h',by rw[G0 h]at hu;cases hu;exact ru⟩
theorem yO:MtR X "list.index" (fun x vs H Q=>∃ (l:Addr) (y:V) (xs:List V) (j:Nat) (w:V),x=.ref l∧vs=[y]∧H l=some (.lst xs)∧d9 y=true∧xs.all d9=true∧xs[j]? = some w∧eqV w y=true∧(∀ (i:Nat) (v:V),i < j→xs[i]? = some v→eqV v y=false)∧Q (.int (j:Int)) H):=by
 intro pins s σ H x vs v us Q I rx rv h;obtain⟨l,y,xs,j,wv,rfl,rfl,hH,fy,fx,hj,hit,hno,q⟩:=h;cases rx;obtain⟨u,rfl,ru⟩:=rv.one;obtain⟨z,its,n,r,hl,e⟩:=I.lstM hH;have flat:∀ (i:Nat) (v:V),xs[i]? = some v→d9 v=true:=fun i v hv=>Jj.mp fx v (GW hv);have hjl:j < xs.length:=by
  rcases Je j xs.length with h|h
  ·exact h
  ·rw[List.getElem?_eq_none h]at hj;cases hj
 have hj':j < its.toArray.size:=by rw[GR];lia
 have key:∀ m (hm:m < its.toArray.size),∃ v,xs[m]? = some v∧eqU y its.toArray[m]=eqV v y:=fun m hm=>by
  obtain⟨v,hv,rv⟩:=aN.getD r (i:=m) (by simpa using hm);exact⟨v,hv,by rw[show its.toArray[m]=its[m]'(by simpa using hm) by simp];exact sw rv (flat m v hv)⟩
 refine call_meets F.slot_list_index ⟨_,e,rfl⟩ F.entry_list_index (F.args_list_index_2 _ _) (SeqAt.list_indexAt l its.toArray n none #[] u (eqU y) j hj' ?_ ?_ ?_) ⟨e,fun v hv=>jr ru fy r fx v (by simpa using hv),?_⟩
 ·have:sizeLine < 2 ^ 62:=by decide
  have h63:((2:Int) ^ 63)=9223372036854775808:=by decide
  have h62:(2:Nat) ^ 62=4611686018427387904:=by decide
  rw[h63];lia
 ·obtain⟨v,hv,e1⟩:=key j hj';rw[e1];rw[hj]at hv;cases hv;exact hit
 ·intro m hm hlt;obtain⟨v,hv,e1⟩:=key m hm;rw[e1];exact hno m v hlt hv
 ·exact⟨.int _,H,I.tok _,⟨_,rfl⟩,q⟩
def we:V→Bool
 | .str _=>true
 | _=>false
theorem lB {A:Around}{s:Shared}{a:Addr}(hu:A.units < cLine)(h:(∃ is,s.heap.IsList a is)∨(∃ is,s.heap.IsTuple a is)):∀ {xs:List V} {us:List Value},aN xs us→xs.all we=true→∀ u∈us,SeqAt.EqAt A s u (.ref a) false
 | _,_,.nil,_=>fun u hu=>by cases hu
 | y::xs,u::us,.cons r t,f=>fun u' hu'=>by
  rw[Jo,HE]at f;rcases GU.mp hu' with rfl | hu'
  ·cases y with
   | str z =>
    obtain⟨t,rfl⟩:=r;rcases h with⟨is,h⟩|⟨is,h⟩
    ·exact SeqAt.EqAt.str_list z t h hu
    ·exact SeqAt.EqAt.str_tuple z t h hu
   | _=>exact absurd f.1 (by simp[we])
  ·exact lB hu h t f.2 u' hu'
theorem qZ {us:List Value}:us.any (fun _=>false)=false:=by induction us with
 | nil=>rfl
 | cons a r ih=>rw[IU,ih];rfl
def Gc (K:PySem.W.Frag)(neg:Bool):R2:=fun x y H Q=>∃ p xs,y=.ref p∧(SqL K H p xs∨SqT K H p xs)∧((d9 x=true∧xs.all d9=true∧Q (.bl (if neg then !inV x xs else inV x xs)) H)∨(∃ a ys,x=.ref a∧(SqL K H a ys∨SqT K H a ys)∧xs.all we=true∧Q (.bl neg) H))
theorem D8 {k:Nat}(hr:cz k X.A):OpR X (compareOp .In) (Gc X.K false):=by
 intro pins s σ H x y v u Q I rx ry h;obtain⟨p,xs,rfl,hq,h⟩:=h;rcases h with⟨fx,fs,q⟩ | ⟨a,ys,rfl,ha,fs,q⟩
 ·exact yG pins s σ H x _ v u Q I rx ry ⟨p,xs,rfl,hq,fx,fs,q⟩
 cases ry;cases rx;have hu:X.A.in1.units < cLine:=by have:=hr.un;show X.A.units + 1 < cLine;lia
 have hs:(∃ is,s.heap.IsList a is)∨(∃ is,s.heap.IsTuple a is):=by
  rcases ha with ha|ha
  ·obtain⟨its,_,pl,_⟩:=I.list ha;exact .inl ⟨_,pl.isList⟩
  ·obtain⟨its,_,pl,_⟩:=I.tuple ha;exact .inr ⟨_,pl⟩
 rcases hq with hq|hq
 ·obtain⟨its,r,pl,hz⟩:=I.list hq;refine SeqAt.in_listAt (fun _=>false) pl.isList (fun w hw=>lB hu hs r fs w (by simpa using hw)) ⟨.bl _,H,I,rfl,?_⟩;rw[show its.toArray.any (fun _=>false)=its.any (fun _=>false) by simp,qZ];exact q
 ·obtain⟨its,r,pl,hz⟩:=I.tuple hq;refine SeqAt.in_tupleAt (fun _=>false) pl (fun w hw=>lB hu hs r fs w (by simpa using hw)) ⟨.bl _,H,I,rfl,?_⟩;rw[show its.toArray.any (fun _=>false)=its.any (fun _=>false) by simp,qZ];exact q
end
end L2
namespace Qs
open PySem L2
theorem cR (z:Str):z.length=z.cps.toList.length:=by
 show z.cps.size=z.cps.toList.length;rw[G5]
def IsC (z:Str):Prop:=∀ c∈z.cps.toList,48≤c∧c≤51
def dig (z:Str):List Nat:=z.cps.toList.map (· - 48)
def cxs (ds:List Nat):Nat:=ds.foldl (fun a d=>a * 2 + d % 2) 0
def cys (ds:List Nat):Nat:=ds.foldl (fun a d=>a * 2 + d / 2) 0
theorem uL (ds:List Nat)(d:Nat):cxs (ds++[d])=cxs ds * 2 + d % 2:=by simp[cxs]
theorem uK (ds:List Nat)(d:Nat):cys (ds++[d])=cys ds * 2 + d / 2:=by simp[cys]
theorem cP (z:Str):(dig z).length=z.length:=by simp[dig,cR]
theorem sA {z:Str}{i:Nat}(h:i < z.length):(dig z)[i]? = some (z.cps.getD i 0 - 48):=by
 have h':i < z.cps.size:=h;simp[dig,Hs,h']
theorem uH {z:Str}{i:Nat}(h:i < z.length):(dig z).take (i + 1)=(dig z).take i++[z.cps.getD i 0 - 48]:=by
 rw[List.take_succ,sA h];rfl
theorem rm {z:Str}{i:Nat}(hz:IsC z)(h:i < z.length):48≤z.cps.getD i 0∧z.cps.getD i 0≤51:=by
 have h':i < z.cps.size:=h;refine hz _ ?_;have e:z.cps.getD i 0=z.cps[i]:=by simp[Hs,h']
 rw[e];exact Array.getElem_mem_toList h'
def one (d:Nat):Str:=⟨#[48 + d]⟩
theorem kB {z:Str}{i:Nat}(hz:IsC z)(h:i < z.length):∃ d,d < 4∧sgn z i=one d∧z.cps.getD i 0 - 48=d:=by
 obtain⟨h1,h2⟩:=rm hz h;refine⟨z.cps.getD i 0 - 48,by lia,?_,rfl⟩;unfold sgn one;have e:48 + (z.cps.getD i 0 - 48)=z.cps.getD i 0:=by lia
 rw[e]
theorem four {P:Nat→Prop}(h0:P 0)(h1:P 1)(h2:P 2)(h3:P 3){d:Nat}(h:d < 4):P d:=by
 rcases d with _|_|_|_|d
 ·exact h0
 ·exact h1
 ·exact h2
 ·exact h3
 ·lia
theorem kN {d:Nat}(h:d < 4):PySem.intText? (one d)=some (d:Int) :=
 four (P:=fun d=>PySem.intText? (one d)=some (d:Int)) (by decide +kernel) (by decide +kernel) (by decide +kernel) (by decide +kernel) h
theorem IsC.nil:IsC ⟨#[]⟩:=fun c h=>by simp at h
theorem IsC.app {a b:Str}(ha:IsC a)(hb:IsC b):IsC (a++b):=fun c h=>by
 have e:(a++b).cps.toList=a.cps.toList++b.cps.toList:=by
  show (a.cps++b.cps).toList=_;simp
 rw[e]at h;rcases GS.mp h with h | h
 ·exact ha c h
 ·exact hb c h
theorem IsC.one {d:Nat}(h:d < 4):IsC (one d):=fun c hc=>by
 have e:c=48 + d:=by simpa[Qs.one] using hc
 lia
end Qs
namespace L2
open PySem PySem.Spec PyProof.Rows
variable {H:Hp}{X:Cx}{s:Shared}{pos:Pos}{prog:Program}{A:Around}{K:PySem.W.Frag}
section
theorem xg {x:Str}{i:Int}{pos:Pos}(h:∃ t,X.mg x=some (.int i t))(hg:Gl X x:=by rfl)(hd:(x == ("__debug__" : Str))=false:=by decide):PE X (.Name x pos) (tC (.int i)):=by
 obtain⟨t,h⟩:=h;exact bJ hg h ⟨t,rfl⟩ hd
theorem Cz {x z:Str}{pos:Pos}(h:∃ t,X.mg x=some (.str z t))(hg:Gl X x:=by rfl)(hd:(x == ("__debug__" : Str))=false:=by decide):PE X (.Name x pos) (tC (.str z)):=by
 obtain⟨t,h⟩:=h;exact bJ hg h ⟨t,rfl⟩ hd
theorem cQ {x:Str}{n:String}{pos:Pos}(hm:X.mg x=none)(hv:bootBuiltins x=some (.type n))(hg:Gl X x:=by rfl)(hn:x ≠ "__name__" := by decide)(hd:(x == ("__debug__" : Str))=false:=by decide):PE X (.Name x pos) (tC (.ty n)) :=
 CC hg hm hv rfl hn hd
end
theorem am.new {H:Hp}{p:Addr}(h:H p=none)(o:HO):am H (upd H p o):=fun b u q=>by rw[aD (aZ q h)];exact q
theorem am.set {H:Hp}{H':Hp}{p:Addr}(h:am H H')(hp:H p=none)(o:HO):am H (upd H' p o):=fun b u q=>by rw[aD (aZ q hp)];exact h b u q
theorem Ge {k:Nat}(h:k≤63):-(2 ^ 64) < ((2 ^ k:Nat):Int)∧((2 ^ k:Nat):Int) < 2 ^ 64:=by
 have h1:=Nat.pow_le_pow_right (show 0 < 2 by decide) h;generalize (2 ^ k:Nat)=m at h1
 lia
theorem small {n:Nat}(h:n≤1000):n≤sizeLine:=HU (yc h)
def kI:PySem.Expr→Bool
 | .Starred _ _=>false
 | _=>true
theorem B9 {e:PySem.Expr}{es:List PySem.Expr}{env:Env}(h:kI e=true):starEach (e::es) env=(false,eval e env)::starEach es env:=by
 cases e<;>first | rfl | (cases h)
theorem Fp {X:Cx}{e:PySem.Expr}{es:List PySem.Expr}{te:TE}{t:TA}(ha:PE X e te)(hr:PA X es t)(h:kI e=true:=by rfl):PA X (e::es) (tf te t):=aa ha hr (B9 h)
theorem Ap {X:Cx}{pos:Pos}{k v:PySem.Expr}{tk tv:TE}(hk:PE X k tk)(hv:PE X v tv):PE X (.Dict [some k] [v] pos) (Dq [(tk,tv)]) :=
 CA (Ah hk hv Cs) rfl rfl (by simp) (by show 1≤15;decide)
structure PAx (X:Cx)(es:List PySem.Expr)(t:TA):Prop where
 h:PA X es t
section
variable {e:PySem.Expr}{es:List PySem.Expr}{te:TE}{t:TA}
theorem aA:PAx X [] x8:=⟨af⟩
theorem ay (ha:PE X e te)(hr:PAx X es t)(h:kI e=true:=by rfl):PAx X (e::es) (tf te t):=⟨Fp ha hr.h h⟩
theorem aL {x1}(h:PAx X es t):PE X (.Tuple es x1 pos) (DI t):=Ak h.h
theorem bh (h:PAx X es t):PE X (.List es pos) (DM t):=An h.h
end
end L2
namespace L2
open PySem PySem.Spec PySem.Calls PyProof.Rows
variable {H:Hp}{X:Cx}{s:Shared}{pos:Pos}{prog:Program}{A:Around}{K:PySem.W.Frag}
def wo:PySem.Expr→Option V
 | .Constant (.int i) _ _=>some (.int i)
 | .Constant (.bool b) _ _=>some (.bl b)
 | .Constant .none _ _=>some .non
 | .Constant (.str x) _ _=>some (.str x)
 | _=>none
def kX:List PySem.Expr→Option (List V)
 | []=>some []
 | e::es=>match wo e with
  | none=>none
  | some v=>match kX es with
   | none=>none
   | some vs=>some (v::vs)
section
theorem BB {e:PySem.Expr}{v:V}(h:wo e=some v):PE X e (tC v)∧kI e=true:=by
 unfold wo at h
 split at h
 ·cases h;exact⟨ae,rfl⟩
 ·cases h;exact⟨gT,rfl⟩
 ·cases h;exact⟨lU,rfl⟩
 ·cases h;exact⟨cm,rfl⟩
 ·cases h
abbrev E6 (vs:List V)(t:TA):TA:=fun σ H Q=>t σ H fun xs H'=>Q (vs++xs) H'
def tKs (vs:List V):TA:=fun _ H Q=>Q vs H
theorem vO:∀ (es1 es2:List PySem.Expr) (vs:List V) (t:TA),kX es1=some vs→PA X es2 t→PA X (es1++es2) (E6 vs t)
 | [],es2,vs,t,h,k=>by
  have e:vs=[]:=(Option.some.inj h).symm;subst e;intro pos pins s σ H Q I q;exact k pos pins s σ H _ I q
 | e::es1,es2,vs,t,h,k=>by
  unfold kX at h
  split at h
  ·cases h
  ·rename_i v hv
   split at h
   ·cases h
   ·rename_i ws hw
    cases h;obtain⟨h1,h2⟩:=BB (X:=X) hv;intro pos pins s σ H Q I q;exact Fp h1 (vO es1 es2 ws t hw k) h2 pos pins s σ H Q I q
theorem Fn {es:List PySem.Expr}{vs:List V}{t:TA}(n:Nat)(hk:kX (es.take n)=some vs)(hr:PAx X (es.drop n) t):PAx X es (E6 vs t):=⟨by
 have h:=vO (X:=X) (es.take n) (es.drop n) vs t hk hr.h;rw[Hi]at h;exact h⟩
theorem CD {es:List PySem.Expr}{vs:List V}(hk:kX es=some vs):PAx X es (tKs vs):=⟨by
 have h:=vO (X:=X) es [] vs x8 hk af;rw[Hw]at h;intro pos pins s σ H Q I q;refine h pos pins s σ H Q I ?_;show Q (vs++[]) H;rw[Hw];exact q⟩
end
def CN:PySem.Expr→Bool
 | .ListComp _ _ _ _=>false
 | .SetComp _ _ _ _=>false
 | .DictComp _ _ _ _ _=>false
 | _=>true
theorem dS {e:PySem.Expr}{t:Option PySem.Expr}{l:Nat}{env:Env}(h:CN e=true):swapsWith e t l env=pure false:=by
 cases e<;>first | rfl | (cases h)
structure PEx (X:Cx)(e:PySem.Expr)(t:TE):Prop where
 h:PE X e t
structure PSx (X:Cx)(st:Stmt)(t:TS):Prop where
 h:PS X st t
structure uZ (X:Cx)(st:List Stmt)(t:TS):Prop where
 h:PSs X st t
section
variable {st:Stmt}{rest:List Stmt}{t u:TS}
theorem kD (h:PSx X st t):uZ X [st] t:=⟨ag h.h⟩
theorem dJ (h1:PSx X st t)(h2:uZ X rest u):uZ X (st::rest) (x6 t u):=⟨ac h1.h h2.h⟩
theorem nE {es:List PySem.Expr}{ta:TA}{pos:Pos}(h:PAx X es ta):PEx X (.List es pos) (DM ta):=⟨An h.h⟩
theorem w_ {i:Nat}{x:Str}{es:List PySem.Expr}{lp:Pos}{te:TE}{pos pos':Pos}(hN:X.N.Nodup)(hi:X.N[i]? = some x)(hx:Loc X.env.scope x)(he:PEx X (.List es lp) te)
  (hf:X.fn x=true∨X.env.scope.names.lookup x=some .local:=by first | exact .inl rfl | exact .inr rfl | assumption):PSx X (.Assign [.Name x pos'] (.List es lp) pos) (B6 te (py i)) :=
 ⟨vK hN hi hx he.h (dS rfl) hf⟩
end
section
variable {P:Program}{w:World}{mg:Str→Option Value}{base:Heap}
theorem aT.oks {x qual:Str}{st:Stmt}{f:Addr}{fd:FuncData}{dV:Value}{N ps:List Str}{k:Nat}{sp:Sp}{CX:CXT}(F:aT K x qual st f fd dV)(S:az N ps (aj st))(len:∀ vs H Q E,sp vs H Q E→vs.length=ps.length)
  (hbody:∀ (cdv:Value) (A:Around) (outer:List Env) (s:Shared) (H:Hp) (vs:List V) (Q:VK) (E:XK),cz k (A.deeper (envOfC qual (aj st) s.heap.objs.size f cdv))→sp vs H Q E →
   ∃ t,uZ (fS CX P w K mg base N qual (aj st) f cdv A outer s H E).nox (aY st) t∧t { nx:=fun _ H'=>Q .non H',rt:=Q } (start N vs) H):bd P w K mg base CX (k + 1) f fd ps sp :=
 F.ok S len fun cdv A outer s H vs Q E hr h=>by
  obtain⟨t,h1,h2⟩:=hbody cdv A outer s H vs Q E hr h;exact⟨t,h1.h,h2⟩
theorem aT.okHs {x qual:Str}{st:Stmt}{f:Addr}{fd:FuncData}{dV:Value}{N ps:List Str}{k:Nat}{sp:Sp}{CX:CXT}(F:aT K x qual st f fd dV)(S:az N ps (aj st))(len:∀ vs H Q E,sp vs H Q E→vs.length=ps.length)
  (hbody:∀ (cdv:Value) (A:Around) (outer:List Env) (s:Shared) (H:Hp) (vs:List V) (Q:VK) (E:XK),jT k (A.deeper (envOfC qual (aj st) s.heap.objs.size f cdv))→sp vs H Q E →
   ∃ t,uZ (cxH CX P w K mg base N qual (aj st) f cdv A outer s H E).nox (aY st) t∧t { nx:=fun _ H'=>Q .non H',rt:=Q } (start N vs) H):qa P w K mg base CX (k + 1) f fd ps sp :=
 F.okH S len fun cdv A outer s H vs Q E hr h=>by
  obtain⟨t,h1,h2⟩:=hbody cdv A outer s H vs Q E hr h;exact⟨t,h1.h,h2⟩
end
section
end
namespace HT
section
variable {w:World}{E:Value→Shared→Prop}
end
end HT
section
theorem oH {e:PySem.Expr}{es:List PySem.Expr}{te:TE}{t:TA}(ha:PEx X e te)(hr:PAx X es t)(h:kI e=true:=by rfl):PAx X (e::es) (tf te t):=ay ha.h hr h
theorem Cv {es:List PySem.Expr}{ta:TA}{x1}{pos:Pos}(h:PAx X es ta):PEx X (.Tuple es x1 pos) (DI ta):=⟨Ak h.h⟩
end
section
variable {σ0 cs:St}{k:Nat}{g:TG}{te:TE}{H1:Hp}{Q:VK}
end
section
end
section
variable {w:World}{E:Value→Shared→Prop}
end
section
variable {pins:List (Addr × Obj)}{σ:St}
end
end L2
namespace L2
open PySem PySem.Spec PySem.Calls PyProof.Rows PySem.W
variable {H:Hp}{X:Cx}{s:Shared}{pos:Pos}{prog:Program}{A:Around}{K:PySem.W.Frag}
section
variable {N:Nat}{f:Nat→Int}
end
section
variable {w:World}{E:Value→Shared→Prop}
end
theorem mh:bootBuiltins "sorted" = some (.builtin "sorted"):=by decide +kernel
section
variable {pins:List (Addr × Obj)}{σ:St}{H':Hp}{h':Heap}
theorem Inv.laids {t':Nat}(I:Inv X pins σ H s)(k:∀ b u,s.heap.get? b=some u→h'.get? b=some u)(sm:am H H')
  (new:∀ b u,H' b=some u→H b=none→s.heap.objs.size≤b∧bo X.prog X.w H' h' b u):Inv X pins σ H' { s with heap:=h',toks:=t' }:=by
 refine I.un ⟨fun b u q _ _ _=>k b u q,fun b u q _ _ _=>⟨u.slots,k b u q⟩,fun b u q n _ =>?_,fun b u q _=>⟨u,k b u q⟩,fun b xs q=>sm _ _ q,fun b u xs q=>sm _ _ q,fun b ps q=>⟨#[],by rw[sm _ _ q];simp⟩⟩ fun b u e =>?_
 ·cases e:H' b with
  | none=>rfl
  | some u'=>exact absurd (GK (GJ q) (new b u' e n).1) (H_ _)
 ·cases q:H b with
  | none=>exact (new b u e q).2
  | some u' =>
   have:=sm _ _ q
   rw[e]at this;cases this;exact (I.hok b u q).stay (fun c v _ q=>k c v q) (fun c q=>sm _ _ q) fun c xs q=>sm _ _ q
theorem iO {h:Heap}{vs:List Value}{out:Array Value}{b:Addr}{o:Obj}(e:h.get? b=some o):(sortedHeap (h.push (seqObj "list" vs.toArray 0)) h.objs.size vs out).get? b=some o:=by
 rw[sortedHeap_old (G3 (GJ e)) (by rw[size_push'];exact Nat.lt_succ_of_lt (GJ e))];exact Gx _ e
theorem jO {h:Heap}{vs:List Value}{out:Array Value}:∃ n,(sortedHeap (h.push (seqObj "list" vs.toArray 0)) h.objs.size vs out).get? h.objs.size=some (seqObj "list" out n) :=
 sortedHeap_at (n:=0) (GQ _ rfl)
theorem kL {α:Type}{b:Addr}{e:α}:∀ {as:List Addr} {es:List α},(as.zip es).lookup b=some e→∃ j:Nat,as[j]? = some b∧es[j]? = some e
 | [],_,h=>by simp at h
 | _::_,[],h=>by simp at h
 | a::as,x::es,h=>by
  rw[List.zip_cons_cons,Iz]at h;cases q:b == a with
  | true =>
   rw[q]at h
   have:b=a:=by simpa using q
   exact⟨0,by simp[this],by simpa using h⟩
  | false =>
   rw[q]at h;obtain⟨j,h1,h2⟩:=kL h;exact⟨j + 1,by simpa using h1,by simpa using h2⟩
theorem rW {α:Type}{b:Addr}{e:α}:∀ {as:List Addr} {es:List α} {j:Nat},as.Pairwise (· < ·)→as[j]? = some b→es[j]? = some e→(as.zip es).lookup b=some e
 | [],_,_,_,h,_=>by simp at h
 | _::_,[],_,_,_,h=>by simp at h
 | a::as,x::es,0,_,h1,h2=>by
  simp at h1 h2;subst h1;subst h2;simp[Iz]
 | a::as,x::es,j + 1,pw,h1,h2=>by
  have pw':=HY.mp pw;have h1':as[j]? = some b:=by simpa using h1
  have hb:a < b:=pw'.1 b (HC.mpr ⟨j,h1'⟩)
  have:(b == a)=false:=beq_eq_false_iff_ne.mpr (Ij hb)
  rw[List.zip_cons_cons,Iz,this];exact rW pw'.2 h1' (by simpa using h2)
end
end L2
namespace L2
open PySem PySem.Spec PySem.Calls PyProof.Rows
variable {H:Hp}{X:Cx}{s:Shared}{pos:Pos}{prog:Program}{A:Around}{K:PySem.W.Frag}
section
theorem cz.dic {k:Nat}{A:Around}(r:cz k A):A.units + 1 < PySem.cLine:=by have:=r.un;lia
end
end L2
namespace L2
open PySem PySem.Spec PySem.Calls PyProof.Rows PySem.W
variable {H:Hp}{X:Cx}{s:Shared}{pos:Pos}{prog:Program}{A:Around}{K:PySem.W.Frag}
section
variable {pins:List (Addr × Obj)}{σ:St}{Z:List (Addr × Obj)}
end
section
variable {P:Program}{w:World}{mg:Str→Option Value}{base:Heap}{Z:List (Addr × Obj)}
end
section
variable {CX:CXT}{k j:Nat}{f:Addr}{fd:FuncData}{ps:List Str}{sp:Sp}{x:Str}{p:Pos}{e:Expr}{es:List Expr}{t:TA}{Z:List (Addr × Obj)}
end
structure u9 (ps caps:List Str)(scope:Scope):Prop where
 kind:scope.kind=.function
 gen:scope.isGenerator=false
 co:scope.isCoroutine=false
 nd:ps.Nodup
 loc:∀ x∈ps,scope.names.lookup x=some .local
 nocell:∀ y∈scope.names,y.2≠.cell
 free:∀ y∈scope.names,y.2=.free→y.1∈caps
 caps:∀ x∈caps,scope.names.lookup x=some .free
def mH (c:Addr)(qual:Str):HO:=.ext fun h=>h.CodeRec (.ref c) qual
def isE (a:Addr)(o:Obj):HO:=.ext fun h=>h.get? a=some o
theorem Bh {P:Program}{w:World}{H:Hp}{h:Heap}{a:Addr}{o:Obj}(e:h.get? a=some o):bo P w H h a (isE a o):=⟨e,⟨o,e⟩,fun _ _ e1 k=>k _ e1⟩
theorem BD {P:Program}{w:World}{H:Hp}{h:Heap}{c:Addr}{qual:Str}(e:h.CodeRec (.ref c) qual):bo P w H h c (mH c qual):=by
 refine⟨e,?_,fun h1 h2 e1 k =>?_⟩
 ·obtain⟨_,o,vs,t,z,ho,_⟩:=e;cases z;exact⟨o,ho⟩
 ·obtain⟨_,o,vs,t,z,ho,r⟩:=e1;cases z;exact⟨c,o,vs,t,rfl,k _ ho,r⟩
section
variable {CX:CXT}{k j:Nat}{f:Addr}{fd:FuncData}{ps:List Str}{sp:Sp}{x:Str}{p:Pos}{e:Expr}{es:List Expr}{t:TA}{Z:List (Addr × Obj)}
end
def FW (H:Hp)(P:Addr)(qual:Str):Prop:=∃ ps:Array Value,H P=some (.tbl ps)∧TriplesOk ps.toList∧∀ pos cv,codeAmong pos ps.toList=some cv→∃ c',cv=.ref c'∧H c'=some (mH c' qual)
def fP (T:List (Addr × Str))(H:Hp):Prop:=∀ q∈T,FW H q.1 q.2
def dF (T:List (Addr × Str))(H H':Hp):Prop:=∀ b o,H b=some o→b∉T.map (·.1)→H' b=some o
theorem am.toT {T:List (Addr × Str)}{H H':Hp}(s:am H H'):dF T H H':=fun b o e _=>s b o e
theorem dF.trans {T:List (Addr × Str)}{H H1 H2:Hp}(a:dF T H H1)(b:dF T H1 H2):dF T H H2:=fun c o h n=>b c o (a c o h n) n
theorem am.tabs {T:List (Addr × Str)}{H H':Hp}(s:am H H')(t:fP T H):fP T H':=fun q hq=>by
 obtain⟨ps,h1,h2,h3⟩:=t q hq;refine⟨ps,s _ _ h1,h2,fun pos cv e =>?_⟩;obtain⟨c',e1,e2⟩:=h3 pos cv e;exact⟨c',e1,s _ _ e2⟩
theorem fP.apart {T:List (Addr × Str)}{H:Hp}{b:Addr}{o:HO}(t:fP T H)(e:H b=some o)(n:∀ ps,o≠.tbl ps):b∉T.map (·.1):=fun hm=>by
 obtain⟨q,hq,rfl⟩:=GC.mp hm;obtain⟨ps,h1,_⟩:=t q hq;rw[e]at h1;cases h1;exact n ps rfl
theorem dF.keep {T:List (Addr × Str)}{H H':Hp}{b:Addr}{o:HO}(s:dF T H H')(t:fP T H)(e:H b=some o)(n:∀ ps,o≠.tbl ps):H' b=some o:=s b o e (t.apart e n)
theorem pM {pos pos':Pos}{c cv:Value}(l:List Value)(h:TriplesOk l)(e:codeAmong pos (l++[rawInt pos'.line,rawInt pos'.col,c])=some cv):codeAmong pos l=some cv∨cv=c:=by
 fun_induction TriplesOk l with
 | case1 =>
  simp only[HJ,rawInt,codeAmong]at e
  split at e
  ·exact .inr (Option.some.inj e).symm
  ·cases e
 | case2 a t b u x rest ih =>
  simp only[List.cons_append,codeAmong]at e ⊢
  split at e
  ·rename_i hc
   rw[if_pos hc];exact .inl e
  ·rename_i hc
   rw[if_neg hc];exact ih h e
 | case3 l h1 h2=>exact h.elim
def lw (mg:Str→Option Value)(h:Heap):Prop:=∃ bm,(∃ ob,(mg "__builtins__" = some (.ref bm)∧bm≠builtinsNs∧h.get? bm=some ob∧ob.cls=.type "module" ∧ ob.dict=some builtinsNs∧ob.data=.plain))
def F3 (T:List (Addr × Str))(qual:Str)(mk:Addr→Value→Obj):TE:=fun _ H Q=>fP T H∧∀ fa c' ctv H',H fa=none→H' fa=some (isE fa (mk c' ctv))→H' c'=some (mH c' qual)→fP T H'→dF T H H'→Q (.ref fa) H'
section
theorem D6 {params:Arguments}{body:Expr}{scope:Scope}{pos:Pos}{T:List (Addr × Str)}{c P:Addr}{qual:Str}(xs:List Str)(hB:lw X.mg X.base)(hC:CodeHd X.base c P)(hcode:X.env.code=.ref c)(hT:(P,qual)∈T)(hnd:(T.map (·.1)).Nodup)(hq:X.env.qual ++ "<lambda>" = qual)
  (hclos:closureFor scope X.env=pure (clo X.env xs)) (hdef:defaultsOf params X.env=([],[]):=by rfl) :
  PE X (.Lambda params body scope pos) (F3 T qual fun c' ctv=>kla_obj "<lambda>" qual params body scope (clo X.env xs) ((X.mg "__name__").getD .none) c' ctv):=by
 intro pins s σ H Q I h;obtain⟨hTab,h⟩:=h;obtain⟨ps,hP,ht,hall⟩:=hTab (P,qual) hT;have hPh:s.heap.get? P=some (tabObj ps):=I.hok P _ hP;have hgs:s.heap.Ns mainGlobals X.mg:=I.ok.mod.glob.keeps I.bk;have hgP:mainGlobals≠P:=fun q=>by
  obtain⟨o,es,ep,e,hd,_⟩:=hgs;rw[q,hPh]at e;cases e;cases hd
 obtain⟨bm,ob,b1,b2,b3,b4,b5,b6⟩:=hB;have b3':=I.bk _ _ b3;have hbP:bm≠P:=fun q=>by
  rw[q,hPh]at b3';cases b3';cases b4
 have hbG:bm≠mainGlobals:=fun q=>by
  obtain⟨o,es,ep,e,hd,_⟩:=hgs;rw[q,e]at b3';cases b3';rw[hd]at b6;cases b6
 have hbt:s.heap.BuiltinsAt X.mg P:=⟨bm,ob,b1,b2,hbG,hbP,b3',b4,b5,b6⟩;refine kla_eval hdef ?_;rw[hq];cases hf:codeAmong pos ps.toList with
 | none =>
  refine kla_makeFunction hclos I.ok.glob hgs hcode (hC.keeps I.bk) hPh ht hf hgP hbt fun c' ctv h' tk hx hge hlt hrec htb =>?_;generalize hob:kla_obj "<lambda>" qual params body scope (clo X.env xs) ((X.mg "__name__").getD .none) c' ctv=ob'
  have hPs:P < s.heap.objs.size:=GJ hPh;have hcP:c'≠P:=Ij (GK hPs hge);have hfs:s.heap.objs.size≤h'.objs.size:=HU (IR hge hlt);have hfP:h'.objs.size≠P:=Ij (GK hPs hfs);have hfc:h'.objs.size≠c':=Ij hlt;have nfa:H h'.objs.size=none:=I.hok.fresh hfs;have nc:H c'=none:=I.hok.fresh hge;have old:∀ b o,b≠P→s.heap.get? b=some o→(h'.push ob').get? b=some o:=fun b o hb e=>Gx _ (hx b o hb e)
  let H':Hp:=upd (upd (upd H P (.tbl (ps ++ #[rawInt pos.line,rawInt pos.col,.ref c']))) c' (mH c' qual)) h'.objs.size (isE h'.objs.size ob')
  have e1:H' h'.objs.size=some (isE h'.objs.size ob'):=ah;have e2:H' c'=some (mH c' qual):=by show upd _ _ _ _=_;rw[aD (Ne.symm hfc),ah]
  have e3:H' P=some (.tbl (ps ++ #[rawInt pos.line,rawInt pos.col,.ref c'])):=by show upd _ _ _ _=_;rw[aD (Ne.symm hfP),aD (Ne.symm hcP),ah]
  have e4:∀ b,b≠P→b≠c'→b≠h'.objs.size→H' b=H b:=fun b n1 n2 n3=>by show upd _ _ _ _=_;rw[aD n3,aD n2,aD n1]
  have e5:∀ b o,H b=some o→b≠P→H' b=some o:=fun b o e n=>by rw[e4 b n (aZ e nc) (aZ e nfa)];exact e
  have hrec':(h'.push ob').CodeRec (.ref c') qual:=by
   obtain⟨c₂,o₂,vs₂,t₂,z,g₂,r₂⟩:=hrec;exact⟨c₂,o₂,vs₂,t₂,z,Gx _ g₂,r₂⟩
  have obf:ob'.isFreed=false:=by rw[← hob];rfl
  have J:Inv X pins σ H' { s with heap:=h'.push ob',toks:=tk }:=by
   refine I.un ⟨fun b u q n _ _=>old b u (fun z=>by rw[z,hP]at n;cases n) q,fun b u q n _ _=>⟨u.slots,old b u (fun z=>by rw[z,hP]at n;cases n) q⟩,fun b u q n _ =>?_,fun b u q _ =>?_,fun b xs q=>e5 b _ q (fun z=>by rw[z,hP]at q;cases q),fun b u xs q=>e5 b _ q (fun z=>by rw[z,hP]at q;cases q),fun b qs q =>?_⟩ fun b u q =>?_
   ·have hb:=GJ q;rw[e4 b (fun z=>by rw[z,hP]at n;cases n) (G3 (GK hb hge)) (G3 (GK hb hfs))];exact n
   ·by_cases hb:b=P
    ·rw[hb];exact⟨_,Gx _ htb⟩
    ·exact⟨u,old b u hb q⟩
   ·by_cases hb:b=P
    ·rw[hb,hP]at q;cases q;exact⟨_,by rw[hb];exact e3⟩
    ·exact⟨#[],by rw[e5 b _ q hb];simp⟩
   ·by_cases h1:b=h'.objs.size
    ·subst h1;rw[e1]at q;cases q;exact Bh (GQ _ obf)
    ·by_cases h2:b=c'
     ·subst h2;rw[e2]at q;cases q;exact BD hrec'
     ·by_cases h3:b=P
      ·subst h3;rw[e3]at q;cases q;exact Gx _ htb
      ·rw[e4 b h3 h2 h1]at q;refine (I.hok b u q).stay (fun d v hd r=>old d v ?_ r) (fun d r=>e5 d _ r fun z=>by rw[z,hP]at r;cases r) fun d xs r=>e5 d _ r fun z=>by rw[z,hP]at r;cases r
       rcases hd with rfl|hd
       ·exact h3
       ·intro z;rw[z,hP]at hd;cases hd
  refine⟨.ref h'.objs.size,H',J,rfl,h _ c' ctv H' nfa (by dsimp only;rw[hob];exact e1) e2 (fun q hq =>?_) fun b o e n=>e5 b o e fun z=>n (by rw[z];exact GC.mpr ⟨_,hT,rfl⟩)⟩;by_cases hqP:q.1=P
  ·have hq2:q=(P,qual):=by
    have:∀ (l:List (Addr × Str)),(l.map (·.1)).Nodup→q∈l→(P,qual)∈l→q.1=P→q=(P,qual):=by
     intro l
     induction l with
     | nil=>intro _ h;cases h
     | cons y r ih =>
      intro nd h1 h2 h3;rw[GX,HN]at nd;rcases GU.mp h1 with z1 | z1
      ·rcases GU.mp h2 with z2|z2
       ·exact z1.trans z2.symm
       ·exact absurd (GC.mpr ⟨_,z2,by rw[← z1];exact h3.symm⟩) nd.1
      ·rcases GU.mp h2 with z2|z2
       ·exact absurd (GC.mpr ⟨_,z1,by rw[← z2];exact h3⟩) nd.1
       ·exact ih nd.2 z1 z2 h3
    exact this T hnd hq hT hqP
   subst hq2;refine⟨_,e3,?_,fun pos' cv e =>?_⟩
   ·rw[Hr];exact TriplesOk_snoc _ _ _ _ ht
   ·rw[Hr]at e;rcases pM _ ht e with e | e
    ·obtain⟨d,z1,z2⟩:=hall _ _ e;exact⟨d,z1,e5 d _ z2 fun z=>by rw[z,hP]at z2;cases z2⟩
    ·exact⟨c',e,e2⟩
  ·obtain⟨qs,g1,g2,g3⟩:=hTab q hq;refine⟨qs,e5 _ _ g1 hqP,g2,fun pos' cv e =>?_⟩;obtain⟨d,z1,z2⟩:=g3 _ _ e;exact⟨d,z1,e5 d _ z2 fun z=>by rw[z,hP]at z2;cases z2⟩
 | some cv =>
  obtain⟨c',rfl,hc'⟩:=hall _ _ hf;refine kla_makeFunctionHit hclos I.ok.glob hgs hcode (hC.keeps I.bk) hPh ht hf hbt fun ctv h' tk hk hsz =>?_;show EP X pins σ Q (.ref h'.objs.size) { s with heap:=h'.push (kla_obj "<lambda>" qual params body scope (clo X.env xs) ((X.mg "__name__").getD .none) c' ctv),toks:=tk }
  generalize hob:kla_obj "<lambda>" qual params body scope (clo X.env xs) ((X.mg "__name__").getD .none) c' ctv=ob'
  have obf:ob'.isFreed=false:=by rw[← hob];rfl
  have nfa:H h'.objs.size=none:=I.hok.fresh hsz;have sm:am H (upd H h'.objs.size (isE h'.objs.size ob')):=fun b o e=>by rw[aD (aZ e nfa)];exact e
  refine⟨.ref h'.objs.size,_,I.laid (a:=h'.objs.size) (o:=isE h'.objs.size ob') (h':=h'.push ob') (t':=tk) (fun b u e=>Gx _ (hk b u e)) hsz (Bh (GQ _ obf)),rfl,h _ c' ctv _ nfa (by dsimp only;rw[hob];exact ah) (sm _ _ hc') (sm.tabs hTab) sm.toT⟩
end
theorem yR {P:Program}{w:World}{K:PySem.W.Frag}{mg mb:Str→Option Value}{CX:CXT}{k:Nat}{fa a:Addr}{fd:FuncData}{x:Str}{sp:Sp}{s₁:Shared}{vs:List Value}{ns:List Int}{Ps:List Addr}
  (KX:K.In s₁.heap) (hns:s₁.heap.Ns mainGlobals mg) (hb:s₁.heap.Ns builtinsNs mb) (hbb:∀ x:Str,x ≠ "__name__" → mb x=bootBuiltins x) (hlim:s₁.heap.NoLimit) (hg:s₁.gens = #[])
  (ha:s₁.heap.get? a=some { cls:=.type "list",data:=.seq vs.toArray }) (hi:IntsAre vs ns) (hl:ns.length≤sizeLine) (hr:cz k callerA)
  (hbm:lw mg s₁.heap) (hPs:∀ P∈Ps,s₁.heap.get? P=some (tabObj #[])∧K.lookup P=none∧∃ c,CodeHd s₁.heap c P)
  (F:∀ base:Heap,K.In base→base.Ns mainGlobals mg→lw mg base→bd P w K mg base CX k fa fd [x] sp) (hbind:∀ (s:Shared) (u:Value),BindsTo s fd ⟨[u],[]⟩ [(x,u)])
  (hsp:∀ H:Hp,(∀ P∈Ps,H P=some (.tbl #[]))→SqL K H a (ns.map V.int)→sp [.ref a] H (fun v _=>v=.bl true) fun _ _ _=>False)
  (hCX:∀ H e s',CX [] H s₁ (fun _ _ _=>False) e s'→False) :
  codeAny (model P w) callerA (.call (.ref fa) ⟨[.ref a],[]⟩) (fun r s'=>r=.ok (.ret (.bool true))∧OldK s₁.heap s'.heap∧s'.os=s₁.os∧AllBare s'.gens) s₁:=by
 have rv:=qm hi;have lenV:=hi.length;have naP:a∉Ps:=fun z=>by
  have:=(hPs a z).1
  rw[ha]at this;cases this
 have core:∀ H:Hp,(∀ b,H b=none∨(b∈Ps∧H b=some (.tbl #[]))∨∃ o xs,H b=some (.frz o (.lst xs)))→(∀ P∈Ps,H P=some (.tbl #[]))→SqL K H a (ns.map V.int)→HOk P w H s₁.heap→(∀ b,H b≠none→b∈Ps∨b=a)→(H a≠none→K.lookup a=none) →
   codeAny (model P w) callerA (.call (.ref fa) ⟨[.ref a],[]⟩) (fun r s'=>r=.ok (.ret (.bool true))∧OldK s₁.heap s'.heap∧s'.os=s₁.os∧AllBare s'.gens) s₁:=by
  intro H hO hT hS hok hA hK;have base_of:∀ {b:Addr} {o:Obj},s₁.heap.get? b=some o→H b=none→(qj s₁.heap H).get? b=some o:=fun e n=>Bi e n;have noA:∀ {b:Addr} {o:Obj},s₁.heap.get? b=some o→(∀ qs,o.data≠.fields qs)→(∀ qs n,o.data≠.seq qs n)→H b=none:=fun {b o} e d1 d2=>by
   cases q:H b with
   | none=>rfl
   | some u =>
    rcases hA b (by rw[q];simp) with e'|e'
    ·rw[(hPs b e').1]at e;cases e;exact absurd rfl (d1 #[])
    ·subst e';rw[ha]at e;cases e;exact absurd rfl (d2 _ _)
  have nsK:∀ {b:Addr} {m:Str→Option Value},s₁.heap.Ns b m→(qj s₁.heap H).Ns b m:=fun {b m} ⟨o,es,ep,e,d,r⟩=>⟨o,es,ep,base_of e (noA e (fun qs z=>by rw[d]at z;cases z) (fun qs n z=>by rw[d]at z;cases z)),d,r⟩;have hKb:K.In (qj s₁.heap H):=fun b o e=>base_of (KX b o e) (by
   cases q:H b with
   | none=>rfl
   | some u =>
    rcases hA b (by rw[q];simp) with e'|e'
    ·rw[(hPs b e').2.1]at e;cases e
    ·subst e';rw[hK (by rw[q];simp)]at e;cases e)
  have hM:Mod K mg (qj s₁.heap H):=⟨hKb,nsK hns,⟨mb,nsK hb,hbb⟩,let ⟨mc,h1,h2⟩:=hlim;⟨mc,nsK h1,h2⟩⟩;have hBM:lw mg (qj s₁.heap H):=by
   obtain⟨bm,ob,b1,b2,b3,b4,b5,b6⟩:=hbm;exact⟨bm,ob,b1,b2,base_of b3 (noA b3 (fun qs z=>by rw[b6]at z;cases z) (fun qs n z=>by rw[b6]at z;cases z)),b4,b5,b6⟩
  have e0:wB P w K mg (qj s₁.heap H) callerA [] s₁ H:=⟨rfl,hM,fun b o e=>CL e,Nat.le_of_eq (yX _ _),trivial,fun b hb=>absurd (show b∈([]:List Addr) from hb) (by simp),hok,.of_eq hg⟩;refine codeAny_mono ((F _ hKb (nsK hns) hBM).run callerA [] s₁ H ⟨[.ref a],[]⟩ [.ref a] [.ref a] _ _ hr e0 (hbind s₁ (.ref a)) (.cons rfl .nil) (hsp H hT hS)) fun r s' h =>?_;cases r with
  | error e=>exact (hCX H e s' h).elim
  | ok fl =>
   cases fl with
   | next=>exact False.elim h
   | brk=>exact False.elim h
   | cont=>exact False.elim h
   | ret u =>
    obtain⟨v,H',os,bare,un,hok',r',q⟩:=h;have q':v=.bl true:=q;subst q';obtain rfl:u=Value.bool true:=r';have nofs:∀ b:Addr,b∉frs []:=fun b z=>absurd (show b∈([]:List Addr) from z) (by simp);refine⟨rfl,⟨fun b o e =>?_,fun b o e=>un.there b o e (by simp)⟩,os,bare⟩;rcases hO b with q|⟨hbP,q⟩|⟨ob,xs,z⟩
    ·exact .inl (un.keep b o e q (nofs b) (by simp))
    ·obtain⟨h1,h2,c,h3⟩:=hPs b hbP;rw[h1]at e;cases e;obtain⟨more,hm⟩:=un.tbls b _ q;exact .inr (.inl ⟨(h3.tab h1).isCodeTable,rfl,#[],more,rfl,hok' b _ hm⟩)
    ·have z2:=un.frzs b ob _ z;obtain⟨e1,_⟩:=hok b _ z;obtain⟨e2,_⟩:=hok' b _ z2;rw[e]at e1;cases e1;exact .inl e2
 cases hk:K.lookup a with
 | some o =>
  have e:=KX a o hk;rw[ha]at e;cases e;refine core (fun b=>if b∈Ps then some (.tbl #[]) else none) (fun b =>?_) (fun P hP=>if_pos hP) (.inr ⟨_,vs.toArray,_,hk,rfl,rfl,rfl,by rw[GR,lenV];exact hl,by simpa using rv⟩) (fun b u z =>?_) (fun b z =>?_) fun z=>absurd (if_neg naP) z
  ·by_cases hb:b∈Ps
   ·exact .inr (.inl ⟨hb,if_pos hb⟩)
   ·exact .inl (if_neg hb)
  ·by_cases hb:b∈Ps
   ·have z':=(if_pos hb).symm.trans z;cases z';exact (hPs b hb).1
   ·have z':=(if_neg hb).symm.trans z;cases z'
  ·by_cases hb:b∈Ps
   ·exact .inl hb
   ·exact absurd (if_neg hb) z
 | none =>
  refine core (fun b=>if b∈Ps then some (.tbl #[]) else if b=a then some (.frz { cls:=.type "list",data:=.seq vs.toArray } (.lst (ns.map V.int))) else none) (fun b =>?_) (fun P hP=>if_pos hP) (.inl (.inr ⟨{ cls:=.type "list",data:=.seq vs.toArray },(if_neg naP).trans (if_pos rfl)⟩)) (fun b u z =>?_) (fun b z =>?_) fun _=>hk
  ·by_cases hb:b∈Ps
   ·exact .inr (.inl ⟨hb,if_pos hb⟩)
   ·by_cases hb2:b=a
    ·exact .inr (.inr ⟨_,_,(if_neg hb).trans (if_pos hb2)⟩)
    ·exact .inl ((if_neg hb).trans (if_neg hb2))
  ·by_cases hb:b∈Ps
   ·have z':=(if_pos hb).symm.trans z;cases z';exact (hPs b hb).1
   ·have z:=(if_neg hb).symm.trans z;by_cases hb2:b=a
    ·have z':=(if_pos hb2).symm.trans z;cases z';subst hb2;exact⟨ha,by rw[Gy];exact hl,vs,_,rv,ha⟩
    ·have z':=(if_neg hb2).symm.trans z;cases z'
  ·by_cases hb:b∈Ps
   ·exact .inl hb
   ·by_cases hb2:b=a
    ·exact .inr hb2
    ·exact absurd ((if_neg hb).trans (if_neg hb2)) z
def qu (K:PySem.W.Frag)(cd:Value):Option Addr:=match cd with
 | .ref c=>(match K.lookup c with
  | some ⟨_,_,.fields vs,_⟩=>(match (vs[11]? : Option Value) with
   | some (.ref P)=>if codeHdIn K c P=true then some P else none
   | _=>none)
  | _=>none)
 | _=>none
theorem s_ {K:PySem.W.Frag}{cd:Value}{P:Addr}{h:Heap}(X:K.In h)(e:qu K cd=some P):∃ c,cd=.ref c∧CodeHd h c P:=by
 unfold qu at e
 split at e
 ·rename_i c
  split at e
  ·split at e
   ·split at e
    ·rename_i hc
     cases e;exact⟨c,rfl,codeHd_of_K X hc⟩
    ·cases e
   ·cases e
  ·cases e
 ·cases e
theorem zE {K:PySem.W.Frag}{cd:Value}{c P:Addr}{cl:Value}{od:Option Addr}{vs:Array Value}{sl:Array (Option Value)}(ec:cd=.ref c)(l:K.lookup c=some ⟨cl,od,.fields vs,sl⟩)(e:vs[11]? = some (.ref P))(h:codeHdIn K c P=true):qu K cd=some P:=by
 subst ec;unfold qu;simp only[l,e,h,if_true]
theorem zx {l:PySem.W.OpenLaw}{n k:Nat}{q:Program}{loose:List Str}{XP:(Str→Option Value)→Heap→Prop}{YP:World→Heap→Prop}{d:DefRec}{K:Params→PySem.W.Frag}{CX:World→CXT}{x:Str}{ts:List Addr}
  (hn:l.most=some n) (hn2:n≤sizeLine) (hdf:d.params.defaults=[]) (hr:cz k callerA)
  (hY:∀ (w:World) (h:Heap),YP w h→(K w.params).In h) (hT:∀ (w:World) (h:Heap),YP w h→∀ P∈ts,h.get? P=some (tabObj #[]))
  (F:∀ (w:World) (mg:Str→Option Value) (fa:Addr) (h:Heap),(K w.params).In h→h.Ns mainGlobals mg→mg d.name=some (.ref fa) →
   ∃ (fd:FuncData) (Ps:List Addr) (sp:Sp),(∀ (s:Shared) (u:Value),BindsTo s fd ⟨[u],[]⟩ [(x,u)])∧(∀ P∈Ps,P∈ts∧(K w.params).lookup P=none∧∃ c,CodeHd h c P) ∧
    (∀ base:Heap,(K w.params).In base→base.Ns mainGlobals mg→lw mg base→bd l.prog w (K w.params) mg base (CX w) k fa fd [x] sp) ∧
    ∀ (H:Hp) (a:Addr) (ns:List Int),ns.length≤n→(∀ P∈Ps,H P=some (.tbl #[]))→SqL (K w.params) H a (ns.map V.int)→sp [.ref a] H (fun v _=>v=.bl true) fun _ _ _=>False)
  (hCX:∀ (w:World) (H:Hp) (s:Shared) (e:Value) (s':Shared),CX w [] H s (fun _ _ _=>False) e s'→False) :
  PySem.W.WalkO q loose XP YP l.row.toRowW d [] (fun f vs=>PySem.call f vs):=by
 refine Att.uW hn hdf fun w s₀ s₁ mg mb fa o pm cd doc a vs ns G Y ho hd hcd hmg hobj hints hlen hg =>?_;have KX:=hY w _ Y;obtain⟨fd,Ps,sp,hb,hP,hF,hsp⟩:=F w mg fa _ KX G.T.g hmg;exact yR (Ps:=Ps) KX G.T.g G.T.b G.T.builtins G.T.nolimit hg hobj hints (G8 hlen hn2) hr G.T.bmain (fun P h=>⟨hT w _ Y P (hP P h).1,(hP P h).2.1,(hP P h).2.2⟩) hF hb (fun H hO hS=>hsp H a ns hlen hO hS) fun H e s'=>hCX w H s₁ e s'
section
variable {P:Program}{w:World}{mg:Str→Option Value}{base:Heap}{Z:List (Addr × Obj)}
structure FunT (K:PySem.W.Frag)(x qual:Str)(st:Stmt)(f:Addr)(fd:FuncData)(dV:Value)(P:Addr):Prop where
 ex:∃ (oc:Value) (od:Option Addr) (kV doc pm:Value) (an:Option Addr) (cdv ct:Value) (osl:Array (Option Value)),
  fd=PySem.W.fnOf x qual (bH st) (aY st) (aj st) dV kV doc pm an cdv ct∧K.lookup f=some ⟨oc,od,.func fd,osl⟩∧PySem.W.codeIn K cdv qual=true∧qu K cdv=some P
theorem C1 {x qual:Str}{st:Stmt}{f Pt:Addr}{oc:Value}{od an:Option Addr}{osl:Array (Option Value)}{dV kV doc pm cdv ct:Value}(l:K.lookup f=some ⟨oc,od,.func (PySem.W.fnOf x qual (bH st) (aY st) (aj st) dV kV doc pm an cdv ct),osl⟩)
  (c:PySem.W.codeIn K cdv qual=true) (t:qu K cdv=some Pt):FunT K x qual st f (PySem.W.fnOf x qual (bH st) (aY st) (aj st) dV kV doc pm an cdv ct) dV Pt:=⟨⟨oc,od,kV,doc,pm,an,cdv,ct,osl,rfl,l,c,t⟩⟩
end
theorem dF.tups {T:List (Addr × Str)}{H H':Hp}(s:dF T H H')(t:fP T H):bO H H':=fun b xs e=>s.keep t e (by intro ps z;cases z)
theorem fP.start {T:List (Addr × Str)}{H:Hp}(h:∀ P∈T.map (·.1),H P=some (.tbl #[])):fP T H:=fun q hq =>
 ⟨#[],h _ (GC.mpr ⟨_,hq,rfl⟩),trivial,fun pos cv e=>by cases e⟩
section
end
section
variable {w:World}{E:Value→Shared→Prop}
end
section
end
structure Lin {α:Type}(lt:α→α→Bool):Prop where
 irr:∀ x,lt x x=false
 tr:∀ x y z,lt x y=true→lt y z=true→lt x z=true
 tot:∀ x y,lt x y=false→lt y x=false→x=y
theorem jt {α:Type}{p q:α→Bool}{a:α}:∀ {l:List α},(∀ x∈l,p x=true→q x=true)→a∈l→p a=false→q a=true→l.countP p < l.countP q
 | [],_,h,_,_=>by simp at h
 | x::l,hm,ha,hp,hq=>by
  have m:l.countP p≤l.countP q:=List.countP_mono_left fun y hy=>hm y (by simp[hy]);rw[Ji,Ji];rcases GU.mp ha with rfl | ha
  ·rw[hp,hq];simp
   lia
  ·have:=jt (fun y hy=>hm y (by simp[hy])) ha hp hq
   have hx:=hm x (by simp);cases e:p x with
   | true=>rw[hx e];simp;omega
   | false=>simp;split<;>omega
def rnk {α:Type}(lt:α→α→Bool)(ks:List α)(x:α):Int:=((ks.countP fun k=>lt k x:Nat):Int)
theorem rA {α:Type}{lt:α→α→Bool}(L:Lin lt){ks:List α}{x y:α}(hx:x∈ks)(hy:y∈ks):decide (rnk lt ks x < rnk lt ks y)=lt x y:=by
 unfold rnk;cases e:lt x y with
 | true =>
  have:=jt (l:=ks) (p:=fun k=>lt k x) (q:=fun k=>lt k y) (fun k _ h=>L.tr _ _ _ h e) hx (L.irr x) e
  simp
  exact this
 | false =>
  cases e2:lt y x with
  | true =>
   have:=jt (l:=ks) (p:=fun k=>lt k y) (q:=fun k=>lt k x) (fun k _ h=>L.tr _ _ _ h e2) hy (L.irr y) e2
   simp
   lia
  | false =>
   have:=L.tot _ _ e e2
   subst this;simp
section
variable {w:World}{E:Value→Shared→Prop}{α:Type}{lt:α→α→Bool}{kf:Value→α}
structure Dj (prog:Program)(w:World)(vs:List Value){α:Type}(kf:Value→α)(lt:α→α→Bool)(κ:SortKind)(s:Shared):Prop where
 kind:∀ (A:Around),2≤vs.length→∀ Q:SortKind→Shared→Prop,Q κ s→wpAny (model prog w) A (keyKind' vs.toArray) Q (fun _ _=>False) s
 less:∀ (A:Around) (x y:Value) (C:Bool→Shared→Prop),x∈vs→y∈vs→C (lt (kf x) (kf y)) s→wpAny (model prog w) A (keyLt' κ x y) C (fun _ _=>False) s
theorem sU {vs:List Value}{p:Keyed}(h:p∈(vs.toArray.zip vs.toArray).toList):p.1=p.2∧p.2∈vs:=by
 rw[Array.toList_zip]at h;obtain⟨i,hi⟩:=HC.mp h;rw[JC]at hi;have e:=hi.1.symm.trans hi.2;exact⟨Option.some.inj e,HC.mpr ⟨i,hi.2⟩⟩
theorem wC (vs:List Value):(vs.toArray.zip vs.toArray).toList.map (·.2)=vs:=by
 rw[Array.toList_zip];exact List.map_snd_zip (GB _)
theorem jQ {a:Addr}{vs:List Value}{n:Nat}{κ:SortKind}{P:PySem.Fin→Shared→Prop}(L:Lin lt)(ho:s.heap.get? a=some (seqObj "list" vs.toArray n))(sz:vs.length≤sizeLine)
  (hs:∀ h',(∀ b o,b≠a→s.heap.get? b=some o→h'.get? b=some o)→Dj prog w vs kf lt κ { s with heap:=h' })
  (h:∀ out:List Value,out.Perm vs→out.Pairwise (fun x y=>lt (kf y) (kf x)=false)→P (.done (.ret .none)) { s with heap:=sortedHeap s.heap a vs out.toArray }) :
  wpAny (model prog w) A (Builtin.«list.sort» ⟨[.ref a],[]⟩) P E s:=by
 have ha:a < s.heap.objs.size:=GJ ho;rw[list_sort_plain];refine Gw (listItems_at ho rfl ?_);refine Gw (listUpdate_at ho rfl ?_ (by rw[GR];exact sz) (GF _));obtain⟨e1,ho1⟩:∃ e1,(s.heap.update a (Obj.mapSeq fun _=>(#[]:Array Value))).get? a=some (seqObj "list" #[] e1):=⟨_,get?_update_seq ho fun _ => #[]⟩
 refine Gw (seqEpoch_at ho1 rfl ?_);refine Gw (wpAny_newTuple ?_ (by show vs.length≤_;exact sz));refine Gw (wpAny_newList ?_ (GF _));refine wpAny_holding ?_;show wpAny (model prog w) A _ P E { s with heap:=((s.heap.update a (Obj.mapSeq fun _=>(#[]:Array Value))).push (seqObj "tuple" vs.toArray 0)).push (seqObj "list" #[] 0) }
 dsimp only;have ho6:(((s.heap.update a (Obj.mapSeq fun _=>(#[]:Array Value))).push (seqObj "tuple" vs.toArray 0)).push (seqObj "list" #[] 0)).get? a=some (seqObj "list" #[] e1):=Gx _ (Gx _ ho1)
 have kp:∀ b o,b≠a→s.heap.get? b=some o→(((s.heap.update a (Obj.mapSeq fun _=>(#[]:Array Value))).push (seqObj "tuple" vs.toArray 0)).push (seqObj "list" #[] 0)).get? b=some o:=fun b o hb e =>
  Gx _ (Gx _ ((G4 _ _ (Ne.symm hb)).trans e))
 have S:=hs _ kp;by_cases h2:vs.toArray.size < 2
 ·rw[if_pos h2,if_pos h2];refine Gw (GN ?_);rw[StateT.run_pure];refine Gw (GN ?_);dsimp only;refine Gw (seqEpoch_at ho6 rfl ?_);have ez:(vs.toArray.zip vs.toArray).map (·.2)=vs.toArray:=by
   apply IL.mp
   rw[JF,wC]
  refine Gw (listUpdate_at ho6 rfl ?_ (hsz2:=by rw[Array.size_map,Array.size_zip];simp;lia));simp only[bne_self_eq_false,GA,if_false];refine GN ?_
  have:=h vs (List.Perm.refl _) (by
   rw[GR]at h2
   match vs,h2 with
   | [],_=>exact List.Pairwise.nil
   | [x],_=>exact IS _ _
   | _::_::_,h2=>exact absurd h2 (by simp))
  show P _ { s with heap:=Heap.update _ a (Obj.mapSeq fun _=>(vs.toArray.zip vs.toArray).map (·.2)) };rw[ez];exact this
 ·rw[if_neg h2,if_neg h2];have h2':2≤vs.length:=by rw[GR]at h2;lia
  refine Gw (Ho (S.kind A h2' (fun κ' s'=>κ'=κ∧s'=_) ⟨rfl,rfl⟩) (fun κ' s' hk =>?_) fun _ _ x=>x.elim);obtain⟨rfl,rfl⟩:=hk;have LO:Tim.cW prog w A E { s with heap:=((s.heap.update a (Obj.mapSeq fun _=>(#[]:Array Value))).push (seqObj "tuple" vs.toArray 0)).push (seqObj "list" #[] 0) } (vs.toArray.zip vs.toArray) κ' (fun p=>rnk lt (vs.map kf) (kf p.2)):=fun x y C hx hy hC=>by
   obtain⟨x1,x2⟩:=sU hx;obtain⟨y1,y2⟩:=sU hy;rw[x1,y1];refine S.less A x.2 y.2 C x2 y2 ?_;rw[← rA L (Hk x2) (Hk y2)];exact hC
  refine Gw (Ho (Tim.wS LO (st:=SortSt.mk' κ' (vs.toArray.zip vs.toArray) #[] 7 none) (Q:=fun _ st'=>Tim.SB (vs.toArray.zip vs.toArray) κ' st'∧Tim.Seg (fun p=>rnk lt (vs.map kf) (kf p.2)) (arrOf st') 0 (vs.toArray.zip vs.toArray).size) ⟨Array.Perm.refl _,rfl,rfl⟩ rfl fun st' B S'=>⟨B,S'⟩) ?_ fun _ _ e=>e);rintro⟨⟨⟩,st'⟩ s' ⟨rfl,B,S'⟩;dsimp only at B S' ⊢;refine Gw (seqEpoch_at ho6 rfl ?_);have hp:((arrOf st').toList.map (·.2)).Perm vs:=by
   have:=(HV.mp B.perm).map (·.2)
   rw[wC]at this;exact this
  have hout:(arrOf st').map (·.2)=((arrOf st').toList.map (·.2)).toArray:=by
   apply IL.mp
   rw[JF]
  rw[hout];refine Gw (listUpdate_at ho6 rfl ?_ (GF _) (by rw[GR,hp.length_eq];lia));rw[B.ok];simp only[bne_self_eq_false,GA,if_false];refine GN (h _ hp ?_);rw[Hg,HH];intro i j hi hj hij;rw[G5]at hi hj;have q:=S' i j (GF _) (HU hij) (by rw[← B.size];exact hj);rw[Tim.ao (GD hi),Tim.ao (GD hj)]at q;have m1:(arrOf st')[i].2∈vs:=hp.mem_iff.mp (Hk (by simp));have m2:(arrOf st')[j].2∈vs:=hp.mem_iff.mp (Hk (by simp))
  have:=rA L (ks:=vs.map kf) (Hk m2) (Hk m1)
  show lt (kf (arrOf st')[j].2) (kf (arrOf st')[i].2)=false;rw[← this];exact Hb (by lia)
theorem vz {r:Addr}{Q:Value→Shared→Prop}(L:Lin lt)(hcol:wpAny (model prog w) A.in1 (collect (.ref r)) (fun vs s1=>vs.length≤sizeLine∧∃ (κ:SortKind),(∀ h',(∀ b o,s1.heap.get? b=some o→h'.get? b=some o)→Dj prog w vs kf lt κ { s1 with heap:=h' }) ∧
   ∀ out:List Value,out.Perm vs→out.Pairwise (fun x y=>lt (kf y) (kf x)=false)→Q (.ref s1.heap.objs.size) { s1 with heap:=sortedHeap (s1.heap.push (seqObj "list" vs.toArray 0)) s1.heap.objs.size vs out.toArray }) E s) :
  wpAny (model prog w) A (call (.builtin "sorted") [.ref r]) Q E s:=by
 refine Calls.call_function_entry kind_sorted plain_sorted entry_sorted (args_sorted1 _) ?_;unfold Builtin.«sorted»;refine Gw (m:=checkCount "sorted" 1 1 _) (GN ?_)
 refine Gw (Ho hcol (fun vs s1 ⟨sz,κ,hS,hq⟩ =>?_) fun _ _ e=>e);refine Gw (wpAny_newList ?_ sz);have hoL:(s1.heap.push (seqObj "list" vs.toArray 0)).get? s1.heap.objs.size=some (seqObj "list" vs.toArray 0):=GQ _ rfl
 show wpAny _ _ _ _ _ { s1 with heap:=s1.heap.push (seqObj "list" vs.toArray 0) }
 refine Gw (wpAny_holding (wpAny_call_entry slot_list_sort ⟨_,hoL,rfl⟩ entry_list_sort (jQ (kf:=kf) (κ:=κ) L hoL sz (fun h' kp=>hS h' fun b o e =>?_) fun out o u=>⟨_,rfl,?_⟩) (args_list_sort _)))
 ·exact kp b o (G3 (GJ e)) (Gx _ e)
 ·exact GN ⟨_,rfl,hq out o u⟩
end
theorem xl:Lin (fun (a b:List Nat)=>decide (a < b)):=by
 refine⟨fun a=>by simpa using HM a,fun a b c h1 h2 =>?_,fun a b h1 h2 =>?_⟩
 ·simp only[decide_eq_true_eq]at *;exact List.lt_trans h1 h2
 ·simp only[decide_eq_false_iff_not]at *;exact List.le_antisymm (List.not_lt.mp h2) (List.not_lt.mp h1)
theorem rZ:Lin (fun (a b:Int)=>decide (a < b)):=by
 refine⟨fun a=>by simp,fun a b c h1 h2 =>?_,fun a b h1 h2 =>?_⟩
 ·simp only[decide_eq_true_eq]at *
  lia
 ·simp only[decide_eq_false_iff_not]at *
  lia
def m8 {α β:Type}[DecidableEq α](l:α→α→Bool)(m:β→β→Bool)(x y:α × β):Bool:=if x.1=y.1 then m x.2 y.2 else l x.1 y.1
theorem rY {α β:Type}[DecidableEq α]{l:α→α→Bool}{m:β→β→Bool}(hl:Lin l)(hm:Lin m):Lin (m8 l m):=by
 refine⟨fun x=>by unfold m8;rw[if_pos rfl];exact hm.irr _,fun x y z h1 h2 =>?_,fun x y h1 h2 =>?_⟩
 ·unfold m8 at h1 h2 ⊢;by_cases e1:x.1=y.1
  ·rw[if_pos e1]at h1;by_cases e2:y.1=z.1
   ·rw[if_pos e2]at h2;rw[if_pos (e1.trans e2)];exact hm.tr _ _ _ h1 h2
   ·rw[if_neg e2]at h2;rw[e1,if_neg e2];exact h2
  ·rw[if_neg e1]at h1;by_cases e2:y.1=z.1
   ·rw[← e2,if_neg e1];exact h1
   ·rw[if_neg e2]at h2;have h3:=hl.tr _ _ _ h1 h2;by_cases e3:x.1=z.1
    ·rw[e3,hl.irr]at h3;cases h3
    ·rw[if_neg e3];exact h3
 ·unfold m8 at h1 h2;by_cases e1:x.1=y.1
  ·rw[if_pos e1]at h1;rw[if_pos e1.symm]at h2;exact Prod.ext e1 (hm.tot _ _ h1 h2)
  ·rw[if_neg e1]at h1;rw[if_neg (Ne.symm e1)]at h2;exact absurd (hl.tot _ _ h1 h2) e1
def f_:Value→Addr
 | .ref a=>a
 | _=>0
section
variable {w:World}
end
section
theorem Inv.sortd {pins:List (Addr × Obj)}{σ:St}{H:Hp}{s:Shared}{a:Addr}{its out:List Value}{us:List V}(I:Inv X pins σ H s)(hz:us.length≤sizeLine)(ho:aN us out):
  ∃ S,H S=none∧Inv X pins σ (upd H S (.lst us)) { s with heap:=sortedHeap (((s.heap.push (seqObj "list" #[] 0)).update s.heap.objs.size (Obj.mapSeq (· ++ its.toArray))).push (seqObj "list" its.toArray 0)) ((s.heap.push (seqObj "list" #[] 0)).update s.heap.objs.size (Obj.mapSeq (· ++ its.toArray))).objs.size its out.toArray } ∧
   S=((s.heap.push (seqObj "list" #[] 0)).update s.heap.objs.size (Obj.mapSeq (· ++ its.toArray))).objs.size:=by
 have kp:∀ b o,s.heap.get? b=some o→((s.heap.push (seqObj "list" #[] 0)).update s.heap.objs.size (Obj.mapSeq (· ++ its.toArray))).get? b=some o:=fun b o e =>
  (G4 _ _ (Ne.symm (G3 (GJ e)))).trans (Gx _ e)
 have I1:Inv X pins σ H { s with heap:=(s.heap.push (seqObj "list" #[] 0)).update s.heap.objs.size (Obj.mapSeq (· ++ its.toArray)) }:=I.kept (t':=s.toks) kp
 obtain⟨n2,hS⟩:=jO (h:=(s.heap.push (seqObj "list" #[] 0)).update s.heap.objs.size (Obj.mapSeq (· ++ its.toArray))) (vs:=its) (out:=out.toArray)
 refine⟨_,I1.hok.fresh (GB _),I1.laid (t':=s.toks) (fun b o e=>iO e) (GB _) ⟨hz,out,n2,ho,hS⟩,rfl⟩
end
abbrev Pky:Type:=List Nat × Int × List Nat
def pkV (x:Str):V→Pky
 | .int i=>(x.cps.toList,i,[])
 | .str y=>(x.cps.toList,0,y.cps.toList)
 | _=>(x.cps.toList,0,[])
def pkH (H:Hp)(a:Addr):Pky:=match H a with
 | some (.tup [.str x,v])=>pkV x v
 | _=>([],0,[])
def ltP:Pky→Pky→Bool:=m8 (fun a b=>decide (a < b)) (m8 (fun a b=>decide (a < b)) (fun a b=>decide (a < b)))
theorem uh:Lin ltP:=rY xl (rY rZ xl)
def Snd (t:Bool)(v:V):Prop:=if t=true then ∃ y,v=.str y else ∃ i,v=.int i
section
variable {w:World}
theorem xN {x y:Str}(h:x.cps.toList=y.cps.toList):x=y:=by
 cases x;cases y;simp only[Str.mk.injEq];exact IL.mp h
theorem yQ {x y:Addr}{a b:Str}{p q:V}{vx vy:List Value}{t:Bool}{C:Bool→Shared→Prop}(hp:Snd t p)(hq:Snd t q)(ix:IsTup s.heap x vx.toArray)(iy:IsTup s.heap y vy.toArray)(rx:aN [.str a,p] vx)(ry:aN [.str b,q] vy)
  (h:C (ltP (pkV a p) (pkV b q)) s):wpAny (model prog w) A (keyLt' (tuples' true) (.ref x) (.ref y)) C (fun _ _=>False) s:=by
 obtain⟨ox,hx,_,n,dx⟩:=ix;obtain⟨oy,hy,_,m,dy⟩:=iy;cases rx with
 | cons r1 rx =>
 cases rx with
 | cons r2 rx =>
 cases rx;cases ry with
 | cons r3 ry =>
 cases ry with
 | cons r4 ry =>
 cases ry;obtain⟨t1,rfl⟩:=r1;obtain⟨t3,rfl⟩:=r3;refine kat_lt hx dx hy dy (kat_cons (wpAny_eqBool_str (kat_go (fun e=>kat_yes ?_) fun e=>kat_no ?_)))
 ·have e':a=b:=by simpa using e
  subst e';cases t with
  | true =>
   obtain⟨c,rfl⟩:=hp;obtain⟨d,rfl⟩:=hq;obtain⟨t2,rfl⟩:=r2;obtain⟨t4,rfl⟩:=r4;have hv:ltP (pkV a (.str c)) (pkV a (.str d))=decide (c.cps.toList < d.cps.toList):=by
    simp only[ltP,m8,pkV,if_true];exact decide_eq_decide.mpr Iff.rfl
   rw[hv]at h;refine kat_cons (wpAny_eqBool_str (kat_go (fun e=>kat_yes (kat_nil ?_)) fun e=>kat_no (kat_one _ _ (PySem.P.lt_str ?_))))
   ·have e':c=d:=by simpa using e
    subst e';rw[Hb (HM _)]at h;simpa using h
   ·exact h
  | false =>
   obtain⟨c,rfl⟩:=hp;obtain⟨d,rfl⟩:=hq;obtain⟨t2,rfl⟩:=r2;obtain⟨t4,rfl⟩:=r4;have hv:ltP (pkV a (.int c)) (pkV a (.int d))=decide (c < d):=by
    simp only[ltP,m8,pkV,if_true];by_cases e:c=d
    ·subst e;simp
    ·exact (if_neg e).trans (decide_eq_decide.mpr Iff.rfl)
   rw[hv]at h;refine kat_cons (wpAny_eqBool_int (kat_go (fun e=>kat_yes (kat_nil ?_)) fun e=>kat_no (kat_one _ _ (PySem.P.lt_int ?_))))
   ·have e':c=d:=by simpa using e
    subst e';simpa using h
   ·exact h
 ·have e':¬ a=b:=by simpa using e
  show wpAny _ _ (oneLt' true _ _) _ _ _;refine oneLt_str ?_;have hv:ltP (pkV a p) (pkV b q)=decide (a.cps.toList < b.cps.toList):=by
   have f1:∀ (x:Str) (v:V),(pkV x v).1=x.cps.toList:=fun x v=>by cases v<;>rfl
   unfold ltP m8;rw[f1,f1,if_neg fun e=>e' (xN e)]
  rw[← hv];exact h
def Prs (H:Hp)(t:Bool)(as:List Addr):Prop:=∀ b∈as,∃ x v,H b=some (.tup [.str x,v])∧Snd t v
theorem wN {H:Hp}{t:Bool}{as:List Addr}(hP:Prs H t as)(hok:∀ b x v,H b=some (.tup [.str x,v])→∃ its:List Value,aN [.str x,v] its∧IsTup s.heap b its.toArray):
  Dj prog w (as.map Value.ref) (fun v=>pkH H (f_ v)) ltP (tuples' true) s:=by
 refine⟨fun A h2 Q q =>?_,fun A x y C hx hy q =>?_⟩
 ·have kt:∀ (as:List Addr),Prs H t as→∃ fs:List Value,KatTups s.heap (as.map Value.ref) fs∧fs.length=as.length∧∀ v∈fs,∃ (k:Str) (t:Tok),v=.str k t:=by
   intro as
   induction as with
   | nil=>intro _;exact⟨[],KatTups.nil,rfl,fun v hv=>nomatch hv⟩
   | cons a as ih =>
    intro hP;obtain⟨x,v,e,_⟩:=hP a (by simp);obtain⟨its,r,o,ho,hc,n,hd⟩:=hok a x v e;obtain⟨fs,f1,f2,f3⟩:=ih fun b hb=>hP b (by simp[hb]);cases r with
    | cons r1 r =>
     obtain⟨tk,rfl⟩:=r1;refine⟨.str x tk::fs,KatTups.cons ho hc hd (by simp) f1,by simp[f2],fun v hv =>?_⟩;rcases GU.mp hv with rfl|hv
     ·exact⟨x,tk,rfl⟩
     ·exact f3 v hv
  obtain⟨fs,f1,f2,f3⟩:=kt as hP;refine kat_kind (T:=.type "str") f1 (by rw[f2];rw[Gy]at h2;lia) (fun v hv =>?_) (by decide) q
  obtain⟨k,t,rfl⟩:=f3 v hv;exact Looks.now
 ·obtain⟨a,ha,rfl⟩:=GC.mp hx;obtain⟨b,hb,rfl⟩:=GC.mp hy;obtain⟨x,v,e1,s1⟩:=hP a ha;obtain⟨y,u,e2,s2⟩:=hP b hb;obtain⟨ix,r1,i1⟩:=hok a x v e1;obtain⟨iy,r2,i2⟩:=hok b y u e2;refine yQ s1 s2 i1 i2 r1 r2 ?_;have f1:pkH H (f_ (.ref a))=pkV x v:=by show pkH H a=_;unfold pkH;rw[e1]
  have f2:pkH H (f_ (.ref b))=pkV y u:=by show pkH H b=_;unfold pkH;rw[e2]
  rw[← f1,← f2];exact q
end
section
theorem lx:∀ {as:List Addr} {its:List Value},aN (as.map V.ref) its→its=as.map Value.ref
 | [],its,r=>by cases r;rfl
 | a::as,its,r=>by
  cases r with
  | cons h t =>
   rw[lx t,show _=Value.ref a from h];rfl
theorem lQ:∀ (as:List Addr),aN (as.map V.ref) (as.map Value.ref)
 | []=>.nil
 | _::as=>.cons rfl (lQ as)
theorem wt (hc:X.calm=true):fQ X (.builtin "sorted") (fun xs H Q=>∃ (a:Addr) (t:Bool) (as:List Addr),xs=[.ref a]∧SqL X.K H a (as.map V.ref)∧Prs H t as ∧
  ∀ (S:Addr) (as':List Addr),H S=none→as'.Perm as→as'.Pairwise (fun x y=>ltP (pkH H y) (pkH H x)=false)→Q (.ref S) (upd H S (.lst (as'.map V.ref)))):=by
 intro pins s σ H xs us Q I r h;obtain⟨a,t,as,rfl,hS,hP,q⟩:=h;obtain⟨u,rfl,ru⟩:=jM r;cases ru;obtain⟨its,rv,pl,sz⟩:=I.list hS;have sz':its.length≤sizeLine:=by rw[← rv.length];exact sz
 obtain rfl:=lx rv;refine vz (kf:=fun v=>pkH H (f_ v)) uh (collect_list pl.isList ?_ sz');have kp0:∀ b o,s.heap.get? b=some o→((s.heap.push (seqObj "list" #[] 0)).update s.heap.objs.size (Obj.mapSeq (· ++ (as.map Value.ref).toArray))).get? b=some o:=fun b o e =>
  (G4 _ _ (Ne.symm (G3 (GJ e)))).trans (Gx _ e)
 refine⟨sz',tuples' true,fun h' kp=>wN (t:=t) hP fun b x v e =>?_,fun out hp hw =>?_⟩
 ·obtain⟨_,its,r,it⟩:=I.hok b _ e;exact⟨its,r,it.keeps fun c o e=>kp c o (kp0 c o e)⟩
 have ro:out=(out.map f_).map Value.ref:=by
  rw[Hj];refine (Jv out).symm.trans (Hc fun v hv =>?_);obtain⟨b,_,rfl⟩:=GC.mp (hp.mem_iff.mp hv);rfl
 have pm:(out.map f_).Perm as:=by
  have:=hp.map f_
  rw[Hj]at this;have e:as.map (f_ ∘ Value.ref)=as:=(Hc fun b _=>rfl).trans (Jv as);rw[e]at this;exact this
 have rv2:aN ((out.map f_).map V.ref) out:=by
  have:=lQ (out.map f_)
  rw[← ro]at this;exact this
 obtain⟨S,h1,h2,h3⟩:=I.sortd (a:=a) (its:=as.map Value.ref) (by rw[rv2.length,hp.length_eq];exact sz') rv2;subst h3;refine⟨.ref _,_,h2,rfl,q _ _ h1 pm ?_⟩;rw[Hg];exact hw
end
section
variable {e lo st:Expr}{te:TE}{tl ts:TO}{p2:Pos}
end
theorem rX:typeLookup (.type "list") "keys" = pure none:=by rw[typeLookup_type,builtinLookup_eq_fast];kernel_rfl
theorem qR:entryFor table "dict.update.loop" = some Builtin.«dict.update.loop» := entryFor_of_tree (by kernel_rfl)
theorem jE:plainId "dict.update.loop" = true:=by decide +kernel
section
variable {w:World}{E:Value→Shared→Prop}{a:Addr}{o:Obj}{xs:Array Value}{k:Nat}
theorem zm {name:Str}{u:Tok}{Q:Value→Shared→Prop}
  (hx:s.heap.get? a=some o) (hc:o.cls=.type "list") (hdat:o.data=.seq xs k) (hd:o.dict=none) (hmiss:typeLookup (.type "list") name=pure none) (hname:(["__module__","__name__","__qualname__","__doc__","__annotations__"]:List Str).contains name=false) (hA:A.handled=none)
  (h:∀ h' tk e,Heap.NewExcOf s.heap h' e "AttributeError" → E (.ref e) { s with heap:=h',toks:=tk }) (hsz:name.length + 100≤sizeLine:=by size_fits) :
  wpAny (model prog w) A (getAttrBy (.ref a) (.str name u) false) Q E s:=by
 obtain⟨c,dct,dat,sl⟩:=o;simp only at hc hdat hd;subst hc hdat hd;obtain⟨hp,g,d,tk,os⟩:=s;have hT:∀ tk',(⟨hp,g,d,tk',os⟩:Shared).TypeIs (.ref a) "list" := fun _=>⟨_,hx,rfl⟩
 have f1:=sub_AttributeError;have f3:=PySem.F.slot_list_getattribute.lookup;have f4:=PySem.F.slot_list_getattribute.bind (.ref a);have f5:=am_list_getattr_none;unfold getAttrBy
 repeat (any_goals (first | assumption | exact hT _ | ((with_reducible show wpAny _ _ (call (Value.builtin "list.__getattribute__") _ _) _ _ _);refine call_meets PySem.F.slot_list_getattribute (hT _) am_entry_list_getattribute (PySem.F.args_list_getattribute_2 _ _) (meets_getattribute_miss_list a xs k sl name _ hmiss hname hsz) ⟨hx,hA,fun h' tk' e hx' =>?_⟩) | wp_step))
 all_goals (try (obtain⟨t',u',he⟩:=hx'.there))
 all_goals (try (show wpAny _ _ (getattributeRaised _ _ _ _ _ _ _) _ _ _;unfold getattributeRaised))
 repeat (any_goals (first | assumption | wp_step))
 exact h _ _ _ hx'.of
theorem CO {Q:Option Value→Shared→Prop}(hx:s.heap.get? a=some o)(hc:o.cls=.type "list")(hdat:o.data=.seq xs k)(hd:o.dict=none)(hA:A.handled=none)
  (h:∀ h' tk,(∀ b u,s.heap.get? b=some u→h'.get? b=some u)→Q none { s with heap:=h',toks:=tk }):wpAny (model prog w) A (getAttr? (.ref a) "keys") Q E s:=by
 unfold getAttr? getAttrBy?;refine Gw (wpAny_mkText (Gw (wpAny_attempt (zm (s:={ s with toks:=s.toks + 1 }) hx hc hdat hd rX (by decide +kernel) hA (fun h' tk e x =>?_) (by rw[sizeLine_eq];decide +kernel)))));obtain⟨ob,vs,e1,e2,_⟩:=x.there;have hT:({ s with heap:=h',toks:=tk }:Shared).TypeIs (.ref e) "AttributeError" := ⟨ob,e1,e2⟩
 show wpAny _ _ (isInstance (.ref e) (.type "AttributeError") >>= _) _ _ _
 refine Gw (wpAny_isInstance hT sub_AttributeError ?_);simp only[if_true];exact GN (h h' tk x.keeps)
def EX {K:Type}[DecidableEq K](knd:KeyKind prog w K)(h:Heap)(items:Array Value)(ps:List (K × Value)):Prop :=
 items.size=ps.length∧∀ (i:Nat) (v:Value),items[i]? = some v→∃ (a:Addr) (o:Obj) (n:Nat) (key x:Value) (k:K),v=.ref a∧h.get? a=some o∧o.cls=.type "tuple" ∧ o.data=.seq #[key,x] n∧knd.is k key=true∧ps[i]? = some (k,x)
theorem EH {K:Type}[DecidableEq K]{knd:KeyKind prog w K}{R:Result→Shared→Prop}{d it l:Addr}{items:Array Value}{ps:List (K × Value)}(hh:A.handled=none)(hdl:d≠l)(hdi:d≠it)(hli:l≠it)(nd:(ps.map (·.1)).Nodup)(hsz:ps.length≤sizeLine):
  ∀ (m i:Nat) (s:Shared) (tk:Tok),items.size - i=m→i≤items.size→s.heap.IsListIter it l i→s.heap.IsList l items→EX knd s.heap items ps→s.heap.DictOf knd d (ps.take i) →
   (∀ (j:Nat) (b:Addr),items[j]? = some (.ref b)→b≠d∧b≠it) →
   (∀ h' tk',h'.DictOf knd d ps→(∀ b u,b≠d→b≠it→s.heap.get? b=some u→h'.get? b=some u)→R (.ok (.ret .none)) { s with heap:=h',toks:=tk' }) →
   codeAny (model prog w) A (.builtin "dict.update.loop" ⟨[.ref d,.ref it,.int (i:Int) tk,.none],[]⟩) R s:=by
 intro m
 induction m with
 | zero =>
  intro i s tk hm hi hit hl hP hd hne hR;have e:i=items.size:=by lia
  subst e;refine codeAny_builtin qR ?_;rw[Around.under_plainId jE _];show wpAny _ A.in1 (pyNext (.ref it) >>= _) _ _ s;refine Gw ((Walks.list (A:=A.in1) hh it l hli items).done s _ _ ⟨hit,hl⟩ fun h' tk' kk =>?_);show wpAny _ _ (Builtin.Dict.addKeywords d [] >>= fun _=>ret Value.none) _ _ _;refine Gw (GN (GN (hR h' tk' ?_ fun b u _ hb e=>kk b u (by simpa using hb) e)));have e1:ps.take items.size=ps:=by rw[hP.1];exact Ig
  rw[e1]at hd;obtain⟨o,es,ep,ho,r⟩:=hd;exact⟨o,es,ep,kk d o (by simpa using hdi) ho,r⟩
 | succ m ih =>
  intro i s tk hm hi hit hl hP hd hne hR;have hlt:i < items.size:=by lia
  refine codeAny_builtin qR ?_;rw[Around.under_plainId jE _];show wpAny _ A.in1 (pyNext (.ref it) >>= _) _ _ s;refine Gw ((Walks.list (A:=A.in1) hh it l hli items).item i s _ _ hlt ⟨hit,hl⟩ fun v h' tk' hv st' kk =>?_);obtain⟨b,o,n,key,x,k,rfl,hb,hc,hdat,hk,hps⟩:=hP.2 i v hv;have hbn:=hne i b hv;have hb':h'.get? b=some o:=kk b o (by simpa using hbn.2) hb;have hd':h'.DictOf knd d (ps.take i):=by
   obtain⟨o,es,ep,ho,r⟩:=hd;exact⟨o,es,ep,kk d o (by simpa using hdi) ho,r⟩
  dsimp only;refine Gw (wpAny_holding (Gw (wpAny_tryCatch ?_)));unfold Builtin.Dict.pairItems;refine Gw (wpAny_typeOf (T := "tuple") ⟨o,hb',hc⟩ ?_)
  rw[if_pos (by decide)];unfold seqItems?;refine Gw (Gw (wpAny_load hb' ?_));rw[hdat];refine GN (GN ?_);show wpAny _ _ (holding [key,x] (dictSet d key x)) _ _ _;have hi2:i < ps.length:=(Gz.mp hps).1;have et:ps.take (i + 1)=ps.take i++[(k,x)]:=by rw[G_,hps];rfl
  refine wpAny_holding (wpAny_dictSet_pairs (s:={ s with heap:=h',toks:=tk' }) hk hd' (fun h2 hd2 sb =>?_) (by rw[Ht];lia));have ea:stored (ps.take i) k x=ps.take (i + 1):=by
   unfold stored;rw[if_neg,et];intro h;rw[List.any_eq_true]at h;obtain⟨q,hq,e⟩:=h;have e':q.1=k:=by simpa using e
   have nd2:((ps.take (i + 1)).map (·.1)).Nodup:=by
    have:=nd.sublist ((IZ (i + 1) ps).map (·.1))
    exact this
   rw[et,G7,Iq]at nd2;exact nd2.2.2 q.1 (Hk hq) k (by simp) e'
  rw[ea]at hd2;have kk2:∀ b u,b≠d→h'.get? b=some u→h2.get? b=some u:=fun b u hb e=>(sb.2 b hb).trans e;refine GN ⟨plainId_quiet jE _,?_⟩;have ei:rawInt ((i:Int) + 1)=Value.int ((i + 1:Nat):Int) 0:=rfl;rw[ei];refine ih (i + 1) { s with heap:=h2,toks:=tk' + 1 } 0 (by lia) hlt ?_ ?_ ?_ hd2 hne fun h3 tk3 q1 q2=>hR h3 tk3 q1 fun b u hb1 hb2 e=>q2 b u hb1 hb2 (kk2 b u hb1 (kk b u (by simpa using hb2) e))
  ·exact st'.1.at fun o e=>kk2 it o (Ne.symm hdi) e
  ·exact st'.2.at fun o e=>kk2 l o (Ne.symm hdl) e
  ·refine⟨hP.1,fun j v hv' =>?_⟩;obtain⟨b',o',n',key',x',k',e1,e2,e3,e4,e5,e6⟩:=hP.2 j v hv';subst e1;have hbn':=hne j b' hv';exact⟨b',o',n',key',x',k',rfl,kk2 b' o' hbn'.1 (kk b' o' (by simpa using hbn'.2) e2),e3,e4,e5,e6⟩
end
section
variable {w:World}{E:Value→Shared→Prop}
theorem ng {K:Type}[DecidableEq K]{knd:KeyKind prog w K}{l:Addr}{items:Array Value}{ps:List (K × Value)}{Q:Value→Shared→Prop}(hh:A.handled=none)(hl:PlainL s.heap l items)(hP:EX knd s.heap items ps)(nd:(ps.map (·.1)).Nodup)(hsz:ps.length≤sizeLine)
  (h:∀ h' tk,h'.DictOf knd s.heap.objs.size ps→(∀ b u,s.heap.get? b=some u→h'.get? b=some u)→Q (.ref s.heap.objs.size) { s with heap:=h',toks:=tk }) :
  wpAny (model prog w) A (call (.type "dict") [.ref l]) Q E s:=by
 refine callType_codes (Q₁:=fun obj s₁=>obj=.ref s.heap.objs.size∧s₁={ s with heap:=s.heap.push { cls:=.type "dict",data:=.dict #[] } }) PySem.F.kt_called_dict (PySem.F.kt_typeCall_dict_1 _) PySem.F.entry_dict_init (kt_code_dict_new _ ⟨rfl,rfl⟩) ?_
 rintro obj s₁ ⟨rfl,rfl⟩;have hnew:(s.heap.push { cls:=.type "dict",data:=.dict #[] }).DictOf knd s.heap.objs.size []:=Heap.DictOf.new s.heap
 obtain⟨o,n,ho,hc,hd0,hdat⟩:=hl;have hol:l < s.heap.objs.size:=GJ ho;have ho':(s.heap.push { cls:=.type "dict",data:=.dict #[] }).get? l=some o:=Gx _ ho
 refine⟨hnew.typeIs,PySem.F.args_dict_init_2 _ _,?_⟩;unfold Builtin.«dict.__init__»;refine Gw ?_;unfold Builtin.Dict.selfAndRest;refine Gw (wpAny_notOrdered_dict hnew.typeIs ?_);show wpAny _ _ (pure (s.heap.objs.size,[Value.ref l])) _ _ _;refine GN ?_;show wpAny _ _ (Builtin.Dict.updateFrom "dict.__init__" s.heap.objs.size (.ref l) [] .none) _ _ _
 unfold Builtin.Dict.updateFrom;refine Gw (wpAny_typeOf (T := "list") ⟨o,ho',hc⟩ ?_)
 rw[if_pos (by decide)];refine Gw (CO ho' hc hdat hd0 hh fun h1 tk1 k1 =>?_);dsimp only at k1 ⊢;rw[if_pos (show (none:Option Value).isNone=true from rfl)];refine Gw (wpAny_rule ?_);have hl1:h1.IsList l items:=⟨o,k1 l o ho',hc,n,hdat⟩;refine Gw (wpAny_pyIter_list hl1 ?_);dsimp only;have hd1:h1.DictOf knd s.heap.objs.size []:=by
  obtain⟨o,es,ep,ho,r⟩:=hnew;exact⟨o,es,ep,k1 _ o ho,r⟩
 have hsd:s.heap.objs.size < h1.objs.size:=by
  obtain⟨o,es,ep,ho,r⟩:=hd1;exact GJ ho
 refine GN ⟨plainId_quiet jE _,?_⟩;have e0:rawInt 0=Value.int ((0:Nat):Int) 0:=rfl;rw[e0];have kp:∀ b u,s.heap.get? b=some u→h1.get? b=some u:=fun b u e=>k1 b u (Gx _ e);have hit:(h1.push { cls:=.type "list_iterator",data:=.fields #[.ref l,.int 0 0] }).IsListIter h1.objs.size l 0:=⟨_,GQ _ rfl,rfl,rfl⟩
 refine EH (A:=A.in1) (knd:=knd) (l:=l) (items:=items) (ps:=ps) (show A.in1.handled=none from hh) (Ij hol) (G3 hsd) (G3 (IP hol hsd)) nd hsz items.size 0 { s with heap:=h1.push { cls:=.type "list_iterator",data:=.fields #[.ref l,.int 0 0] },toks:=tk1 } 0 (by rfl) (GF _) hit ?_ ?_ ?_ ?_ fun h2 tk2 q1 q2 =>?_
 ·obtain⟨o',ho2,r⟩:=hl1;exact⟨o',Gx _ ho2,r⟩
 ·refine⟨hP.1,fun j v hv =>?_⟩;obtain⟨b',o',n',key',x',k',e1,e2,e3,e4,e5,e6⟩:=hP.2 j v hv;exact⟨b',o',n',key',x',k',e1,Gx _ (kp _ _ e2),e3,e4,e5,e6⟩
 ·obtain⟨o',es,ep,ho2,r⟩:=hd1;exact⟨o',es,ep,Gx _ ho2,r⟩
 ·intro j b hv;obtain⟨b',o',n',key',x',k',e1,e2,_⟩:=hP.2 j _ hv;cases e1
  have:=GJ e2
  exact⟨G3 this,G3 (IP this hsd)⟩
 ·exact⟨rfl,h h2 tk2 q1 fun b u e=>q2 b u (G3 (GJ e)) (G3 (IP (GJ e) hsd)) (Gx _ (kp b u e))⟩
end
abbrev jK (H:Hp):List Addr→List (Key × V)→Prop:=Paired fun a kv=>H a=some (.tup [kV kv.1,kv.2])
section
theorem kl (hc:X.calm=true):fQ X (.type "dict") (fun xs H Q=>∃ (a:Addr) (as:List Addr) (kvs:List (Key × V)),xs=[.ref a]∧SqL X.K H a (as.map V.ref)∧jK H as kvs∧(kvs.map (·.1)).Nodup∧Nw H (.dK kvs) fun p H=>Q (.ref p) H):=by
 intro pins s σ H xs us Q I r h;obtain⟨a,as,kvs,rfl,hS,hA,nd,q⟩:=h;obtain⟨u,rfl,ru⟩:=jM r;cases ru;obtain⟨its,rv,pl,sz⟩:=I.list hS;obtain rfl:=lx rv;have key:∀ (as:List Addr) (kvs:List (Key × V)),jK H as kvs→∃ ps:List (Key × Value),KV kvs ps∧EX (aI X.prog X.w) s.heap (as.map Value.ref).toArray ps:=by
  intro as
  induction as with
  | nil =>
   intro kvs h;cases h;exact⟨[],.nil,rfl,fun i v hv=>by simp at hv⟩
  | cons b as ih =>
   intro kvs h;cases h with
   | @cons _ kv _ kvs hb t =>
    obtain⟨ps,k1,k2,k3⟩:=ih kvs t;obtain⟨_,its,ri,o,ho,hcl,n,hdat⟩:=I.hok b _ hb;cases ri with
    | cons r1 ri=>cases ri with
     | cons r2 ri =>
      cases ri
      rename_i key' x'
      refine⟨(kv.1,x')::ps,.cons ⟨rfl,r2⟩ k1,?_,fun i v hv =>?_⟩
      ·rw[GR,Gy]at k2 ⊢;rw[G2,G2,k2]
      ·cases i with
       | zero =>
        have e:Value.ref b=v:=by simpa using hv
        exact⟨b,o,n,key',x',kv.1,e.symm,ho,hcl,by rw[hdat],fO r1,rfl⟩
       | succ i =>
        obtain⟨b',o',n',key',x',k',e1,e2,e3,e4,e5,e6⟩:=k3 i v (by simpa using hv);exact⟨b',o',n',key',x',k',e1,e2,e3,e4,e5,by simpa using e6⟩
 obtain⟨ps,k1,k2⟩:=key as kvs hA;have lk:kvs.length=ps.length:=KV.length k1;have lps:ps.length≤sizeLine:=by
  have:=k2.1
  rw[GR,Gy]at this;rw[Gy]at sz
  lia
 have ek:ps.map (·.1)=kvs.map (·.1):=by
  have:∀ {kvs:List (Key × V)} {ps:List (Key × Value)},KV kvs ps→ps.map (·.1)=kvs.map (·.1):=fun {kvs}=>by
   induction kvs with
   | nil=>intro ps h;cases h;rfl
   | cons a kvs ih =>
    intro ps h;cases h with
    | cons r t=>rw[GX,GX,ih t,r.1]
  exact this k1
 refine ng (knd:=aI X.prog X.w) (ps:=ps) (I.ok.hd hc) pl k2 (by rw[ek];exact nd) lps fun h' tk hd kp =>?_;refine⟨.ref s.heap.objs.size,upd H s.heap.objs.size (.dK kvs),I.laid (t':=tk) kp (GB _) ⟨by lia,?_,ps,k1,hd⟩,rfl,q _ (I.hok.fresh (GB _))⟩
 have:=I.big
 cases e:(s.heap.objs.size == sysModules) with
 | false=>rfl
 | true =>
  have e':s.heap.objs.size=sysModules:=by simpa using e
  rw[e']at this;exact absurd this (H_ _)
theorem qy (hu:X.A.units + 1 < cLine):OpR X (compareOp .NotIn) (fun x y H Q=>∃ (a:Addr) (o:Option V),y=.ref a∧km H a x o∧Q (.bl (!o.isSome)) H):=by
 intro pins s σ H x y v u Q I rx ry h;obtain⟨a,o,rfl,g,q⟩:=h;cases ry;exact C9 hu I g rx fun s' I'=>⟨.bl _,H,I',rfl,q⟩
end
section
variable {P:Program}{w:World}{mg:Str→Option Value}{base:Heap}{N:List Str}{qual:Str}{scope:Scope}{f:Addr}{cd:Value}{cl:List (Str × Addr)}{outer:List Env}{s0:Shared}{H0:Hp}{E:XK}
end
section
end
end L2
namespace L2
open PySem PySem.Spec PySem.Calls PyProof.Rows
variable {H:Hp}{X:Cx}{s:Shared}{pos:Pos}{prog:Program}{A:Around}{K:PySem.W.Frag}
section
variable {st:Stmt}{rest:List Stmt}{t u:TS}{e a b:PySem.Expr}{te ta tb:TE}
theorem tI:uZ X [] Dp:=⟨aE⟩
theorem Cq (h:PEx X e te):PSx X (.Return (some e) pos) (E5 te):=⟨av h.h⟩
theorem Ae {c:PySem.Expr}{l r:List Stmt}{tc:TT}(hc:PT X c tc)(ha:uZ X l t)(hb:uZ X r u):PSx X (.If c l r pos) (E_ tc t u):=⟨aR hc ha.h hb.h⟩
theorem DZ {r:R2}(hr:IxR X r)(ha:PEx X a ta)(hb:PE X b tb)(hs:xT b):PEx X (.Subscript a b pos) (tOp r ta tb):=⟨aB hr ha.h hb hs⟩
end
section
variable {P:Program}{w:World}{mg:Str→Option Value}{base:Heap}
end
def Itk (d:Addr)(ob:Obj)(kvs:List (Key × V)):It :=
 ⟨fun i H=>H d=some (.frz ob (.dK kvs))∧i < kvs.length,fun i H x H'=>H'=H∧∃ k v,kvs[i]? = some (k,v)∧x=kV k,fun i H=>H d=some (.frz ob (.dK kvs))∧kvs.length≤i⟩
theorem F9 {k:Key}{v:Value}(h:kM k v=true):aV (kV k) v:=by
 rcases ba h with⟨i,t,rfl,rfl⟩|⟨x,t,rfl,rfl⟩
 ·exact⟨t,rfl⟩
 ·exact⟨t,rfl⟩
theorem FB {κ:Type}{kvs:List (κ × V)}{vs:List (κ × Value)}(h:KV kvs vs):∀ {i:Nat} {k:κ} {x:Value},vs[i]? = some (k,x)→∃ v,kvs[i]? = some (k,v)∧aV v x:=by
 have h':Paired _ kvs vs:=h
 clear h
 induction h' with
 | nil=>intro i k x e;cases e
 | @cons a b as bs h _ ih =>
  intro i k x e;cases i with
  | zero=>cases e;exact⟨a.2,Hn some (Prod.ext h.1 rfl),h.2⟩
  | succ i=>exact ih e
theorem Ei {κ:Type}{kvs:List (κ × V)}{vs:List (κ × Value)}(h:KV kvs vs){i:Nat}{k:κ}{x:Value}(e:vs[i]? = some (k,x)):∃ v,kvs[i]? = some (k,v) :=
 (FB h e).imp fun _ h=>h.1
theorem xY {P:Program}{w:World}{K:PySem.W.Frag}{tg:Expr}{h0:Heap}{d it:Addr}{ob:Obj}{kvs:List (Key × V)}{vs:List (Key × Value)}{ep:Nat}(kv:KV kvs vs)(hD:h0.DictAt (aI P w) d vs ep)(hob:h0.get? d=some ob)(hne:d≠it):
  zn P w K tg (Itk d ob kvs) [it] it (fun i h=>h.IsKeyIter it d i vs.length ep) where
 mem:=by simp
 obj:=fun i h st b hb=>by
  have e:b=it:=by simpa using hb
  subst e;obtain⟨o,e,c,dd⟩:=st;exact⟨o,e,fun v z=>by rw[dd]at z;cases z⟩
 keep:=fun i h h' st k=>st.at fun o e=>k it (by simp) o e
 item:=by
  intro X hP hw hK hc i pins s σ H E I hf st hg;subst hP hw hK;obtain⟨f0,f1,f2,f3,f4,f5⟩:=hf it (by simp);obtain⟨hd,hi⟩:=hg;have hl:kvs.length=vs.length:=Paired.length kv;have hD':s.heap.DictAt (aI X.prog X.w) d vs ep:=hD.at' fun o e=>by
   rw[hob]at e;cases e;exact (I.hok d _ hd).1
  obtain⟨⟨k,x⟩,hx⟩:∃ p,vs[i]? = some p:=⟨vs[i],by simp[← hl,hi]⟩;refine wpAny_pyNext_dict_item st hD' hx fun key h' hkey st' sb =>?_;have I1:Inv X pins σ H { s with heap:=h' }:=I.turned (t':=s.toks) (fun b o hb e=>(sb.2 b hb).trans e) f0 f1 f3 f4 f5;obtain⟨o,e,c,dd⟩:=id st';obtain⟨v,hv⟩:=Ei kv hx;exact⟨key,rfl,uv (s:={ s with heap:=h' }) e c dd (by decide) ⟨kV k,H,I1,F9 hkey,⟨rfl,k,v,hv,rfl⟩,st',fun b hb=>(hf b hb).1⟩⟩
 done:=by
  intro X hP hw hK hc i pins s σ H E I hf st hg;subst hP hw hK;obtain⟨f0,f1,f2,f3,f4,f5⟩:=hf it (by simp);obtain⟨hd,hi⟩:=hg;have hl:kvs.length=vs.length:=Paired.length kv;have hD':s.heap.DictAt (aI X.prog X.w) d vs ep:=hD.at' fun o e=>by
   rw[hob]at e;cases e;exact (I.hok d _ hd).1
  exact wpAny_pyNext_dict_end (I.ok.hd hc) st hD' (by rw[Hz];lia) fun h' eb=>⟨rfl,I.turned (t':=s.toks) (fun b o hb e=>eb b o hb e) f0 f1 f3 f4 f5⟩
 self:=fun _ _ _ _ _ st h=>wpAny_pyIter_keyiter st h
section
variable {tg:Expr}
abbrev FJ (tl:TE):TI:=fun σ H R=>tl σ H fun x H1=>∃ d kvs,x=.ref d∧H1 d=some (.dK kvs)∧∀ ob,R (Itk d ob kvs) (upd H1 d (.frz ob (.dK kvs)))
theorem Inv.frozen {pins:List (Addr × Obj)}{σ:St}{H:Hp}{s:Shared}{d:Addr}{ob:Obj}{kvs:List (Key × V)}(I:Inv X pins σ H s)(e:H d=some (.dK kvs))(ho:s.heap.get? d=some ob):Inv X pins σ (upd H d (.frz ob (.dK kvs))) s:=by
 have old:∀ b o,H b=some o→b≠d→upd H d (.frz ob (.dK kvs)) b=some o:=fun b o q n=>by rw[aD n];exact q
 refine I.un (t':=s.toks) ⟨fun b o q _ _ _=>q,fun b o q _ _ _=>⟨o.slots,q⟩,fun b o q n _ =>?_,fun b o q _=>⟨o,q⟩,fun b xs q=>old b _ q fun z =>?_,fun b o u q=>old b _ q fun z =>?_,fun b ps q=>⟨#[],?_⟩⟩ fun b u q =>?_
 ·rw[aD fun z=>by rw[z,e]at n;cases n];exact n
 ·rw[z,e]at q;cases q
 ·rw[z,e]at q;cases q
 ·rw[old b _ q fun z=>by rw[z,e]at q;cases q];simp
 ·by_cases hb:b=d
  ·subst hb;rw[ah]at q;cases q;refine⟨ho,?_⟩;exact (I.hok b _ e).stay (fun _ _ _ r=>r) (fun c r=>old c _ r fun z=>by rw[z,e]at r;cases r) fun c xs r=>old c _ r fun z=>by rw[z,e]at r;cases r
  ·rw[aD hb]at q;exact (I.hok b u q).stay (fun _ _ _ r=>r) (fun c r=>old c _ r fun z=>by rw[z,e]at r;cases r) fun c xs r=>old c _ r fun z=>by rw[z,e]at r;cases r
theorem Ct {l:Expr}{tl:TE}(hl:PE X l tl):PI X tg l (FJ tl):=by
 intro pins s σ H R I h;refine thn (hl pins s σ H _ I h) fun v s1 ⟨x,H1,I1,r1,q1⟩ =>?_;obtain⟨d,kvs,e,hd,q⟩:=q1;subst e;cases r1;obtain⟨_,hs,vs,kv,dof⟩:=I1.hok d _ hd;obtain⟨o,es,ep,ho,r⟩:=id dof;have hD:s1.heap.DictAt (aI X.prog X.w) d vs ep:=⟨o,es,ho,r⟩;refine wpAny_pyIter_dict hs hD ?_;have I2:=I1.frozen hd ho;have hdl:d < s1.heap.objs.size:=GJ ho;refine⟨s1.heap.objs.size,[s1.heap.objs.size],_,_,_,rfl,I2.kept (t':=s1.toks) fun b o e=>Gx _ e,xY kv hD ho (G3 hdl),⟨_,GQ _ rfl,rfl,rfl⟩,fun b hb =>?_,q o⟩;have e:b=s1.heap.objs.size:=by simpa using hb
 subst e;exact I2.fpOk (GB _) (I2.hok.fresh (GB _))
end
theorem Bk {d:Addr}{ob:Obj}{kvs:List (Key × V)}{g:TG}{tb:TS}{D:lh}{σ:St}{H:Hp}(Pv:Nat→St→Hp→Prop)(h0:Pv 0 σ H)(hl:∀ i σ H,i≤kvs.length→Pv i σ H→H d=some (.frz ob (.dK kvs)))
  (hs:∀ i k v σ H,kvs[i]? = some (k,v)→Pv i σ H→g (kV k) σ H fun σ2 H2=>tb { D with nx:=Pv (i + 1),ct:=Pv (i + 1),bk:=D.nx } σ2 H2) (hd:∀ σ H,Pv kvs.length σ H→D.nx σ H) :
  ∃ W:Nat→Nat→St→Hp→Prop,(∃ m,W 0 m σ H)∧∀ i m σ H,W i m σ H →
   ((Itk d ob kvs).stop i H∧D.nx σ H)∨((Itk d ob kvs).go i H∧∃ N:St→Hp→Prop,(∀ σ' H',N σ' H'→∃ m',m' < m∧W (i + 1) m' σ' H')∧∀ x H',(Itk d ob kvs).yld i H x H'→g x σ H' fun σ2 H2=>tb { D with nx:=N,ct:=N,bk:=D.nx } σ2 H2):=by
 refine⟨fun i m σ H=>m=kvs.length - i∧i≤kvs.length∧Pv i σ H,⟨kvs.length,by simp,GF _,h0⟩,?_⟩;rintro i m σ H ⟨rfl,hi,p⟩;have q:=hl i σ H hi p;by_cases hlt:i < kvs.length
 ·refine .inr ⟨⟨q,hlt⟩,Pv (i + 1),fun σ' H' p'=>⟨kvs.length - (i + 1),by omega,rfl,hlt,p'⟩,fun x H' y =>?_⟩;obtain⟨e,k,v,hk,rfl⟩:=y;subst e;exact hs i k v σ _ hk p
 ·have e:i=kvs.length:=by lia
  subst e;exact .inl ⟨⟨q,GB _⟩,hd σ H p⟩
section
end
end L2
namespace L2
open PySem PySem.Spec PySem.Calls PyProof.Rows PySem.W
variable {H:Hp}{X:Cx}{s:Shared}{pos:Pos}{prog:Program}{A:Around}{K:PySem.W.Frag}
section
variable {w:World}{E:Value→Shared→Prop}
end
section
end
section
variable {w:World}{E:Value→Shared→Prop}
end
section
end
section
end
section
variable {prog:Program}{w:World}{K:Type}[DecidableEq K]{knd:HeapKind prog w K}{A:Around}{E:Value→Shared→Prop}{s:Shared}{d b:Addr}{k:K}{ps:List (K × Addr × Value)}
end
section
variable {o e f:Expr}{apos cpos:Pos}{td ty tx:TE}
end
section
open PySem.SeqAt
open PySem.AutoSeq1 (wpAny_loadPart')
open PySem.MeetsSeq PySem.MeetsSeq2 PySem.MeetsSeq3
end
section
end
section
variable {tg:Expr}
end
section
variable {σ0 cs:St}{k:Nat}{g:TG}{te:TE}{tt:TT}{H1:Hp}{Q:VK}
end
section
variable {w:World}{E:Value→Shared→Prop}{α:Type}{lt:α→α→Bool}
theorem tm {r:Addr}{Q:Value→Shared→Prop}(L:Lin lt)(hcol:wpAny (model prog w) A.in1 (collect (.ref r)) (fun vs s1=>vs.length≤sizeLine∧∃ (kf:Value→α) (κ:SortKind),(∀ h',(∀ b o,s1.heap.get? b=some o→h'.get? b=some o)→Dj prog w vs kf lt κ { s1 with heap:=h' }) ∧
   ∀ out:List Value,out.Perm vs→out.Pairwise (fun x y=>lt (kf y) (kf x)=false)→Q (.ref s1.heap.objs.size) { s1 with heap:=sortedHeap (s1.heap.push (seqObj "list" vs.toArray 0)) s1.heap.objs.size vs out.toArray }) E s) :
  wpAny (model prog w) A (call (.builtin "sorted") [.ref r]) Q E s:=by
 refine Calls.call_function_entry kind_sorted plain_sorted entry_sorted (args_sorted1 _) ?_;unfold Builtin.«sorted»;refine Gw (m:=checkCount "sorted" 1 1 _) (GN ?_)
 refine Gw (Ho hcol (fun vs s1 ⟨sz,kf,κ,hS,hq⟩ =>?_) fun _ _ e=>e);refine Gw (wpAny_newList ?_ sz);have hoL:(s1.heap.push (seqObj "list" vs.toArray 0)).get? s1.heap.objs.size=some (seqObj "list" vs.toArray 0):=GQ _ rfl
 show wpAny _ _ _ _ _ { s1 with heap:=s1.heap.push (seqObj "list" vs.toArray 0) }
 refine Gw (wpAny_holding (wpAny_call_entry slot_list_sort ⟨_,hoL,rfl⟩ entry_list_sort (jQ (kf:=kf) (κ:=κ) L hoL sz (fun h' kp=>hS h' fun b o e =>?_) fun out o u=>⟨_,rfl,?_⟩) (args_list_sort _)))
 ·exact kp b o (G3 (GJ e)) (Gx _ e)
 ·exact GN ⟨_,rfl,hq out o u⟩
end
def i5 (es:List (Str × Int)):List (Key × V):=es.map fun e=>(Sum.inr e.1,V.int e.2)
def ES (H1 H:Hp)(us:List V)(es:List (Str × Int)):Prop:=us.length=es.length∧∀ (j:Nat) (u:V),us[j]? = some u→∃ (a:Addr) (e:Str × Int),u=.ref a∧es[j]? = some e∧H1 a=none∧H a=some (.tup [.str e.1,.int e.2])
abbrev B4 (td:TE):TE:=fun σ H Q=>td σ H fun x H1=>∃ (a:Addr) (es:List (Str × Int)),x=.ref a∧H1 a=some (.dK (i5 es)) ∧
 ∀ S us es' H',am H1 H'→H1 S=none→H' S=some (.lst us)→es'.Perm es→es'.Pairwise (fun x y=>¬ y.1.cps.toList < x.1.cps.toList)→ES H1 H' us es'→Q (.ref S) H'
theorem xp:∀ {es:List (Str × Int)} {vs:List (Key × Value)},KV (i5 es) vs→es.length=vs.length∧∀ (j:Nat) (k:Key) (x:Value),vs[j]? = some (k,x)→∃ e,es[j]? = some e∧k=Sum.inr e.1∧aV (.int e.2) x
 | [],vs,h=>by
  cases h;exact⟨rfl,fun j k x e=>by simp at e⟩
 | e::es,_,.cons h t=>by
  obtain⟨h1,h2⟩:=xp (es:=es) t;refine⟨by rw[G2,G2,h1],fun j k x hj =>?_⟩;rcases j with _|j
  ·cases hj;exact⟨e,rfl,h.1.symm,h.2⟩
  ·exact h2 j k x hj
section
theorem yA {o:Expr}{td:TE}{p apos pos pos2:Pos}(hc:X.calm=true)(hg:Gl X "sorted")(hm:X.mg "sorted" = none)(ho:PE X o td)
  (hbase:attributeBase o "items" X.env (eval o X.env)=eval o X.env:=by rfl) (hline:(apos.endLine == pos2.line)=true:=by rfl)
  (hs1:starEach [Expr.Call (.Attribute o "items" apos) [] [] pos2] X.env=[(false,eval (Expr.Call (.Attribute o "items" apos) [] [] pos2) X.env)]:=by rfl) :
  PE X (.Call (.Name "sorted" p) [.Call (.Attribute o "items" apos) [] [] pos2] [] pos) (B4 td):=by
 intro pins s σ H Q I h;refine wpAny_Call_Name_kw (ke I hg hm mh ?_);refine PyProof.Rows.callWith_builtin1 ?_ hs1 rfl;rw[hs1];show wpAny _ _ (spliced [(false,eval (Expr.Call (.Attribute o "items" apos) [] [] pos2) X.env)]) _ _ s
 refine Calls.spliced_cons ?_;refine wpAny_Call_method0_late hbase hline (thn (ho pins s σ H _ I h) fun u s1 ⟨x,H1,I1,rx,a,es,ex,ea,q⟩ =>?_);subst ex;obtain rfl:u=Value.ref a:=rx;obtain⟨t1,t2,hd⟩:=Ev I1 (.inl ⟨_,.inl ea⟩);refine⟨_,_,PySem.F.plainAttrs_dict,PySem.F.slot_dict_items,PySem.F.type_dict_items,t1,t2,Calls.callWith_builtin rfl (PySem.evalArgs_none ?_)⟩;obtain⟨zl,_,vs,kv,dof⟩:=Bu I1.hok ea;obtain⟨ep,dat⟩:=dof.dictAt;obtain⟨hl,hk⟩:=xp kv;have zl':es.length≤sizeLine:=by unfold i5 at zl;rwa [Gy]at zl
 refine call_meetsIn PySem.F.slot_dict_items dat.dictOf.typeIs PySem.F.entry_dict_items (PySem.F.args_dict_items_1 _) (meets_dict_items (aI X.prog X.w) a hd) ⟨⟨vs,dat.dictOf⟩,?_⟩;refine Calls.spliced_nil ?_;refine tm uh ?_;have I2:Inv X pins σ H1 { s1 with heap:=s1.heap.push { cls:=.type "dict_items",data:=.fields #[.ref a] } }:=I1.kept (t':=s1.toks) fun b o e=>Gx _ e
 have dat2:(s1.heap.push { cls:=.type "dict_items",data:=.fields #[.ref a] }).DictAt (aI X.prog X.w) a vs ep:=dat.push _
 have vw:(s1.heap.push { cls:=.type "dict_items",data:=.fields #[.ref a] }).IsItemsView s1.heap.objs.size a:=⟨_,GQ _ rfl,rfl,rfl⟩
 generalize eg:s1.heap.push { cls:=.type "dict_items",data:=.fields #[.ref a] }=g at *
 have hh:X.A.handled=none:=I1.ok.hd hc;refine kdx_collect (s:={ s1 with heap:=g }) (knd:=aI X.prog X.w) (kvs:=vs) (ep:=ep) (d:=a) (show X.A.in1.handled=none from hh) vw dat2 (by lia) fun h' tk as kp la G =>?_;dsimp only at kp G ⊢;have al:as.length=es.length:=by lia
 have at':∀ (j:Nat) (b:Addr),as[j]? = some b→∃ (e:Str × Int) (t:Tok) (x:Value),es[j]? = some e∧aV (.int e.2) x∧h'.get? b=some { cls:=.type "tuple",data:=.seq #[.str e.1 t,x] }:=fun j b hj=>by
  obtain⟨key,k,x,e1,e2,e3⟩:=G.pairs j b hj;obtain⟨e,f1,f2,f3⟩:=hk j k x e1;subst f2;rcases ba (k:=Sum.inr e.1) (v:=key) e2 with⟨i',t,z1,z2⟩|⟨y,t,z1,z2⟩
  ·cases z1
  ·cases z1;subst z2;exact⟨e,t,x,f1,f3,e3⟩
 let H2:Hp:=fun b=>match (as.zip es).lookup b with | some e=>some (.tup [.str e.1,.int e.2]) | none=>H1 b
 have up2:∀ (j:Nat) (b:Addr) (e:Str × Int),as[j]? = some b→es[j]? = some e→H2 b=some (.tup [.str e.1,.int e.2]):=fun j b e a1 a2=>by
  show (match (as.zip es).lookup b with | some e=>some (HO.tup [.str e.1,.int e.2]) | none=>H1 b)=_;rw[rW G.rise a1 a2]
 have ab:∀ (j:Nat) (b:Addr),as[j]? = some b→g.objs.size < b∧b < h'.objs.size:=fun j b a1=>⟨G.above b (HC.mpr ⟨j,a1⟩),G.there (HC.mpr ⟨j,a1⟩)⟩;have eat:∀ (j:Nat) (b:Addr),as[j]? = some b→∃ e,es[j]? = some e:=fun j b a1=>⟨es[j]'(by have:=(Gz.mp a1).1;lia),G0 _⟩;have hP:Prs H2 false as:=fun b hb=>by
  obtain⟨j,hj⟩:=HC.mp hb;obtain⟨e,he⟩:=eat j b hj;exact⟨_,_,up2 j b e hj he,⟨_,rfl⟩⟩
 refine⟨by rw[Gy];lia,fun v=>pkH H2 (f_ v),tuples' true,fun h2 kp2=>wN (t:=false) hP fun b x v e =>?_,fun out hp hw =>?_⟩
 ·have e':(match (as.zip es).lookup b with | some e=>some (HO.tup [.str e.1,.int e.2]) | none=>H1 b)=some (.tup [.str x,v]):=e;cases w:(as.zip es).lookup b with
  | none =>
   rw[w]at e';obtain⟨_,its,r,it⟩:=I2.hok b _ e';exact⟨its,r,it.keeps fun c o e=>kp2 c o (kp c o e)⟩
  | some y =>
   rw[w]at e';obtain⟨j,a1,a2⟩:=kL w;obtain⟨e3,t,x3,f1,f2,f3⟩:=at' j b a1;rw[f1]at a2;cases a2;cases e';exact⟨[.str y.1 t,x3],.cons ⟨t,rfl⟩ (.cons f2 .nil),_,kp2 _ _ f3,rfl,0,rfl⟩
 obtain⟨bs,ebs⟩:∃ bs:List Addr,bs=out.map f_:=⟨_,rfl⟩;have ro:out=bs.map Value.ref:=by
  rw[ebs,Hj];refine (Jv out).symm.trans (Hc fun v hv =>?_);obtain⟨b,_,rfl⟩:=GC.mp (hp.mem_iff.mp hv);rfl
 have pb:bs.Perm as:=by
  have:=hp.map f_
  rw[Hj]at this;have e:as.map (f_ ∘ Value.ref)=as:=(Hc fun b _=>rfl).trans (Jv as);rw[e]at this;rw[ebs];exact this
 obtain⟨f,ef⟩:∃ f:Addr→Str × Int,f=fun b=>((as.zip es).lookup b).getD (("" : Str),0):=⟨_,rfl⟩
 have fat:∀ (j:Nat) (b:Addr) (e:Str × Int),as[j]? = some b→es[j]? = some e→f b=e:=fun j b e a1 a2=>by
  rw[ef];show ((as.zip es).lookup b).getD (("" : Str),0)=e
  rw[rW G.rise a1 a2];rfl
 have fin:∀ b∈as,H2 b=some (.tup [.str (f b).1,.int (f b).2]):=fun b hb=>by
  obtain⟨j,hj⟩:=HC.mp hb;obtain⟨e,he⟩:=eat j b hj;rw[fat j b e hj he];exact up2 j b e hj he
 have emap:as.map f=es:=by
  refine List.ext_getElem (by rw[Gy];exact al) fun j h1 h2 =>?_;rw[List.getElem_map];exact fat j _ _ (G0 _) (G0 _)
 have gl:g.objs.size≤h'.objs.size:=by
  obtain⟨ov,hov,_⟩:=id vw
  have:=GJ (kp _ _ hov)
  rw[← eg,size_push'];exact this
 have kp3:∀ b o,h'.get? b=some o→(sortedHeap (h'.push (seqObj "list" (as.map Value.ref).toArray 0)) h'.objs.size (as.map Value.ref) out.toArray).get? b=some o:=fun b o e=>iO e
 obtain⟨n2,hS⟩:=jO (h:=h') (vs:=as.map Value.ref) (out:=out.toArray);generalize (sortedHeap (h'.push (seqObj "list" (as.map Value.ref).toArray 0)) h'.objs.size (as.map Value.ref) out.toArray)=h3 at *
 have lo:∀ b o,H1 b=some o→H2 b=some o∧b < g.objs.size:=fun b o e=>by
  have hb:b < g.objs.size:=I2.hok.lt e;refine⟨?_,hb⟩;show (match (as.zip es).lookup b with | some e=>some (HO.tup [.str e.1,.int e.2]) | none=>H1 b)=_;cases q:(as.zip es).lookup b with
  | none=>exact e
  | some x =>
   obtain⟨j,a1,_⟩:=kL q;exact absurd (IP hb (ab j b a1).1) (H_ _)
 have sm:am H1 (upd H2 h'.objs.size (.lst (bs.map V.ref))):=fun b o e=>by
  rw[aD (G3 (GK (lo b o e).2 gl))];exact (lo b o e).1
 have fr:H1 h'.objs.size=none:=I2.hok.fresh gl;refine⟨.ref h'.objs.size,_,I2.laids (t':=tk) (fun b o e=>kp3 b o (kp b o e)) sm (fun b u e1 e2 =>?_),rfl,q _ _ (bs.map f) _ sm fr ah (emap▸pb.map f) ?_ ⟨by rw[Gy,Gy],fun j u hj =>?_⟩⟩
 ·by_cases hb:b=h'.objs.size
  ·subst hb;rw[ah]at e1;cases e1;refine⟨gl,?_,out,n2,by rw[ro];exact lQ bs,hS⟩;rw[Gy,pb.length_eq]
   lia
  ·rw[aD hb]at e1;have e1':(match (as.zip es).lookup b with | some e=>some (HO.tup [.str e.1,.int e.2]) | none=>H1 b)=some u:=e1;cases w:(as.zip es).lookup b with
   | none=>rw[w]at e1';rw[e2]at e1';cases e1'
   | some y =>
    rw[w]at e1';cases e1';obtain⟨j,a1,a2⟩:=kL w;obtain⟨e3,t,x3,f1,f2,f3⟩:=at' j b a1;rw[f1]at a2;cases a2;exact⟨HU (ab j b a1).1,by rw[sizeLine_eq];exact Nat.le_of_ble_eq_true rfl,[.str y.1 t,x3],.cons ⟨t,rfl⟩ (.cons f2 .nil),_,kp3 _ _ f3,rfl,0,rfl⟩
 ·rw[ro,Hg]at hw;rw[Hg];refine hw.imp_of_mem fun {x y} hx hy h5 h6 =>?_;have kx:pkH H2 x=pkV (f x).1 (.int (f x).2):=by unfold pkH;rw[fin x (pb.mem_iff.mp hx)]
  have ky':pkH H2 y=pkV (f y).1 (.int (f y).2):=by unfold pkH;rw[fin y (pb.mem_iff.mp hy)]
  have h5':ltP (pkH H2 y) (pkH H2 x)=false:=h5;rw[kx,ky']at h5';have hv:ltP (pkV (f y).1 (.int (f y).2)) (pkV (f x).1 (.int (f x).2))=if (f y).1.cps.toList=(f x).1.cps.toList then (if (f y).2=(f x).2 then decide (([]:List Nat) < []) else decide ((f y).2 < (f x).2)) else decide ((f y).1.cps.toList < (f x).1.cps.toList):=rfl
  rw[hv,if_neg fun c=>by rw[c]at h6;exact HM _ h6,GH h6]at h5';cases h5'
 ·rw[Ha]at hj;obtain⟨b,hb,rfl⟩:=He.mp hj;have hbas:=pb.mem_iff.mp (GW hb);obtain⟨j2,hj2⟩:=HC.mp hbas;have ia:=ab j2 b hj2;refine⟨b,f b,rfl,by rw[Ha,hb];rfl,I2.hok.fresh (HU ia.1),?_⟩;rw[aD (G3 ia.2)];exact fin b hbas
end
section
end
section
variable {w:World}{E:Value→Shared→Prop}
end
section
end
section
variable {w:World}{E:Value→Shared→Prop}
end
section
end
section
variable {prog:Program}{w:World}{κ:Type}[DecidableEq κ]{knd:HeapKind prog w κ}{A:Around}{E:Value→Shared→Prop}{s:Shared}
end
section
end
end L2
namespace L2
open PySem PySem.Spec PySem.Calls PyProof.Rows
variable {H:Hp}{X:Cx}{s:Shared}{pos:Pos}{prog:Program}{A:Around}{K:PySem.W.Frag}
section
variable {w:World}{E:Value→Shared→Prop}
end
section
variable {tg:Expr}
end
section
variable {elt tg iter cnd:Expr}{scope:Scope}{N':List Str}{wi:TI}{g:TG}{te:TE}{tt:TT}
end
section
end
end L2
namespace L2
open PySem PySem.Spec PySem.Calls PyProof.Rows PySem.W
variable {H:Hp}{X:Cx}{s:Shared}{pos:Pos}{prog:Program}{A:Around}{K:PySem.W.Frag}
abbrev NK:Type:=(Int × Int) × Int
def inn (p:Int × Int):List Key:=[.inl p.1,.inl p.2]
theorem xu {p q:Int × Int}(h:inn p=inn q):p=q:=by
 simp only[inn,List.cons.injEq,Sum.inl.injEq,and_true]at h;exact Prod.ext h.1 h.2
def mq (P:Program)(w:World)(h:Heap)(k:NK)(a:Addr):Prop:=∃ (b:Addr) (t:Tok),IsTup h a #[.ref b,.int k.2 t]∧(tupleKind (aI P w)).is h (inn k.1) b
section
variable {P:Program}{w:World}{h h':Heap}{a d:Addr}{k x y:NK}
theorem B3 {u v:Array Value}(i:IsTup h a u)(j:IsTup h a v):u=v:=by
 obtain⟨o,e,_,n,q⟩:=i;obtain⟨o',e',_,n',q'⟩:=j;cases e.symm.trans e';rw[q]at q';injection q'
theorem mq.inj (hx:mq P w h x a)(hy:mq P w h y a):x=y:=by
 obtain⟨b,t,i,j⟩:=hx;obtain⟨b',t',i',j'⟩:=hy;have e:=Hn Array.toList (B3 i i');injection e with e1 e2;injection e1 with e1;injection e2 with e2;injection e2 with e2 _;subst e1;exact Prod.ext (xu (IsTupleKey.inj j j')) e2
theorem mq.keeps {o:Obj}{es ep}(i:mq P w h k a)(ho:h.get? d=some o)(hd:o.data=.dict es ep)(hs:Heap.SameBut d h h'):mq P w h' k a:=by
 obtain⟨b,t,⟨o',e',c',n',q'⟩,j⟩:=i;refine⟨b,t,⟨o',(hs.2 a fun z =>?_).trans e',c',n',q'⟩,IsTupleKey.keeps j ho hd hs⟩;subst z;cases ho.symm.trans e';rw[hd]at q';exact nomatch q'
end
def rS (P:Program)(w:World)(k:NK):Int:=reduceHash (Builtin.Tuple.tupleHashOf [tupleKeyHash (aI P w) (inn k.1),hashInt k.2])
section
variable {P:Program}{w:World}{E:Value→Shared→Prop}{k x y:NK}{a b:Addr}
theorem CP {Q:Int→Shared→Prop}(hu:A.units + 1 < cLine)(i:mq P w s.heap k a)(h:Q (rS P w k) { s with toks:=s.toks + 5 }):wpAny (model P w) A (PySem.pyHash (.ref a)) Q E s:=by
 obtain⟨b,t,⟨o,ho,hc,n,hd⟩,j⟩:=i;have hT:s.TypeIs (.ref a) "tuple" := ⟨o,ho,hc⟩
 have hu0:A.units < cLine:=Nat.lt_of_succ_lt hu;unfold pyHash pyHashByItsType;refine Gw (wpAny_cRoomFor_or (.inr hu0) (Gw (wpAny_specialOf hT F.slot_tuple_hash.lookup ?_)));show wpAny _ _ (if (some (Value.builtin "tuple.__hash__") == some Value.none)=true then _ else _) Q E s
 rw[if_neg (by rw[beq_builtin_none];exact GM)];refine Gw (wpAny_specialOf hT F.slot_tuple_hash.lookup (?_:wpAny _ _ (callSpecialIfBoundUnlessNone? (.ref a) "__hash__" _ >>= _) Q E s))
 refine Gw (wpAny_callSpecialIfBoundUnlessNone?_slot hT F.slot_tuple_hash (wpAny_call_entry F.slot_tuple_hash hT F.entry_tuple_hash (?_:wpAny _ _ (Builtin.Tuple.tupleItemsOf (.ref a) >>= _) _ _ s) (F.args_tuple_hash_1 _)));refine Gw (wpAny_tupleItemsOf ho hd (Gw ?_));rw[← JB];show wpAny _ _ (forIn [Value.ref b,Value.int k.2 t] _ _) _ _ s;rw[IF];refine Gw (Gw (wpAny_pyHash_tuple (ks:=inn k.1) hu j ?_));refine GN ?_;show wpAny _ _ (forIn [Value.int k.2 t] _ _) _ _ _;rw[IF];refine Gw (Gw (wpAny_pyHash_int (GN ?_)));show wpAny _ _ (forIn ([]:List Value) _ _) _ _ _;rw[JP];refine GN (?_:wpAny _ _ (retInt (Builtin.Tuple.tupleHashOf [tupleKeyHash (aI P w) (inn k.1),hashInt k.2])) _ _ _);refine wpAny_ret_mkInt ?_;generalize hz:Builtin.Tuple.tupleHashOf [tupleKeyHash (aI P w) (inn k.1),hashInt k.2]=z;have hk:rS P w k=reduceHash z:=by unfold rS;rw[hz]
 rw[hk]at h;unfold reduceHash at h;show wpAny _ _ (if (decide (-(2:Int) ^ 63≤z) && decide (z < 2 ^ 63))=true then _ else _) Q E _;by_cases hr:(decide (-(2:Int) ^ 63≤z) && decide (z < 2 ^ 63))=true
 ·rw[if_pos hr]at h ⊢;exact GN h
 ·rw[if_neg hr]at h ⊢;exact Gw (wpAny_rule (GN h))
theorem se {p:Int × Int}{b:Addr}{h:Heap}(i:(tupleKind (aI P w)).is h (inn p) b):∃ t u,IsTup h b #[.int p.1 t,.int p.2 u]:=by
 obtain⟨o,items,n,e,c,q,r⟩:=i;have r':ItemsAre (aI P w) [.inl p.1,.inl p.2] items.toList:=r;generalize hl:items.toList=l at r';cases r' with
 | cons h1 r' =>
 cases r' with
 | cons h2 r' =>
 cases r';have h1':kM (.inl p.1) _=true:=h1;have h2':kM (.inl p.2) _=true:=h2;rcases ba h1' with⟨i1,t1,e1,e2⟩ | ⟨_,_,e1,_⟩
 ·rcases ba h2' with⟨i2,t2,e3,e4⟩|⟨_,_,e3,_⟩
  ·injection e1 with e1;injection e3 with e3;subst e1 e3 e2 e4;refine⟨t1,t2,o,e,c,n,?_⟩;rw[q,← Array.toArray_toList (xs:=items),hl]
  ·cases e3
 ·cases e1
theorem eq_int (A:Around)(s:Shared)(i j:Int)(t u:Tok):SeqAt.EqAt A s (.int i t) (.int j u) (decide (i=j)):=fun _ _ _ _ h=>wpAny_eqBool_int h
theorem qp {h:Heap}{a:Addr}{xs:Array Value}(i:IsTup h a xs):h.IsTuple a xs:=i
theorem xG {a b:Addr}{x y u v:Value}{p q:Bool}(hu:A.units < cLine)(ia:IsTup s.heap a #[x,y])(ib:IsTup s.heap b #[u,v])(e1:SeqAt.EqAt A.in1 s x u p)(e2:SeqAt.EqAt A.in1 s y v q)(hs:a=b→p=true∧q=true):SeqAt.EqAt A s (.ref a) (.ref b) (p && q):=by
 by_cases hab:a=b
 ·obtain⟨rfl,rfl⟩:=hs hab;subst hab;exact SeqAt.EqAt.same _
 ·refine SeqAt.EqAt.of_refs hab ?_
  have:=SeqAt.RcAt.tuples (A:=A) (s:=s) (e:=fun j=>if j=0 then p else q) (qp ia) (qp ib) hu (fun j h1 h2 =>?_)
  ·have e3:(List.range (min (#[x,y]:Array Value).size (#[u,v]:Array Value).size)).all (fun j=>if j=0 then p else q)=(p && q):=by
    show ([0,1].all fun j=>if j=0 then p else q)=_;simp
   rw[e3]at this;simpa using this
  ·rcases j with _|_|j
   ·exact e1
   ·exact e2
   ·exact absurd h1 (by simp)
theorem EF {p q:Int × Int}{b c:Addr}(hu:A.units < cLine)(i:(tupleKind (aI P w)).is s.heap (inn p) b)(j:(tupleKind (aI P w)).is s.heap (inn q) c):SeqAt.EqAt A s (.ref b) (.ref c) (decide (p=q)):=by
 obtain⟨t1,u1,i1⟩:=se i;obtain⟨t2,u2,i2⟩:=se j
 have:=xG hu i1 i2 (eq_int _ _ _ _ _ _) (eq_int _ _ _ _ _ _) fun e=>by
  subst e
  have:=xu (IsTupleKey.inj i j)
  subst this;exact⟨GH rfl,GH rfl⟩
 have e:(decide (p.1=q.1) && decide (p.2=q.2))=decide (p=q):=by
  rw[HQ,HE,HF,HF,HF];exact⟨fun h=>Prod.ext h.1 h.2,fun h=>by rw[h];exact⟨rfl,rfl⟩⟩
 rw[e]at this;exact this
theorem eq_nk {x y:NK}{a b:Addr}(hu:A.units + 1 < cLine)(hx:mq P w s.heap x a)(hy:mq P w s.heap y b):SeqAt.EqAt A s (.ref a) (.ref b) (decide (x=y)):=by
 have hxy:=fun (e:a=b)=>hx.inj (by rw[e];exact hy);obtain⟨b1,t1,i1,j1⟩:=hx;obtain⟨b2,t2,i2,j2⟩:=hy
 have:=xG (Nat.lt_of_succ_lt hu) i1 i2 (EF (A:=A.in1) hu j1 j2) (eq_int _ _ _ _ _ _) fun e=>by
  have:=hxy e
  subst this;exact⟨GH rfl,GH rfl⟩
 have e:(decide (x.1=y.1) && decide (x.2=y.2))=decide (x=y):=by
  rw[HQ,HE,HF,HF,HF];exact⟨fun h=>Prod.ext h.1 h.2,fun h=>by rw[h];exact⟨rfl,rfl⟩⟩
 rw[e]at this;exact this
theorem Fu {Q:Bool→Shared→Prop}(hu:A.units + 1 < cLine)(hx:mq P w s.heap x a)(hy:mq P w s.heap y b)(h:Q (decide (x=y)) s):wpAny (model P w) A (PySem.eqBool (.ref a) (.ref b)) Q E s:=by
 exact eq_nk hu hx hy P w E Q h
theorem yW {p:Int × Int}{b:Addr}{Q:Bool→Shared→Prop}(i:(tupleKind (aI P w)).is s.heap (inn p) b)(h:Q true s):wpAny (model P w) A (eqIsQuiet 7 (.ref b)) Q E s:=by
 obtain⟨t,u,⟨o,ho,hc,n,hd⟩⟩:=se i;have hT:s.TypeIs (.ref b) "tuple" := ⟨o,ho,hc⟩
 unfold eqIsQuiet;refine Gw (wpAny_specialOf hT F.slot_tuple_eq.lookup (?_:wpAny _ _ (isInstance (.ref b) (.type "tuple") >>= _) _ _ s))
 refine Gw (wpAny_isInstance hT isSubtype_tuple_tuple ?_);simp only[Bool.not_true,GA,if_false];refine Gw (wpAny_seqItems ho hd (Gw (?_:wpAny _ _ (forIn #[Value.int p.1 t,Value.int p.2 u] _ _) _ _ s)));rw[← JB];show wpAny _ _ (forIn [Value.int p.1 t,Value.int p.2 u] _ _) _ _ s;rw[IF];refine Gw ?_;rw[eqIsQuiet_byValue _ (show carriedByValue (.int p.1 t)=true from rfl)];refine Gw (GN (?_:wpAny _ _ (pure (ForInStep.yield (none,()))) _ _ _));refine GN (?_:wpAny _ _ (forIn [Value.int p.2 u] _ _) _ _ _);rw[IF];refine Gw ?_;rw[eqIsQuiet_byValue _ (show carriedByValue (.int p.2 u)=true from rfl)];refine Gw (GN (?_:wpAny _ _ (pure (ForInStep.yield (none,()))) _ _ _));refine GN (?_:wpAny _ _ (forIn ([]:List Value) _ _) _ _ _);rw[JP];exact GN (GN h)
theorem AK {Q:Bool→Shared→Prop}(i:mq P w s.heap k a)(h:Q true s):wpAny (model P w) A (eqIsQuiet 8 (.ref a)) Q E s:=by
 obtain⟨b,t,⟨o,ho,hc,n,hd⟩,j⟩:=i;have hT:s.TypeIs (.ref a) "tuple" := ⟨o,ho,hc⟩
 unfold eqIsQuiet;refine Gw (wpAny_specialOf hT F.slot_tuple_eq.lookup (?_:wpAny _ _ (isInstance (.ref a) (.type "tuple") >>= _) _ _ s))
 refine Gw (wpAny_isInstance hT isSubtype_tuple_tuple ?_);simp only[Bool.not_true,GA,if_false];refine Gw (wpAny_seqItems ho hd (Gw ?_));show wpAny _ _ (forIn #[Value.ref b,Value.int k.2 t] _ _) _ _ s;rw[← JB];show wpAny _ _ (forIn [Value.ref b,Value.int k.2 t] _ _) _ _ s;rw[IF];refine Gw ?_;refine Gw (yW j (?_:wpAny _ _ (pure (ForInStep.yield (none,()))) _ _ _));refine GN (?_:wpAny _ _ (forIn [Value.int k.2 t] _ _) _ _ _);rw[IF];refine Gw ?_;rw[eqIsQuiet_byValue _ (show carriedByValue (.int k.2 t)=true from rfl)];refine Gw (GN (?_:wpAny _ _ (pure (ForInStep.yield (none,()))) _ _ _));refine GN (?_:wpAny _ _ (forIn ([]:List Value) _ _) _ _ _);rw[JP];exact GN (GN h)
end
def dY (P:Program)(w:World):HeapKind P w NK where
 is:=mq P w
 hash:=rS P w
 draws:=fun _=>5
 room:=fun A=>A.units + 1 < cLine
 inj:=fun hx hy=>hx.inj hy
 keeps:=fun x ho hd hs=>x.keeps ho hd hs
 pyHash:=fun hu i h=>CP hu i h
 eqBool:=fun hu hx hy h=>Fu hu hx hy h
 quiet:=fun i h=>AK i h
def gG (H:Hp)(k:NK)(a:Addr):Prop:=∃ b,H a=some (.tup [.ref b,.int k.2])∧H b=some (.tup [.int k.1.1,.int k.1.2])
theorem gG.up {H H':Hp}{k:NK}{a:Addr}(h:gG H k a)(ht:∀ b xs,H b=some (.tup xs)→H' b=some (.tup xs)):gG H' k a:=by
 obtain⟨b,h1,h2⟩:=h;exact⟨b,ht _ _ h1,ht _ _ h2⟩
def vv:V→Value
 | .ref a=>.ref a
 | .bl b=>.bool b
 | _=>.none
def Pln (v:V):Prop:=aV v (vv v)
abbrev NE:Type:=NK × Addr × V
def raw (e:NE):NK × Addr × Value:=(e.1,e.2.1,vv e.2.2)
def dN (P:Program)(w:World)(a:Addr)(xs:List NE):HO:=.ext fun h=>xs.length≤sizeLine∧(a == sysModules)=false ∧
 ∃ o es ep,h.get? a=some o∧o.ExactDict∧o.data=.dict es ep∧es.toList=(xs.map raw).map (entryOfKey (dY P w))∧((xs.map raw).map (·.1)).Nodup
structure DN (P:Program)(w:World)(H:Hp)(a:Addr)(xs:List NE):Prop where
 at_:H a=some (dN P w a xs)
 keys:∀ e∈xs,gG H e.1 e.2.1∧Pln e.2.2
def nkV (xs:List NE)(k:NK):Option V:=(xs.find? fun e=>decide (e.1=k)).map (·.2.2)
def cu (xs:List NE)(k:NK)(a:Addr)(v:V):List NE:=if (nkV xs k).isSome then xs.map (fun e=>if e.1=k then (e.1,e.2.1,v) else e) else xs++[(k,a,v)]
section
variable {P:Program}{w:World}{H':Hp}{h:Heap}{a b d:Addr}{xs:List NE}{k:NK}{v:V}
theorem ud (ok:HOk P w H h)(i:gG H k a):(dY P w).is h k a:=by
 obtain⟨b,h1,h2⟩:=i;obtain⟨_,its,r,p⟩:=(show bo P w H h a (.tup _) from ok a _ h1);obtain⟨u1,u2,rfl,r1,r2⟩:=ms r;cases r1;obtain⟨t,rfl⟩:=r2;exact⟨b,t,p,oZ (ks:=inn k.1) ok h2⟩
theorem BK (xs:List NE)(k:NK):(atKey (xs.map raw) k).map (·.2)=(nkV xs k).map vv:=by
 induction xs with
 | nil=>rfl
 | cons e xs ih =>
  by_cases q:e.1=k
  ·simp[atKey,nkV,HX,raw,q]
  ·simpa[atKey,nkV,HX,raw,q] using ih
theorem sN (xs:List NE)(k:NK):(atKey (xs.map raw) k).isSome=(nkV xs k).isSome:=by
 have:=Hn Option.isSome (BK xs k)
 simpa using this
theorem Cn (xs:List NE)(k:NK)(a:Addr)(v:V):storedH (xs.map raw) k a (vv v)=(cu xs k a v).map raw:=by
 unfold storedH cu;rw[sN]
 split
 ·rw[Hj,Hj];refine Hc fun e _ =>?_;by_cases q:e.1=k<;>simp[putAt,raw,q]
 ·simp[raw]
theorem wY (xs:List NE)(k:NK)(a:Addr)(v:V):(cu xs k a v).length≤xs.length + 1:=by
 unfold cu
 split<;>simp
theorem DN.up (D:DN P w H a xs)(hs:am H H'):DN P w H' a xs:=⟨hs _ _ D.at_,fun e he=>⟨(D.keys e he).1.up fun b ys q=>hs _ _ q,(D.keys e he).2⟩⟩
theorem DN.keep (D:DN P w H a xs)(h1:H' a=H a)(ht:∀ b ys,H b=some (.tup ys)→H' b=some (.tup ys)):DN P w H' a xs:=⟨h1.trans D.at_,fun e he=>⟨(D.keys e he).1.up ht,(D.keys e he).2⟩⟩
theorem DN.rd (ok:HOk P w H h)(D:DN P w H a xs):xs.length≤sizeLine∧(a == sysModules)=false∧h.DictOfH (dY P w) a (xs.map raw):=by
 obtain⟨⟨z,y,o,es,ep,h1,h2,h3,h4,h5⟩,_⟩:=(show bo P w H h a (dN P w a xs) from ok a _ D.at_);refine⟨z,y,o,es,ep,h1,h2,h3,h4,fun x hx =>?_,h5⟩;obtain⟨e,he,rfl⟩:=GC.mp hx;exact ud ok (D.keys e he).1
theorem BA {h:Heap}(z:xs.length≤sizeLine)(y:(a == sysModules)=false)(dd:h.DictOfH (dY P w) a (xs.map raw)):bo P w H h a (dN P w a xs):=by
 obtain⟨o,es,ep,h1,h2,h3,h4,_,h5⟩:=dd;refine⟨⟨z,y,o,es,ep,h1,h2,h3,h4,h5⟩,⟨o,h1⟩,fun g1 g2 q st =>?_⟩;obtain⟨z',y',o',es',ep',k1,k2,k3,k4,k5⟩:=q;exact⟨z',y',o',es',ep',st _ k1,k2,k3,k4,k5⟩
theorem Ab (hk:∀ e∈xs,gG H e.1 e.2.1∧Pln e.2.2)(i:gG H k b)(pv:Pln v):∀ e∈cu xs k b v,gG H e.1 e.2.1∧Pln e.2.2:=by
 intro e he;unfold cu at he
 split at he
 ·obtain⟨e',he',rfl⟩:=GC.mp he
  split
  ·exact⟨(hk e' he').1,pv⟩
  ·exact hk e' he'
 ·rcases GS.mp he with he|he
  ·exact hk e he
  ·rw[GI.mp he];exact⟨i,pv⟩
end
section
def DO (P:Program)(w:World):TE:=fun _ H Q=>∀ p,H p=none→Q (.ref p) (upd H p (dN P w p []))
theorem tP:PE X (.Dict [] [] pos) (DO X.prog X.w):=fun pins s σ H Q I h =>
 wpAny_Dict_empty ⟨.ref s.heap.objs.size,_,I.laid (a:=s.heap.objs.size) (o:=dN X.prog X.w s.heap.objs.size []) (t':=s.toks) (fun _ _ q=>Gx _ q) (GB _)
  (BA (GF _) (beq_eq_false_iff_ne.mpr (Ne.symm (G3 I.big))) ⟨_,#[],0,GQ _ rfl,⟨rfl,rfl,rfl⟩,rfl,rfl,fun x (hx:x∈([]:List _))=>absurd hx (by simp),List.nodup_nil⟩),rfl,h _ (I.hok.fresh (GB _))⟩
theorem D9 (hu:X.A.units + 2 < cLine):OpR X (compareOp .In) (fun x y H Q=>∃ (a b:Addr) (k:NK) (xs:List NE),x=.ref b∧y=.ref a∧DN X.prog X.w H a xs∧gG H k b∧Q (.bl (nkV xs k).isSome) H):=by
 intro pins s σ H x y v u Q I rx ry h;obtain⟨a,b,k,xs,rfl,rfl,D,i,q⟩:=h;cases rx;cases ry;obtain⟨_,y,dd⟩:=D.rd I.hok;refine wpAny_in_heap (knd:=dY X.prog X.w) hu (ud I.hok i) y dd ?_;rw[sN];exact⟨.bl _,H,I.tok _,rfl,q⟩
theorem yF (hu:X.A.units + 2 < cLine):OpR X (compareOp .NotIn) (fun x y H Q=>∃ (a b:Addr) (k:NK) (xs:List NE),x=.ref b∧y=.ref a∧DN X.prog X.w H a xs∧gG H k b∧Q (.bl (!(nkV xs k).isSome)) H):=by
 intro pins s σ H x y v u Q I rx ry h;obtain⟨a,b,k,xs,rfl,rfl,D,i,q⟩:=h;cases rx;cases ry;obtain⟨_,y,dd⟩:=D.rd I.hok;refine wpAny_notIn_heap (knd:=dY X.prog X.w) hu (ud I.hok i) y dd ?_;rw[sN];exact⟨.bl _,H,I.tok _,rfl,q⟩
abbrev DQ (P:Program)(w:World)(td ty:TE):TE:=fun σ H Q=>td σ H fun x H1=>ty σ H1 fun y H2=>∃ (a b:Addr) (k:NK) (xs:List NE) (v:V),x=.ref a∧y=.ref b∧DN P w H2 a xs∧gG H2 k b∧nkV xs k=some v∧Q v H2
theorem kJ {xs:List NE}{k:NK}{v:V}(h:nkV xs k=some v):∃ a,(k,a,v)∈xs:=by
 obtain⟨e,h1,rfl⟩:=He.mp h;have h2:=JM h1;have h3:e.1=k:=by simpa using h2
 exact⟨e.2.1,by rw[← h3];exact IK h1⟩
theorem Aq {o i:Expr}{td ty:TE}(hu:X.A.units + 2 < cLine)(ho:PE X o td)(hi:PE X i ty)(hs:Dk i):PE X (.Subscript o i pos) (DQ X.prog X.w td ty):=by
 intro pins s σ H Q I h;refine rf PySem.F.slot_dict_getitem.lookup hs (thn (ho pins s σ H _ I h) fun u s1 ⟨x,H1,I1,rx,q1⟩=>thn (hi pins s1 σ H1 _ I1 q1) fun iv s2 ⟨y,H2,I2,ry,a,b,k,xs,v,ex,ey,D,j,g,q2⟩ =>?_);subst ex ey;cases rx;cases ry;obtain⟨_,_,dd⟩:=D.rd I2.hok;have e1:=BK xs k;rw[g]at e1;obtain⟨p,hp,hp2⟩:=He.mp e1;obtain⟨c,hc⟩:=kJ g;refine⟨dd.typeIs,wpAny_getItem_heap (knd:=dY X.prog X.w) hu (ud I2.hok j) dd hp ?_⟩;rw[hp2];exact⟨v,H2,I2.tok _,(D.keys _ hc).2,q2⟩
abbrev DT (P:Program)(w:World)(td ty tv:TE):TS:=fun D σ H=>tv σ H fun v H1=>td σ H1 fun x H2=>ty σ H2 fun y H3=>∃ (a b:Addr) (k:NK) (xs:List NE),x=.ref a∧y=.ref b∧DN P w H3 a xs∧gG H3 k b∧Pln v∧xs.length < sizeLine ∧
 (DN P w (upd H3 a (dN P w a (cu xs k b v))) a (cu xs k b v)→D.nx σ (upd H3 a (dN P w a (cu xs k b v))))
theorem tL {o i value:Expr}{td ty tv:TE}{pos':Pos}(hu:X.A.units + 2 < cLine)(ho:PE X o td)(hi:PE X i ty)(hv:PE X value tv)(hs:swapsWith value (some (.Subscript o i pos')) pos.line X.env=pure false):
  PS X (.Assign [.Subscript o i pos'] value pos) (DT X.prog X.w td ty tv):=by
 intro pins s σ H D I h;refine wpAny_Assign_Subscript (thn (hv pins s σ H _ I h) fun r s1 ⟨v,H1,I1,rv,q1⟩=>thn (ho pins s1 σ H1 _ I1 q1) fun u s2 ⟨x,H2,I2,rx,q2⟩=>thn (hi pins s2 σ H2 _ I2 q2) fun iv s3 ⟨y,H3,I3,ry,a,b,k,xs,ex,ey,Dn,j,pv,hl,q3⟩ =>?_) hs;subst ex ey;cases rx;cases ry;have er:r=vv v:=by
  unfold Pln at pv;cases v with
  | ref a=>rw[show r=_ from rv];rfl
  | bl b=>rw[show r=_ from rv];rfl
  | non=>rw[show r=_ from rv];rfl
  | int i=>exact nomatch pv
  | str x=>exact nomatch pv
  | byt b=>exact nomatch pv
  | flt b=>exact nomatch pv
  | ty n=>cases pv
 subst er;obtain⟨z,y,dd⟩:=Dn.rd I3.hok;have hz:(xs.map raw).length≤sizeLine:=by rw[Gy];exact z
 refine wpAny_setItem_heap (knd:=dY X.prog X.w) (hsz:=hz) hu (ud I3.hok j) dd fun h' dd' hs =>?_;rw[Cn]at dd';have hl2:(cu xs k b v).length≤sizeLine:=G8 (wY xs k b v) hl;have nt:∀ c ys,H3 c=some (.tup ys)→upd H3 a (dN X.prog X.w a (cu xs k b v)) c=some (.tup ys):=fun c ys ec=>by
  rw[aD fun q=>by rw[q,Dn.at_]at ec;exact nomatch ec];exact ec
 refine⟨σ,_,nV I3 (by rw[Dn.at_];exact True.intro) hs (let ⟨q,_,_,hq,_⟩:=dd';⟨q,hq⟩) (BA hl2 y dd'),q3 ⟨ah,fun e he =>?_⟩⟩;obtain⟨k1,k2⟩:=Ab Dn.keys j pv e he;exact⟨k1.up nt,k2⟩
theorem cz.nest {k:Nat}{A:Around}(r:cz k A):A.units + 2 < PySem.cLine:=by have:=r.units;lia
end
def pU (h:Heap)(d:Addr)(es:Array DictEntry)(ep:Nat):Prop:=∃ o,h.get? d=some o∧o.ExactDict∧o.data=.dict es ep
theorem pU.type {s:Shared}{d:Addr}{es:Array DictEntry}{ep:Nat}(r:pU s.heap d es ep):s.TypeIs (.ref d) "dict" := let ⟨o,h,c,_⟩:=r;⟨o,h,c.1⟩
theorem pU.keep {h h':Heap}{d:Addr}{es:Array DictEntry}{ep:Nat}(r:pU h d es ep)(k:∀ o,h.get? d=some o→h'.get? d=some o):pU h' d es ep:=let ⟨o,e,x⟩:=r;⟨o,k o e,x⟩
section
variable {w:World}{E:Value→Shared→Prop}{d I:Addr}{es:Array DictEntry}{ep i:Nat}
theorem ym {Q:Value→Shared→Prop}(hd:(d == sysModules)=false)(r:pU s.heap d es ep)
  (hQ:Q (.ref s.heap.objs.size) { s with heap:=s.heap.push { cls:=.type "dict_keyiterator",data:=.fields #[.ref d,.int 0 0,.int es.size 0,.int ep 0] } }):wpAny (model prog w) A (pyIter (.ref d)) Q E s:=by
 have hT:=r.type;obtain⟨o,ho,hc,hdat⟩:=r;refine wpAny_pyIter_slot hT F.slot_dict_iter (wpAny_call_entry F.slot_dict_iter hT F.entry_dict_iter ?_ (F.args_dict_iter_1 _));unfold Builtin.«dict.__iter__» Builtin.Dict.dictSlotNone;refine Gw (Gw (wpAny_notOrdered_dict hT (GN (?_:wpAny _ _ (Builtin.Dict.showsAll d >>= _) _ _ s))));unfold Builtin.Dict.showsAll;rw[if_neg (by rw[hd];exact GM)];refine Gw (GN (Gw (wpAny_dictEntries ho hdat (Gw (wpAny_dictEpoch ho hdat (Gw (wpAny_newObj_type (GN ⟨_,rfl,"dict_keyiterator",_,⟨_,GQ _ rfl,rfl⟩,F.slot_dict_keyiterator_next.lookup,?_⟩))))))))
 simpa[rawInt] using hQ
theorem yq {Q:Option Value→Shared→Prop}(it:s.heap.IsKeyIter I d i es.size ep)(r:pU s.heap d es ep)(hi:i < es.size)
  (hQ:∀ h',h'.IsKeyIter I d (i + 1) es.size ep→Heap.SameBut I s.heap h'→Q (some es[i].key) { s with heap:=h' }):wpAny (model prog w) A (pyNext (.ref I)) Q E s:=by
 have hit:=it.typeIs;obtain⟨o,ho,hc,hd⟩:=it;obtain⟨od,hod,hcd,hdd⟩:=r;unfold pyNext;refine Gw (wpAny_attempt (wpAny_callSpecial?_slot (name:=Str.ofString "__next__") hit F.slot_dict_keyiterator_next (wpAny_call_entry F.slot_dict_keyiterator_next hit F.entry_dict_keyiterator_next (Gw (GN (Gw (Gw ?_)))) (F.args_dict_keyiterator_next_1 _))))
 refine Gw (wpAny_typeNameOfWhole_keyiter hit (GN (Gw (wpAny_fieldsOf ho hd ?_))));simp only[show Builtin.Dict_items.ownsTuple "dict_keyiterator" = false by decide,GA,if_false]
 show wpAny _ _ (if (Value.ref d == Value.none)=true then _ else _) _ _ s;rw[if_neg (show ¬ ((Value.ref d == Value.none)=true) from GM)];refine Gw (GN (Gw (wpAny_dictEntries hod hdd ?_)));rw[if_neg (by simp)];refine Gw (GN (Gw (wpAny_dictEpoch hod hdd ?_)));rw[if_neg (by simp)];refine GN ?_;simp only[show ¬ ((i:Int) < 0) from by simp,if_false,HL,GD hi];refine Gw (Gw (wpAny_typeNameOfWhole_keyiter hit (GN (Gw (wpAny_isOneOf_keyiter hit (?_:wpAny _ _ (setField (.ref I) 1 (rawInt ((i:Int) + 1)) >>= _) _ _ s))))));refine Gw (wpAny_setField ho hd (by simp) ?_);have it':(s.heap.update I (Obj.mapFields (·.setIfInBounds 1 (rawInt ((i:Int) + 1))))).IsKeyIter I d (i + 1) es.size ep :=
  ⟨_,IH _ ho (Obj.isFreed_of_fields (Obj.data_mapFields hd _)),(Obj.cls_mapFields ..).trans hc,by rw[Obj.data_mapFields hd];simp[rawInt]⟩
 refine Gw (wpAny_holding (Gw (wpAny_isOneOf_keyiter (s:={ s with heap:=s.heap.update I (Obj.mapFields (·.setIfInBounds 1 (rawInt ((i:Int) + 1)))) }) it'.typeIs (?_:wpAny _ _ (pure es[i].key) _ _ _))));exact GN (GN ⟨_,rfl,GN (hQ _ it' (Heap.SameBut.update ..))⟩)
theorem zS {Q:Option Value→Shared→Prop}(hh:A.handled=none)(it:s.heap.IsKeyIter I d es.size es.size ep)(r:pU s.heap d es ep)(hQ:∀ h',Heap.ExtBut I s.heap h'→Q none { s with heap:=h' }):wpAny (model prog w) A (pyNext (.ref I)) Q E s:=by
 have hit:=it.typeIs;obtain⟨o,ho,hc,hd⟩:=it;obtain⟨od,hod,hcd,hdd⟩:=r;unfold pyNext;refine Gw (wpAny_attempt (wpAny_callSpecial?_slot (name:=Str.ofString "__next__") hit F.slot_dict_keyiterator_next (wpAny_call_entry F.slot_dict_keyiterator_next hit F.entry_dict_keyiterator_next (Gw (GN (Gw (Gw ?_)))) (F.args_dict_keyiterator_next_1 _))))
 refine Gw (wpAny_typeNameOfWhole_keyiter hit (GN (Gw (wpAny_fieldsOf ho hd ?_))));simp only[show Builtin.Dict_items.ownsTuple "dict_keyiterator" = false by decide,GA,if_false]
 show wpAny _ _ (if (Value.ref d == Value.none)=true then _ else _) _ _ s;rw[if_neg (show ¬ ((Value.ref d == Value.none)=true) from GM)];refine Gw (GN (Gw (wpAny_dictEntries hod hdd ?_)));rw[if_neg (by simp)];refine Gw (GN (Gw (wpAny_dictEpoch hod hdd ?_)));rw[if_neg (by simp)];refine GN ?_;simp only[show ¬ ((es.size:Int) < 0) from by simp,if_false,HL,IY (GB es.size)];refine Gw (Gw (wpAny_typeNameOfWhole_keyiter hit (GN (?_:wpAny _ _ (setField (.ref I) 0 .none >>= _) _ _ s))));refine Gw (wpAny_setField ho hd (by simp) (?_:wpAny _ _ (newExc (.type "StopIteration") [] >>= _) _ _ _))
 refine Gw ?_;simp only[newExc,newTuple];refine Gw (wpAny_newObj_type (Gw (m:=firstArgMember _ _) (wpAny_of_eq (a:=Value.none) (by first | rfl | (simp only[firstArgMember];rfl)) (wpAny_newObj_type ?_ (by size_fits)))) (by size_fits));simp only[raiseNew];refine Gw (wpAny_handled ?_);rw[show A.in1.handled=none from hh];refine Gw (GN (wpAny_throw ?_));exact Gw (wpAny_isInstance (T := "StopIteration") (b:=true) ⟨_,GQ _ rfl,rfl⟩ isSubtype_stop (GN (hQ _ (((Heap.SameBut.update ..).extBut.push _).push _))))
theorem vG (hh:A.handled=none)(hne:d≠I):Walks prog w A I [I,d] [I] es.size (fun i v=>∃ e,es[i]? = some e∧v=e.key) (fun i h=>h.IsKeyIter I d i es.size ep∧pU h d es ep) where
 sub:=fun b hb=>by simp at hb;simp[hb]
 frame:=fun _ _ _ st hk=>⟨st.1.at fun o e=>hk I (by simp) o e,st.2.keep fun o e=>hk d (by simp) o e⟩
 item:=fun i s Q E hi st hQ=>yq st.1 st.2 hi fun h' it' hs'=>hQ _ h' s.toks ⟨es[i],by simp[hi],rfl⟩ ⟨it',st.2.keep fun o e=>hs'.extBut d o hne e⟩ fun b o hb e=>hs'.extBut b o (fun h=>hb (by simp[h])) e
 done:=fun s Q E st hQ=>zS hh st.1 st.2 fun h' he'=>hQ h' s.toks fun b o hb e=>he' b o (fun h=>hb (by simp[h])) e
 self:=fun _ _ _ _ st hQ=>wpAny_pyIter_keyiter st.1 hQ
theorem zR (lo:(d == sysModules)=false):KdlSrc prog w "dict" d d es.size (fun i v=>∃ e,es[i]? = some e∧v=e.key) (fun h=>pU h d es ep) where
 type:=fun _ hm=>hm.type
 there:=fun _ hm=>let ⟨o,ho,_⟩:=hm;⟨GJ ho,GJ ho⟩
 keep:=fun _ _ hm hk=>hm.keep fun o e=>hk d (.inl rfl) o e
 notList:=by decide
 notTuple:=by decide
 hint:=fun _ _ _ _ hm hq=>kdl_hint_dict hm.type hq
 iter:=fun _ s hh hm=>⟨_,_,(fun _ _ hq=>ym lo hm hq),vG hh (let ⟨o,ho,_⟩:=hm;G3 (GJ ho)),⟨⟨_,GQ _ rfl,rfl,rfl⟩,hm.keep fun o e=>Gx _ e⟩⟩
end
def nn (h:Heap)(k:Int × Int)(u:Value):Prop:=∃ (a:Addr) (t t':Tok),u=.ref a∧IsTup h a #[.int k.1 t,.int k.2 t']
def ltI:Int × Int→Int × Int→Bool:=m8 (fun a b=>decide (a < b)) (fun a b=>decide (a < b))
theorem AT:Lin ltI:=rY rZ rZ
theorem AY {h h':Heap}{k:Int × Int}{u:Value}(i:nn h k u)(hk:∀ b o,o.cls=.type "tuple" → h.get? b=some o→h'.get? b=some o):nn h' k u:=by
 obtain⟨a,t,t',e,o,g,c,r⟩:=i;exact⟨a,t,t',e,o,hk a o c g,c,r⟩
section
variable {w:World}{E:Value→Shared→Prop}
theorem CV {k l:Int × Int}{u v:Value}{C:Bool→Shared→Prop}(i:nn s.heap k u)(j:nn s.heap l v)(h:C (ltI k l) s):wpAny (model prog w) A (keyLt' (tuples' true) u v) C E s:=by
 obtain⟨a,t,t',rfl,oa,ha,_,na,da⟩:=i;obtain⟨b,q,q',rfl,ob,hb,_,nb,db⟩:=j;refine kat_lt ha da hb db (kat_cons (wpAny_eqBool_int (kat_go (fun e=>kat_yes (kat_cons (wpAny_eqBool_int (kat_go (fun e2=>kat_yes (kat_nil ?_)) fun e2=>kat_no (kat_one _ _ (PySem.P.lt_int ?_)))))) fun e=>kat_no ?_)))
 ·have e1:k.1=l.1:=by simpa using e
  have e3:k.2=l.2:=by simpa using e2
  have:ltI k l=false:=by rw[Prod.ext e1 e3];exact AT.irr l
  rw[this]at h;exact h
 ·have e1:k.1=l.1:=by simpa using e
  have:ltI k l=decide (k.2 < l.2):=by unfold ltI m8;rw[if_pos e1]
  rw[this]at h;exact h
 ·have e1:¬ k.1=l.1:=by simpa using e
  have:ltI k l=decide (k.1 < l.1):=by unfold ltI m8;rw[if_neg e1]
  rw[this]at h;exact oneLt_int h
theorem CW {us:List Value}{ks:List (Int × Int)}(hp:Paired (fun k u=>nn s.heap k u) ks us)(h2:0 < us.length){Q:SortKind→Shared→Prop}(q:Q (tuples' true) s):wpAny (model prog w) A (keyKind' us.toArray) Q E s:=by
 have kt:∃ fs:List Value,KatTups s.heap us fs∧fs.length=us.length∧∀ v∈fs,∃ (k:Int) (t:Tok),v=.int k t:=by
  induction hp with
  | nil=>exact⟨[],KatTups.nil,rfl,fun v hv=>nomatch hv⟩
  | @cons k u ks us h t ih =>
   obtain⟨a,t1,t2,rfl,o,ho,hc,n,hd⟩:=h;obtain⟨fs,f1,f2,f3⟩:∃ fs:List Value,KatTups s.heap us fs∧fs.length=us.length∧∀ v∈fs,∃ (k:Int) (t:Tok),v=.int k t:=by
    cases us with
    | nil=>exact⟨[],KatTups.nil,rfl,fun v hv=>nomatch hv⟩
    | cons u us=>exact ih (JG _)
   refine⟨.int k.1 t1::fs,KatTups.cons ho hc hd (by simp) f1,by simp[f2],fun v hv =>?_⟩;rcases GU.mp hv with rfl | hv
   ·exact⟨_,_,rfl⟩
   ·exact f3 v hv
 obtain⟨fs,f1,f2,f3⟩:=kt;refine kat_kind (T:=.type "int") f1 (by lia) (fun v hv =>?_) (by decide) q
 obtain⟨k,t,rfl⟩:=f3 v hv;exact Looks.now
theorem BZ {h:Heap}{S:Addr}{f:Array Value→Array Value}{vs:Array Value}{n:Nat}(hS:h.get? S=some (seqObj "list" vs n)):∀ b o,o.cls=.type "tuple" → h.get? b=some o→(h.update S (Obj.mapSeq f)).get? b=some o:=fun b o c e=>by
 refine (G4 _ _ fun z =>?_).trans e;subst z;cases hS.symm.trans e;exact absurd (show Value.type "list" = Value.type "tuple" from c) (by decide)
theorem oI {α β:Type}{R:α→β→Prop}:∀ {l:List α} {m:List β},Paired R l m→∀ p∈m.zip l,R p.2 p.1
 | _,_,.nil,p,h=>by simp at h
 | _,_,.cons r t,p,h=>by
  rcases GU.mp h with rfl|h
  ·exact r
  ·exact oI t p h
theorem qi {a q:Addr}{vs:List Value}{n:Nat}{kf:Value→Int × Int}{P:PySem.Fin→Shared→Prop}(ho:s.heap.get? a=some (seqObj "list" vs.toArray n))(sz:vs.length≤sizeLine)
  (turn:∀ (v:Value) (h:Heap) (tk:Nat),v∈vs→(∀ b o,b≠a→s.heap.get? b=some o→h.get? b=some o)→wpAny (model prog w) A (call (.ref q) [v]) (fun u s'=>∃ h' tk',s'={ s with heap:=h',toks:=tk' }∧(∀ b o,h.get? b=some o→h'.get? b=some o)∧nn h' (kf v) u) (fun _ _=>False) { s with heap:=h,toks:=tk })
  (fin:∀ (h':Heap) (tk:Nat) (out:List Value) (c:Nat),(∀ b o,b≠a→s.heap.get? b=some o→h'.get? b=some o)→h'.get? a=some (seqObj "list" out.toArray c)→out.Perm vs→out.Pairwise (fun x y=>ltI (kf y) (kf x)=false)→P (.done (.ret .none)) { s with heap:=h',toks:=tk }) :
  wpAny (model prog w) A (Builtin.«list.sort» ⟨[.ref a],[(Str.ofString "key",.ref q)]⟩) P E s:=by
 have ha:a < s.heap.objs.size:=GJ ho;rw[ksk_t1];unfold ksk_tree;obtain⟨e1,ho1⟩:∃ e1,(s.heap.update a (Obj.mapSeq fun _=>(#[]:Array Value))).get? a=some (seqObj "list" #[] e1):=⟨_,get?_update_seq ho fun _ => #[]⟩
 refine Gw (listItems_at ho rfl (Gw (listUpdate_at ho rfl (Gw (seqEpoch_at ho1 rfl (Gw (wpAny_newTuple (Gw (wpAny_newList (wpAny_holding ?_) (GF _))) (by show vs.length≤_;exact sz))))) (by rw[GR];exact sz) (GF _))));obtain⟨h0,eh0⟩:∃ h0,h0=((s.heap.update a (Obj.mapSeq fun _=>(#[]:Array Value))).push (seqObj "tuple" vs.toArray 0)).push (seqObj "list" #[] 0):=⟨_,rfl⟩
 obtain⟨kS,ekS⟩:∃ kS,kS=((s.heap.update a (Obj.mapSeq fun _=>(#[]:Array Value))).push (seqObj "tuple" vs.toArray 0)).objs.size:=⟨_,rfl⟩
 show wpAny (model prog w) A (ksk_rest a (.ref q) false vs.toArray _ (.ref ((s.heap.update a (Obj.mapSeq fun _=>(#[]:Array Value))).push (seqObj "tuple" vs.toArray 0)).objs.size)) P E { s with heap:=((s.heap.update a (Obj.mapSeq fun _=>(#[]:Array Value))).push (seqObj "tuple" vs.toArray 0)).push (seqObj "list" #[] 0) }
 rw[← eh0,← ekS];have lt1:s.heap.objs.size < kS:=by rw[ekS,size_push',Heap.size_update];simp
 have ka:kS≠a:=Ij (IP ha lt1);have g0:h0.get? a=some (seqObj "list" #[] e1):=by rw[eh0];exact Gx _ (Gx _ ho1)
 have gk:h0.get? kS=some (seqObj "list" #[] 0):=by rw[eh0,ekS];exact GQ _ rfl
 have kp0:∀ b o,b≠a→s.heap.get? b=some o→h0.get? b=some o:=fun b o hb e=>by
  rw[eh0];exact Gx _ (Gx _ ((G4 _ _ (Ne.symm hb)).trans e))
 have nk:∀ b o,s.heap.get? b=some o→b≠kS:=fun b o e=>G3 (IP (GJ e) lt1)
 clear eh0 ekS
 unfold ksk_rest;refine Gw (wpAny_rule ?_);rw[List.forIn_toArray];refine Gw (ksk_fold (fun i s'=>∃ h tk kA e,s'={ s with heap:=h,toks:=tk }∧(∀ b o,b≠a→s.heap.get? b=some o→h.get? b=some o)∧h.get? a=some (seqObj "list" #[] e1)∧h.get? kS=some (seqObj "list" kA e)∧Paired (fun k u=>nn h k u) ((vs.take i).map kf) kA.toList) vs 0 _
  ⟨h0,s.toks,#[],0,rfl,kp0,g0,gk,.nil⟩ ?step ?done)
 case step =>
  rintro j x s' hx ⟨h,tk,kA,e,rfl,kp,ga,gk,hP⟩;simp only[Ii]at hP ⊢;have hj:j < vs.length:=(Gz.mp hx).1;have hz:kA.size≤vs.length:=by
   have h1:=Paired.length hP;have h2:kA.toList.length=kA.size:=G5;rw[Gy,Ht]at h1
   lia
  refine Gw (wpAny_attempt (Ho (turn x h tk (GW hx) kp) (fun u s2 he =>?_) fun _ _ hF=>hF.elim));obtain⟨h2,tk2,rfl,kp2,ky⟩:=he;have gk2:=kp2 _ _ gk;obtain⟨c2,hc2⟩:∃ c2,(h2.update kS (Obj.mapSeq (·.push u))).get? kS=some (seqObj "list" (kA.push u) c2):=⟨_,get?_update_seq gk2 (·.push u)⟩
  have ut:=BZ (f:=(·.push u)) gk2;refine Gw (listUpdate_at gk2 rfl ?_ (by lia) (G8 (Nat.le_of_eq (Array.size_push ..)) (by lia)));refine GN ⟨rfl,_,_,kA.push u,c2,rfl,fun b o hb e=>(G4 _ _ (Ne.symm (nk b o e))).trans (kp2 _ _ (kp b o hb e)),(G4 _ _ ka).trans (kp2 _ _ ga),hc2,?_⟩;rw[Array.toList_push,G_,hx,G7];exact Paired.snoc (Paired.mapP hP fun _ _ i=>AY (AY i fun b o _ e=>kp2 b o e) ut) (AY ky ut)
 case done =>
  rintro s' ⟨h,tk,kA,e,rfl,kp,ga,gk,hP⟩;rw[Ii,Ig]at hP;have hl:=Paired.length hP;have hl2:kA.toList.length=kA.size:=G5;rw[Gy]at hl;have zl:(kA.zip vs.toArray).toList=kA.toList.zip vs:=ksk_zip kA vs;have zs:(kA.zip vs.toArray).toList.map (·.2)=vs:=by rw[zl];exact List.map_snd_zip (by lia)
  refine Gw (listItems_at gk rfl ?_);unfold ksk_end;simp only[GA,if_false];have tail:∀ (st:SortSt),(arrOf st).Perm (kA.zip vs.toArray)→failedOf st=none→((arrOf st).toList.map (·.2)).Pairwise (fun x y=>ltI (kf y) (kf x)=false)→wpAny (model prog w) A (ksk_tail a false e1 (.ref kS) st) P E { s with heap:=h,toks:=tk }:=fun st hp hf hw=>by
   have hp':((arrOf st).toList.map (·.2)).Perm vs:=by
    have:=(HV.mp hp).map (·.2)
    rw[zs]at this;exact this
   have hout:(arrOf st).map (·.2)=((arrOf st).toList.map (·.2)).toArray:=by
    apply IL.mp
    rw[JF]
   unfold ksk_tail;dsimp only;have ga2:(h.update kS (Obj.mapSeq fun _=>(#[]:Array Value))).get? a=some (seqObj "list" #[] e1):=(G4 _ _ ka).trans ga
   refine Gw (listUpdate_at gk rfl (Gw (wpAny_letGo (Gw (seqEpoch_at ga2 rfl ?_)))) (by lia) (GF _));rw[hout,hf];simp only[GA,if_false];refine Gw (listUpdate_at ga2 rfl ?_ (GF _) (by rw[GR,hp'.length_eq];lia));simp only[bne_self_eq_false,GA,if_false];refine GN (fin _ tk _ _ (fun b o hb e=>(G4 _ _ (Ne.symm hb)).trans ((G4 _ _ (Ne.symm (nk b o e))).trans (kp b o hb e))) (get?_update_seq ga2 fun _=>((arrOf st).toList.map (·.2)).toArray) hp' hw)
  by_cases h2:vs.toArray.size < 2
  ·rw[if_pos h2,if_pos h2];refine Gw (GN ?_);rw[StateT.run_pure];refine Gw (GN (tail _ (Array.Perm.refl _) rfl ?_));show ((kA.zip vs.toArray).toList.map (·.2)).Pairwise _;rw[zs];rw[GR]at h2
   match vs,h2 with
   | [],_=>exact List.Pairwise.nil
   | [x],_=>exact IS _ _
   | _::_::_,h2=>exact absurd h2 (by simp)
  ·rw[if_neg h2,if_neg h2];rw[GR]at h2;have ek:kA=kA.toList.toArray:=by rw[Array.toArray_toList]
   refine Gw (?_:wpAny (model prog w) A (keyKind' kA) _ E _);rw[ek];refine CW (s:={ s with heap:=h,toks:=tk }) hP (by lia) ?_;rw[← ek];have LO:Tim.cW prog w A E { s with heap:=h,toks:=tk } (kA.zip vs.toArray) (tuples' true) (fun p=>rnk ltI (vs.map kf) (kf p.2)):=fun x y C hx hy hC=>by
    rw[zl]at hx hy;have pz:=oI (R:=fun v u=>nn h (kf v) u) (l:=vs) (m:=kA.toList) (by
     have:∀ {l:List Value} {m:List Value},Paired (fun k u=>nn h k u) (l.map kf) m→Paired (fun v u=>nn h (kf v) u) l m:=fun {l}=>by
      induction l with
      | nil=>intro m r;cases r;exact .nil
      | cons v l ih=>intro m r;cases r with | cons r1 r2=>exact .cons r1 (ih r2)
     exact this hP)
    refine CV (pz x hx) (pz y hy) ?_;rw[← rA AT (Hk (ID (a:=x.1) (b:=x.2) hx).2) (Hk (ID (a:=y.1) (b:=y.2) hy).2)];exact hC
   refine Gw (Ho (Tim.wS LO (st:=SortSt.mk' (tuples' true) (kA.zip vs.toArray) #[] 7 none) (Q:=fun _ st'=>Tim.SB (kA.zip vs.toArray) (tuples' true) st'∧Tim.Seg (fun p=>rnk ltI (vs.map kf) (kf p.2)) (arrOf st') 0 (kA.zip vs.toArray).size) ⟨Array.Perm.refl _,rfl,rfl⟩ rfl fun st' B S'=>⟨B,S'⟩) ?_ fun _ _ e=>e);rintro⟨⟨⟩,st'⟩ s' ⟨rfl,B,S'⟩;dsimp only at B S' ⊢;refine tail st' B.perm B.ok ?_;have hp:((arrOf st').toList.map (·.2)).Perm vs:=by
    have:=(HV.mp B.perm).map (·.2)
    rw[zs]at this;exact this
   rw[Hg,HH];intro i j hi hj hij;rw[G5]at hi hj;have q:=S' i j (GF _) (HU hij) (by rw[← B.size];exact hj);rw[Tim.ao (GD hi),Tim.ao (GD hj)]at q;have m1:(arrOf st')[i].2∈vs:=hp.mem_iff.mp (Hk (by simp));have m2:(arrOf st')[j].2∈vs:=hp.mem_iff.mp (Hk (by simp))
   have:=rA AT (ks:=vs.map kf) (Hk m2) (Hk m1)
   show ltI (kf (arrOf st')[j].2) (kf (arrOf st')[i].2)=false;rw[← this];exact Hb (by lia)
end
theorem yz {α β:Type}{f:α→β}:∀ {l m:List β},l.Perm m→∀ {xs:List α},m=xs.map f→∃ ys:List α,ys.Perm xs∧l=ys.map f:=by
 intro l m h
 induction h with
 | nil=>intro xs e;exact⟨[],by rw[List.map_eq_nil_iff.mp e.symm],rfl⟩
 | cons x _ ih =>
  intro xs e;cases xs with
  | nil=>cases e
  | cons z xs =>
   rw[GX]at e;injection e with e1 e2;obtain⟨ys,h1,h2⟩:=ih e2;exact⟨z::ys,h1.cons z,by rw[GX,h2,e1]⟩
 | swap x y l =>
  intro xs e;cases xs with
  | nil=>cases e
  | cons z xs =>
   cases xs with
   | nil=>cases e
   | cons z' xs =>
    rw[GX,GX]at e;injection e with e1 e2;injection e2 with e2 e3;exact⟨z'::z::xs,List.Perm.swap _ _ _,by rw[GX,GX,e1,e2,e3]⟩
 | trans _ _ ih1 ih2 =>
  intro xs e;obtain⟨ys,h1,h2⟩:=ih2 e;obtain⟨zs,h3,h4⟩:=ih1 h2;exact⟨zs,h3.trans h1,h4⟩
section
variable {w:World}{E:Value→Shared→Prop}
theorem vp {d q:Addr}{es:Array DictEntry}{ep:Nat}{kf:Value→Int × Int}{Q:Value→Shared→Prop}(hh:A.handled=none)(lo:(d == sysModules)=false)(r:pU s.heap d es ep)(sz:es.size≤sizeLine)
  (turn:∀ (v:Value) (h:Heap) (tk:Nat),(∃ e∈es.toList,v=e.key)→(∀ b o,s.heap.get? b=some o→h.get? b=some o)→wpAny (model prog w) A.in1.in1 (call (.ref q) [v]) (fun u s'=>∃ h' tk',s'={ s with heap:=h',toks:=tk' }∧(∀ b o,h.get? b=some o→h'.get? b=some o)∧nn h' (kf v) u) (fun _ _=>False) { s with heap:=h,toks:=tk })
  (fin:∀ (h1 h':Heap) (tk:Nat) (out:List Value) (c:Nat),(∀ b o,s.heap.get? b=some o→h1.get? b=some o)→(∀ b o,h1.get? b=some o→h'.get? b=some o)→h'.get? h1.objs.size=some (seqObj "list" out.toArray c)→out.Perm (es.toList.map (·.key))→out.Pairwise (fun x y=>ltI (kf y) (kf x)=false)→Q (.ref h1.objs.size) { s with heap:=h',toks:=tk }) :
  wpAny (model prog w) A (call (.builtin "sorted") [.ref d] [(Str.ofString "key",.ref q)]) Q E s:=by
 refine call_function_entry_kw kind_sorted plain_sorted entry_sorted (ksk_s1 _ _) ?_;unfold Builtin.«sorted»;refine Gw (m:=checkCount "sorted" 1 1 _) (GN (Gw (kdu_collect (A:=A.in1) (zR (es:=es) (ep:=ep) lo) hh r sz fun h1 tk1 acc kp1 hi =>?_)))
 have ea:acc.toList=es.toList.map (·.key):=by
  refine I9 fun j =>?_;rw[Ha,HD,HD];by_cases hj:j < es.size
  ·have hj2:j < acc.size:=by rw[hi.1];exact hj
   obtain⟨e,e1,e2⟩:=hi.2 j acc[j] (GD hj2);rw[e1,GD hj2,e2];rfl
  ·rw[IY (by rw[hi.1];lia),IY (by lia)];rfl
 rw[ea];have szl:(es.toList.map (·.key)).length≤sizeLine:=by simpa using sz
 refine Gw (wpAny_newList ?_ szl);have hoL:(h1.push (seqObj "list" (es.toList.map (·.key)).toArray 0)).get? h1.objs.size=some (seqObj "list" (es.toList.map (·.key)).toArray 0):=GQ _ rfl
 have kp2:∀ b o,s.heap.get? b=some o→(h1.push (seqObj "list" (es.toList.map (·.key)).toArray 0)).get? b=some o:=fun b o e=>Gx _ (kp1 b o e)
 have ne:∀ b o,s.heap.get? b=some o→b≠h1.objs.size:=fun b o e=>G3 (GJ (kp1 b o e));show wpAny _ _ _ _ _ { s with heap:=h1.push (seqObj "list" (es.toList.map (·.key)).toArray 0),toks:=tk1 }
 refine Gw (wpAny_holding (wpAny_call_entry_kw slot_list_sort ⟨_,hoL,rfl⟩ entry_list_sort (qi (kf:=kf) (s:={ s with heap:=h1.push (seqObj "list" (es.toList.map (·.key)).toArray 0),toks:=tk1 }) hoL szl (fun v h tk hv kp =>?_) fun h' tk out c kp gS hp hw=>⟨_,rfl,GN ⟨_,rfl,fin h1 h' tk out c kp1 (fun b o e=>kp b o (G3 (GJ e)) (Gx _ e)) gS hp hw⟩⟩) (ksk_l1 _ _)))
 obtain⟨e,he,rfl⟩:=GC.mp hv;exact turn e.key h tk ⟨e,he,rfl⟩ fun b o e=>kp b o (ne b o e) (kp2 b o e)
end
abbrev pO (x:Str)(p1 p2 p3 p4 p5 p6 p7 p8 p9 p10 p11:Pos)(j1 j2 j3 j4 x1:Nat):Expr:=.Tuple [.Subscript (.Subscript (.Name x p1) (.Constant (.int 0) j1 p2) p3) (.Constant (.int 1) j2 p4) p5,.Subscript (.Subscript (.Name x p6) (.Constant (.int 0) j3 p7) p8) (.Constant (.int 0) j4 p9) p10] x1 p11
section
variable {w:World}{E:Value→Shared→Prop}
theorem nJ {env:Env}{e:Expr}{a:Addr}{u v:Value}{k:Int}{i j:Nat}{p p':Pos}{Q:Value→Shared→Prop}(hk:-(2 ^ 63)≤k∧k < 2 ^ 63∧seqIndex? k 2=some i){r:Value}(hr : #[u,v][i]? = some r)(h:wpAny (model prog w) A (eval e env) (fun o s1=>o=.ref a∧IsTup s1.heap a #[u,v]∧Q r { s1 with toks:=s1.toks + 1 }) E s)
  (hs:∀ o z,subscripted (.Constant (.int k) j p) false o z=operate [o,z] (getItem o z)):wpAny (model prog w) A (eval (.Subscript e (.Constant (.int k) j p) p') env) Q E s:=by
 refine Subscript_ (Ho h (fun o s1 ⟨e1,ht,q⟩ =>?_) fun _ _ x=>x);subst e1;refine wpAny_Constant_int ?_;exact subscriptTail_builtinR (x:=r) (s:={ s1 with toks:=s1.toks + 1 }) (show Shared.TypeIs { s1 with toks:=s1.toks + 1 } (.ref a) "tuple" from ht.typeIs (s:=s1)) slot_tuple_getitem.lookup (getItem_tuple (x:=r) (Q:=fun r' s'=>r'=r∧_) ht hk.1 hk.2.1 hk.2.2 hr ⟨rfl,q⟩) (hs _ _)
theorem yj {fa a b c':Addr}{name qual:Str}{params:Arguments}{scope:Scope}{x:Str}{p1 p2 p3 p4 p5 p6 p7 p8 p9 p10 p11:Pos}{j1 j2 j3 j4 x1:Nat}{cl:List (Str × Addr)}{pm ctv:Value}{z:Value}{i k:Int}{t t':Tok}(S:u9 [x] [] scope)(hd:A.depth < recursionLimit)
  (ho:s.heap.get? fa=some (kla_obj name qual params (pO x p1 p2 p3 p4 p5 p6 p7 p8 p9 p10 p11 j1 j2 j3 j4 x1) scope cl pm c' ctv)) (cr:s.heap.CodeRec (.ref c') qual) (lim:s.heap.NoLimit)
  (hb:bindArgs (kla_fn name qual params (pO x p1 p2 p3 p4 p5 p6 p7 p8 p9 p10 p11 j1 j2 j3 j4 x1) scope cl pm (.ref c') ctv) ⟨[.ref a],[]⟩=pure [(x,.ref a)]) (ha:IsTup s.heap a #[.ref b,z]) (hi:IsTup s.heap b #[.int i t,.int k t']) (hx:(x == ("__debug__" : Str))=false)
  (hs0:∀ (j:Nat) (p:Pos) o i,subscripted (.Constant (.int 0) j p) false o i=operate [o,i] (getItem o i)) (hs1:∀ (j:Nat) (p:Pos) o i,subscripted (.Constant (.int 1) j p) false o i=operate [o,i] (getItem o i))
  (he1:∀ env,starEach [Expr.Subscript (.Subscript (.Name x p1) (.Constant (.int 0) j1 p2) p3) (.Constant (.int 1) j2 p4) p5,.Subscript (.Subscript (.Name x p6) (.Constant (.int 0) j3 p7) p8) (.Constant (.int 0) j4 p9) p10] env=(false,eval (Expr.Subscript (.Subscript (.Name x p1) (.Constant (.int 0) j1 p2) p3) (.Constant (.int 1) j2 p4) p5) env)::starEach [.Subscript (.Subscript (.Name x p6) (.Constant (.int 0) j3 p7) p8) (.Constant (.int 0) j4 p9) p10] env)
  (he2:∀ env,starEach [Expr.Subscript (.Subscript (.Name x p6) (.Constant (.int 0) j3 p7) p8) (.Constant (.int 0) j4 p9) p10] env=(false,eval (Expr.Subscript (.Subscript (.Name x p6) (.Constant (.int 0) j3 p7) p8) (.Constant (.int 0) j4 p9) p10) env)::starEach [] env) :
  wpAny (model prog w) A (call (.ref fa) [.ref a]) (fun u s'=>∃ h' tk',s'={ s with heap:=h',toks:=tk' }∧(∀ b o,s.heap.get? b=some o→h'.get? b=some o)∧nn h' (k,i) u) E s:=by
 refine wpAny_call (kla_callFunE hd ho rfl S.co S.gen rfl cr ((BindsTo.of_eq hb) _ _ _ _ ?_));refine wpAny_newFunctionEnv S.nocell (fun y hy =>?_) (fun h' hns hsb=>⟨lim.fresh _ hsb,?_⟩) S.kind
 ·have e:y.1=x:=by rw[GI.mp hy]
  rw[e];exact S.loc x GO
 have hk:∀ b o,s.heap.get? b=some o→h'.get? b=some o:=fun b o e=>hsb.extBut b o (G3 (GJ e)) (Gx _ e);have ha':IsTup h' a #[.ref b,z]:=let ⟨o,e,r⟩:=ha;⟨o,hk _ _ e,r⟩
 have hi':IsTup h' b #[.int i t,.int k t']:=let ⟨o,e,r⟩:=hi;⟨o,hk _ _ e,r⟩
 have lk:List.lookup x [(x,Value.ref a)]=some (.ref a):=by simp
 refine kla_codeExpr ?_;refine wpAny_Tuple (wpAny_items_cons ?_ (he1 _));refine nJ (a:=b) (r:=.int k t') (i:=1) ⟨by decide,by decide,rfl⟩ rfl (nJ (a:=a) (r:=.ref b) (i:=0) ⟨by decide,by decide,rfl⟩ rfl (wpAny_Name (wpAny_loadName_local S.kind (S.loc x GO) hns (v:=.ref a) lk ⟨rfl,ha',rfl,hi',?_⟩) hx) (hs0 _ _)) (hs1 _ _);refine wpAny_items_cons ?_ (he2 _);refine nJ (a:=b) (r:=.int i t) (i:=0) ⟨by decide,by decide,rfl⟩ rfl (nJ (a:=a) (r:=.ref b) (i:=0) ⟨by decide,by decide,rfl⟩ rfl (wpAny_Name (wpAny_loadName_local S.kind (S.loc x GO) hns (v:=.ref a) lk ⟨rfl,ha',rfl,hi',?_⟩) hx) (hs0 _ _)) (hs0 _ _);refine wpAny_items_nil ⟨by show 2≤sizeLine;decide,_,_,rfl,fun b o e=>Gx _ (hk b o e),?_⟩;exact⟨_,t',t,rfl,_,GQ _ rfl,rfl,_,rfl⟩
end
def kfH (H:Hp):Value→Int × Int
 | .ref a=>match H a with
  | some (.tup [.ref b,_])=>match H b with
   | some (.tup [.int x,.int y])=>(y,x)
   | _=>(0,0)
  | _=>(0,0)
 | _=>(0,0)
theorem Dx {H:Hp}{k:NK}{a:Addr}(i:gG H k a):kfH H (.ref a)=(k.1.2,k.1.1):=by
 obtain⟨b,h1,h2⟩:=i;unfold kfH;simp only[h1,h2]
abbrev DJ (P:Program)(w:World)(T:List (Addr × Str))(t:TA):TE:=fun σ H Q=>t σ H fun vs H1=>∃ (d:Addr) (xs:List NE),vs=[.ref d]∧DN P w H1 d xs∧fP T H1 ∧
 ∀ (S:Addr) (ys:List NE) (H':Hp),dF T H1 H'→fP T H'→H1 S=none→H' S=some (.lst (ys.map fun e=>V.ref e.2.1))→ys.Perm xs→ys.Pairwise (fun e f=>ltI (f.1.1.2,f.1.1.1) (e.1.1.2,e.1.1.1)=false)→Q (.ref S) H'
section
theorem Al {params:Arguments}{scope:Scope}{lpos kp p pos p1 p2 p3 p4 p5 p6 p7 p8 p9 p10 p11:Pos}{j1 j2 j3 j4 x1:Nat}{x:Str}{e:Expr}{te:TA}{T:List (Addr × Str)}{c Pt:Addr}{qual:Str}{k:Nat}(hr:cz (k + 3) X.A)(hM:X.mg "sorted" = none)(hB:lw X.mg X.base)(hC:CodeHd X.base c Pt)(hcode:X.env.code=.ref c)(hT:(Pt,qual)∈T)(hnd:(T.map (·.1)).Nodup)(hq:X.env.qual ++ "<lambda>" = qual)
  (S:u9 [x] [] scope) (he:PA X [e] te) (hc:X.calm=true:=by rfl) (hx:(x == ("__debug__" : Str))=false:=by decide) (hg:Gl X "sorted" := by rfl) (hclos:closureFor scope X.env=pure (clo X.env []):=by rfl) (hdef:defaultsOf params X.env=([],[]):=by rfl)
  (hb:∀ (cl:List (Str × Addr)) (pm ctv:Value) (c' a:Addr),bindArgs (kla_fn "<lambda>" qual params (pO x p1 p2 p3 p4 p5 p6 p7 p8 p9 p10 p11 j1 j2 j3 j4 x1) scope cl pm (.ref c') ctv) ⟨[.ref a],[]⟩=pure [(x,.ref a)]:=by intros;rfl)
  (hs0:∀ (j:Nat) (p:Pos) o i,subscripted (.Constant (.int 0) j p) false o i=operate [o,i] (getItem o i):=by intros;rfl) (hs1:∀ (j:Nat) (p:Pos) o i,subscripted (.Constant (.int 1) j p) false o i=operate [o,i] (getItem o i):=by intros;rfl)
  (he1:∀ env,starEach [Expr.Subscript (.Subscript (.Name x p1) (.Constant (.int 0) j1 p2) p3) (.Constant (.int 1) j2 p4) p5,.Subscript (.Subscript (.Name x p6) (.Constant (.int 0) j3 p7) p8) (.Constant (.int 0) j4 p9) p10] env=(false,eval (Expr.Subscript (.Subscript (.Name x p1) (.Constant (.int 0) j1 p2) p3) (.Constant (.int 1) j2 p4) p5) env)::starEach [.Subscript (.Subscript (.Name x p6) (.Constant (.int 0) j3 p7) p8) (.Constant (.int 0) j4 p9) p10] env:=by intros;rfl)
  (he2:∀ env,starEach [Expr.Subscript (.Subscript (.Name x p6) (.Constant (.int 0) j3 p7) p8) (.Constant (.int 0) j4 p9) p10] env=(false,eval (Expr.Subscript (.Subscript (.Name x p6) (.Constant (.int 0) j3 p7) p8) (.Constant (.int 0) j4 p9) p10) env)::starEach [] env:=by intros;rfl)
  (hbt:backTo pos (starEach [e] X.env)=(false,eval e X.env)::backTo pos (starEach [] X.env):=by rfl) (hpn:(backTo pos (starEach [e] X.env)).any (·.1)=false:=by rfl) :
  PE X (.Call (.Name "sorted" p) [e] [⟨some "key",.Lambda params (pO x p1 p2 p3 p4 p5 p6 p7 p8 p9 p10 p11 j1 j2 j3 j4 x1) scope lpos,kp⟩] pos) (DJ X.prog X.w T te):=by
 intro pins s σ H Q I h;refine wpAny_Call_Name_kw (ke I hg hM mh ?_);refine callWith_kw (thn (he pos pins s σ H _ I h) fun us s1 ⟨vs,H1,I1,r,d,xs,e1,D,hTb,q⟩ =>?_) hbt hpn;subst e1;obtain⟨u,rfl,ru⟩:=jM r;cases ru;refine kws_cons (thn (D6 (pos:=lpos) [] hB hC hcode hT hnd hq hclos hdef pins s1 σ H1 (fun v H2=>∃ fa c' ctv,v=.ref fa∧H2 fa=some (isE fa (kla_obj "<lambda>" qual params (pO x p1 p2 p3 p4 p5 p6 p7 p8 p9 p10 p11 j1 j2 j3 j4 x1) scope (clo X.env []) ((X.mg "__name__").getD .none) c' ctv))∧H2 c'=some (mH c' qual)∧fP T H2∧dF T H1 H2) I1 ⟨hTb,fun fa c' ctv H' _ h1 h2 h3 h4=>⟨fa,c',ctv,rfl,h1,h2,h3,h4⟩⟩) fun u2 s2 ⟨v2,H2,I2,r2,fa,c',ctv,e2,hfa,hc',hTb2,sT⟩=>kws_nil ?_)
 subst e2;cases r2;show wpAny _ _ (call (.builtin "sorted") [.ref d] [(Str.ofString "key",.ref fa)]) _ _ _
 have tp:∀ b xs,H1 b=some (.tup xs)→H2 b=some (.tup xs):=fun b xs e=>sT.keep hTb e (by intro ps z;cases z);have D2:DN X.prog X.w H2 d xs:=D.keep (by rw[D.at_];exact sT.keep hTb D.at_ (by intro ps z;cases z)) tp;obtain⟨z,lo,o,es,ep,g1,g2,g3,g4,_,g5⟩:=D2.rd I2.hok;have ek:es.toList.map (·.key)=xs.map fun e=>Value.ref e.2.1:=by
  rw[g4,Hj,Hj];rfl
 have es_sz:es.size≤sizeLine:=by
  have h1:=Hn List.length ek;rw[Gy,Gy,G5]at h1
  lia
 refine vp (kf:=kfH H2) (I2.ok.hd hc) lo ⟨o,g1,g2,g3⟩ es_sz (fun v h tk hv kp =>?_) fun h1 h' tk out cc kp1 kp2 gS hp hw =>?_
 ·obtain⟨en,hen,rfl⟩:=hv;obtain⟨ne,hne,e3⟩:∃ ne∈xs,en.key=Value.ref ne.2.1:=by
   have m1:en.key∈es.toList.map (·.key):=GC.mpr ⟨en,hen,rfl⟩;rw[ek]at m1;obtain⟨ne,h1,h2⟩:=GC.mp m1;exact⟨ne,h1,h2.symm⟩
  rw[e3];have nk:=(D2.keys ne hne).1;rw[Dx nk];obtain⟨b,k1,k2⟩:=nk;obtain⟨_,its,r1,i1⟩:=(show bo X.prog X.w H2 s2.heap _ (.tup _) from I2.hok _ _ k1);obtain⟨_,jts,r2,i2⟩:=(show bo X.prog X.w H2 s2.heap _ (.tup _) from I2.hok _ _ k2);obtain⟨u1,u2,rfl,q1,q2⟩:=ms r1;obtain⟨w1,w2,rfl,⟨t1,rfl⟩,⟨t2,rfl⟩⟩:=ms r2;cases q1;have I3:Inv X pins σ H2 { s2 with heap:=h,toks:=tk }:=I2.kept (t':=tk) kp;have cr:h.CodeRec (.ref c') qual:=by
   obtain⟨c₂,o₂,vs₂,t₂,z₂,y₂,r₂⟩:=(I2.hok c' _ hc').1;cases z₂;exact⟨c',o₂,vs₂,t₂,rfl,kp _ _ y₂,r₂⟩
  have up:∀ {a:Addr} {xs:Array Value},IsTup s2.heap a xs→IsTup h a xs:=fun i=>let ⟨o,e,r⟩:=i;⟨o,kp _ _ e,r⟩
  exact yj (s:={ s2 with heap:=h,toks:=tk }) S (hr.in1.in1.depth) (kp _ _ (I2.hok fa _ hfa).1) cr I3.nolimit (hb _ _ _ _ _) (up i1) (up i2) hx hs0 hs1 he1 he2
 ·rw[ek]at hp;obtain⟨ys,pm,rfl⟩:=yz hp rfl;have I3:Inv X pins σ H2 { s2 with heap:=h1,toks:=tk }:=I2.kept (t':=tk) kp1;have nS:H2 h1.objs.size=none:=I3.hok.fresh (GB _);have hv:aN (ys.map fun e=>V.ref e.2.1) (ys.map fun e=>Value.ref e.2.1):=by
   clear pm hw hp gS
   induction ys with
   | nil=>exact .nil
   | cons e ys ih=>exact .cons rfl ih
  have lz:(ys.map fun e=>V.ref e.2.1).length≤sizeLine:=by rw[Gy,pm.length_eq];exact z
  have I4:Inv X pins σ (upd H2 h1.objs.size (.lst (ys.map fun e=>V.ref e.2.1))) { s2 with heap:=h',toks:=tk }:=I3.laid (t':=tk) kp2 (GB _) ⟨lz,_,cc,hv,gS⟩;have s4:=am.new nS (.lst (ys.map fun e=>V.ref e.2.1));refine⟨.ref h1.objs.size,_,I4,rfl,q _ ys _ (sT.trans s4.toT) (s4.tabs hTb2) ?_ ah pm ?_⟩
  ·cases e5:H1 h1.objs.size with
   | none=>rfl
   | some o5 =>
    by_cases hm:h1.objs.size∈T.map (·.1)
    ·obtain⟨p5,m5,e6⟩:=GC.mp hm;obtain⟨ps,h5,_⟩:=hTb2 p5 m5;rw[e6,nS]at h5;cases h5
    ·have:=sT _ _ e5 hm
     rw[nS]at this;cases this
  ·rw[Hg]at hw;have al:∀ e∈ys,kfH H2 (.ref e.2.1)=(e.1.1.2,e.1.1.1):=fun e he=>Dx (D2.keys e (pm.mem_iff.mp he)).1;refine hw.imp_of_mem fun {a b} ha hb h =>?_;rw[al a ha,al b hb]at h;exact h
end
section
variable {σ0 cs:St}{k:Nat}{g:TG}{te:TE}{tt:TT}{H1:Hp}{Q:VK}
theorem sH {lo:Int}{n:Nat}(Pv:Addr→Nat→List V→Hp→Prop)(hn:n≤sizeLine)(hl:∀ D i ys H,Pv D i ys H→H D=some (.lst ys)∧ys.length≤i)(h0:∀ D,H1 D=none→Pv D 0 [] (upd H1 D (.lst [])))
  (hs:∀ D i ys H,i < n→H1 D=none→Pv D i ys H→g (.int (lo + i)) σ0 H fun σ2 H3=>σ2.drop k=cs∧tt σ2 H3 fun b H4=>if b=true then te σ2 H4 fun y H5=>H5 D=some (.lst ys)∧Pv D (i + 1) (ys++[y]) (upd H5 D (.lst (ys++[y]))) else Pv D (i + 1) ys H4)
  (hd:∀ D ys H,H1 D=none→Pv D n ys H→Q (.ref D) H) (mono:∀ x σ H (R R':St→Hp→Prop),(∀ σ' H',R σ' H'→R' σ' H')→g x σ H R→g x σ H R')
  (mono2:∀ σ H (R R':VK),(∀ v H',R v H'→R' v H')→te σ H R→te σ H R') (mono3:∀ σ H (R R':Bool→Hp→Prop),(∀ v H',R v H'→R' v H')→tt σ H R→tt σ H R'):nW σ0 k cs g tt te Q (Itr lo n) H1 :=
 zg n (fun i x=>x=.int (lo + i)) Pv hn (fun D i ys H hi p=>hi) (fun D ys H p=>GB _) (fun D i ys H x H' hi p y=>y) hl h0 (fun D i x ys H hi hx hD p=>hx▸hs D i ys H hi hD p) hd mono mono2 mono3
end
section
variable {w:World}{R:Result→Shared→Prop}{I:Addr}{fp wr:List Addr}{n:Nat}{P:Nat→Value→Prop}{St:Nat→Heap→Prop}{Kp:Heap→Prop}
end
section
open PySem.SeqAt
open PySem.AutoSeq1 (wpAny_loadPart')
open PySem.MeetsSeq PySem.MeetsSeq2 PySem.MeetsSeq3
end
section
open PySem.SeqAt
open PySem.AutoSeq1 (wpAny_loadPart')
open PySem.MeetsSeq PySem.MeetsSeq2 PySem.MeetsSeq3
end
section
end
end L2
namespace L2
open PySem PySem.Spec PyProof.Rows
variable {H:Hp}{X:Cx}{s:Shared}{pos:Pos}{prog:Program}{A:Around}{K:PySem.W.Frag}
section
theorem aq {i:Nat}{x:Str}{e:Expr}{te:TE}{pos pos':Pos}{P:List Str}{sc:Scope}(S:az X.N P sc)(he:PE X e te)(hi:X.N[i]? = some x:=by exact rfl)(hx:Loc X.env.scope x:=by exact Or.inl rfl)(hs:swapsWith e (some (.Name x pos')) pos.line X.env=pure false:=by rfl)(hf:X.fn x=true∨X.env.scope.names.lookup x=some .local:=by first | exact .inl rfl | exact .inr rfl | assumption):
  PS X (.Assign [.Name x pos'] e pos) (B6 te (py i)):=vK S.nd hi hx he hs hf
theorem bj {i:Nat}{x:Str}{pos:Pos}{P:List Str}{sc:Scope}(S:az X.N P sc)(hi:X.N[i]? = some x:=by exact rfl)(hx:Loc X.env.scope x:=by exact Or.inl rfl)(hf:X.fn x=true∨X.env.scope.names.lookup x=some .local:=by first | exact .inl rfl | exact .inr rfl | assumption):PG X (.Name x pos) (py i):=rK S.nd hi hx hf
theorem tN {i:Nat}{x:Str}{pos:Pos}(hN:X.N.Nodup:=by show List.Nodup (_::_);decide +kernel)(hi:X.N[i]? = some x:=by exact rfl)(hx:Loc X.env.scope x:=by exact Or.inl rfl)(hf:X.fn x=true∨X.env.scope.names.lookup x=some .local:=by exact Or.inr rfl):PG X (.Name x pos) (py i):=rK hN hi hx hf
theorem dL {o e:Expr}{es:List Expr}{to:TE}{t:TA}{apos cpos:Pos}(ho:PE X o to)(ha:PA X (e::es) t)
  (hbase:attributeBase o "append" X.env (eval o X.env)=eval o X.env:=by rfl)
  (hfew:((backTo cpos (starEach (e::es) X.env)).all (fun x => !x.1) && (backToKw cpos (keywordEach [] X.env)).all (fun x=>x.1.isSome) && decide ((e::es).length + ([]:List Keyword).length + (if ([]:List Keyword).isEmpty then 0 else 1) < 30))=true:=by rfl)
  (hline:(apos.endLine == cpos.line)=true:=by rfl) (hs:starEach (e::es) X.env=(false,eval e X.env)::starEach es X.env:=by rfl) (hplain:(backTo cpos (starEach es X.env)).any (·.1)=false:=by rfl) :
  PE X (.Call (.Attribute o "append" apos) (e::es) [] cpos) (tBM X.K "list" wW to t):=kF PySem.F.plainAttrs_list PySem.F.slot_list_append PySem.F.type_list_append qF ho ha hbase hfew hline hs hplain
end
theorem nw {H:Hp}{o:HO}{R:Addr→Hp→Prop}(h:∀ p H',H p=none→am H H'→H' p=some o→R p H'):Nw H o R:=fun p hp=>h p _ hp (am.new hp o) ah
theorem leZ {n:Nat}(h:Nat.ble n sizeLine=true):n≤sizeLine:=Nat.le_of_ble_eq_true h
end L2
namespace Qs
open PySem L2
def top (i:Nat):Stmt:=PySem.Challenge.pw_quartersheet_k68_places_refused.main.body.getD i (.Pass ⟨0,0,0,0⟩)
structure Tx (K:PySem.W.Frag)(mg:Str→Option Value):Prop where
 b_isinstance:mg "isinstance" = none
 b_int:mg "int" = none
 b_bool:mg "bool" = none
 c_MOST:∃ t,mg "MOST" = some (.int 40 t)
 b_all:mg "all" = none
 b_str:mg "str" = none
 b_len:mg "len" = none
 c_QUARTERS:∃ t,mg "QUARTERS" = some (.str "0123" t)
 b_range:mg "range" = none
 b_min:mg "min" = none
 b_max:mg "max" = none
 b_tuple:mg "tuple" = none
 b_sorted:mg "sorted" = none
 b_dict:mg "dict" = none
 b_list:mg "list" = none
 b_ValueError:mg "ValueError" = none
def txt (ds:List Nat):Str:=⟨(ds.map (48 + ·)).toArray⟩
theorem eP (ds:List Nat):(txt ds).length=ds.length:=by
 rw[cR];simp[txt]
theorem wE {ds:List Nat}(h:∀ d∈ds,d < 4):IsC (txt ds):=fun c hc=>by
 have hc':∃ d∈ds,48 + d=c:=by simpa[txt] using hc
 obtain⟨d,hd,e⟩:=hc'
 have:=h d hd
 lia
theorem fe (ds:List Nat):dig (txt ds)=ds:=by
 unfold dig txt;rw[Hj];have e:((fun x=>x - 48) ∘ fun x=>48 + x)=(id:Nat→Nat):=by funext x;show 48 + x - 48=x;simp
 rw[e,Jv]
theorem nr {a b:Str}(h:a.cps.toList=b.cps.toList):a=b:=by
 obtain⟨a⟩:=a;obtain⟨b⟩:=b;have h':a.toList=b.toList:=h;have e:a=b:=IL.mp h';rw[e]
theorem nq {z:Str}(h:IsC z):txt (dig z)=z:=by
 refine nr ?_;have e:(txt (dig z)).cps.toList=(z.cps.toList.map (· - 48)).map (48 + ·):=rfl;rw[e,Hj];have e2:∀ c∈z.cps.toList,((fun x=>48 + x) ∘ fun x=>x - 48) c=id c:=fun c hc=>by
  have:=h c hc
  show 48 + (c - 48)=c
  lia
 rw[Hc e2,Jv]
theorem gX:("" : Str)=⟨#[]⟩:=by decide +kernel
def pre (z:Str)(k:Nat):Str:=⟨(z.cps.toList.take k).toArray⟩
theorem gM (z:Str)(k:Nat):Txt.slice z none (some (k:Int))=pre z k:=by
 by_cases h:k≤z.length
 ·have e:=PyProof.Rows.slice_closes_to (x:=z) (j:=(k:Int)) ⟨by simp,by rw[← cR];lia⟩;rw[beq_iff_eq]at e;rw[e];unfold pre;simp
 ·have e:Builtin.Str.strSliceIndices none (some (k:Int)) 1 z.length=(List.range z.length).map fun j:Nat=>(0 + 1 * (j:Int)).toNat:=by
   unfold Builtin.Str.strSliceIndices;dsimp only;unfold sliceRange;have h1:¬ (k:Int) < 0:=by simp
   have h2:max (0:Int) (min (k:Int) (z.length:Int))=(z.length:Int):=by lia
   simp only[show (1:Int) > 0 by decide,if_true,h1,if_false,h2];by_cases h0:(0:Int) < (z.length:Int)
   ·rw[if_pos h0];have e3:(((z.length:Int) - 0 + 1 - 1) / 1).toNat=z.length:=by simp
    rw[e3]
   ·rw[if_neg h0];have e3:z.length=0:=by lia
    rw[e3];rfl
  unfold Txt.slice;rw[e,Gy,I0];rw[if_pos (by simp)];refine nr ?_;unfold pre;rw[GV (by rw[← cR];lia)]
theorem rH (z:Str)(k:Nat):(pre z k).length=min k z.length:=by
 rw[cR,cR];simp[pre]
theorem rJ {z:Str}(h:IsC z)(k:Nat):IsC (pre z k):=fun c hc=>h c (by
 have hc':c∈z.cps.toList.take k:=by simpa[pre] using hc
 exact HR hc')
theorem iF (a b:Str):(a++b).length=a.length + b.length:=by
 show (a.cps++b.cps).size=_;rw[Array.size_append];rfl
theorem ER {d:Nat}(h:d < 4):atI ("0123" : Str).cps.toList (d:Int)=some (48 + d) :=
 four (P:=fun d=>atI ("0123" : Str).cps.toList (d:Int)=some (48 + d)) (by decide +kernel) (by decide +kernel) (by decide +kernel) (by decide +kernel) h
theorem z_:("0123" : Str).length≤sizeLine:=by decide +kernel
def CJ (a b c d:Tr):Bool:=a.isCol && (decide (a=a) && (decide (b=a) && (decide (c=a) && (decide (d=a) && true))))
def ki (a b c d:Tr):Tr:=if CJ a b c d then a else .four a b c d
def q0:Tr→Tr | .col i=>.col i | .four a _ _ _=>a
def q1:Tr→Tr | .col i=>.col i | .four _ b _ _=>b
def q2:Tr→Tr | .col i=>.col i | .four _ _ c _=>c
def q3:Tr→Tr | .col i=>.col i | .four _ _ _ d=>d
theorem oK {a b c d:Tr}:CJ a b c d=true↔a.isCol=true∧b=a∧c=a∧d=a:=by
 unfold CJ;simp only[HE,decide_eq_true_eq,and_true,true_and]
theorem y_ {a b c d:Tr}{n:Nat}(ha:a.deep≤n)(hb:b.deep≤n)(hc:c.deep≤n)(hd:d.deep≤n):(ki a b c d).deep≤n + 1:=by
 unfold ki
 split
 ·lia
 ·show max a.deep (max b.deep (max c.deep d.deep)) + 1≤n + 1
  lia
def EW (H:Hp)(v:V)(n:Int)(t:Tr):Prop:=∃ p x,v=.ref p∧H p=some (.tup [.int n,x])∧bu H x t
theorem kh {K:PySem.W.Frag}:PySem.W.kitOne K (.type "int") (.type "tuple")=some false:=by kernel_rfl
def qk (t:Tr):Nat→Tr
 | 0=>q0 t
 | 1=>q1 t
 | 2=>q2 t
 | _=>q3 t
def qe (t:Tr)(d:Nat)(x:Tr):Tr:=ki (if d=0 then x else q0 t) (if d=1 then x else q1 t) (if d=2 then x else q2 t) (if d=3 then x else q3 t)
def jm (t:Tr):List Nat→Tr→Tr
 | [],o=>o
 | d::ds,o=>qe t d (jm (qk t d) ds o)
theorem jD {t:Tr}{n d:Nat}(h:t.deep≤n + 1):(qk t d).deep≤n:=by
 cases t with
 | col i=>rcases d with _ | _ | _ | d<;>exact GF _
 | four a b c e =>
  have h':max a.deep (max b.deep (max c.deep e.deep)) + 1≤n + 1:=h;rcases d with _ | _ | _ | d
  ·show a.deep≤n;lia
  ·show b.deep≤n;lia
  ·show c.deep≤n;lia
  ·show e.deep≤n;lia
theorem gQ {t:Tr}{n d:Nat}(h:t.deep≤n):(qk t d).deep≤n:=by
 rcases n with _|n
 ·cases t with
  | col i=>rcases d with _ | _ | _ | d<;>exact GF _
  | four a b c e=>exact absurd h (by show ¬ _ + 1≤0;lia)
 ·exact Nat.le_succ_of_le (jD h)
theorem yt {t x:Tr}{n d:Nat}(h:t.deep≤n + 1)(hx:x.deep≤n):(qe t d x).deep≤n + 1:=by
 unfold qe;have h0:=jD (d:=0) h;have h1:=jD (d:=1) h;have h2:=jD (d:=2) h;have h3:=jD (d:=3) h;refine y_ ?_ ?_ ?_ ?_<;>split<;>assumption
def aP:Nat→Tr→Prop
 | _,.col i=>0≤i∧i≤35
 | 0,.four ..=>False
 | n + 1,.four a b c d=>aP n a∧aP n b∧aP n c∧aP n d∧CJ a b c d=false
theorem aP.deep:∀ {n:Nat} {t:Tr},aP n t→t.deep≤n
 | _,.col i,_=>GF _
 | 0,.four ..,h=>h.elim
 | n + 1,.four a b c d,⟨ha,hb,hc,hd,_⟩=>by
  have:=ha.deep
  have:=hb.deep
  have:=hc.deep
  have:=hd.deep
  show max a.deep (max b.deep (max c.deep d.deep)) + 1≤n + 1
  lia
theorem aP.col {n:Nat}{i:Int}(h:0≤i∧i≤35):aP n (.col i):=by cases n<;>exact h
theorem aP.q {n:Nat}{t:Tr}(h:aP (n + 1) t)(k:Nat):aP n (qk t k):=by
 cases t with
 | col i =>
  have z:aP n (.col i):=aP.col h;rcases k with _ | _ | _ | k<;>exact z
 | four a b c d =>
  obtain⟨ha,hb,hc,hd,_⟩:=h;rcases k with _|_|_|k
  ·exact ha
  ·exact hb
  ·exact hc
  ·exact hd
theorem aP.up {n:Nat}{t:Tr}(h:aP n t):aP (n + 1) t:=by
 induction t generalizing n with
 | col i=>exact aP.col (by cases n<;>exact h)
 | four a b c d ia ib ic id =>
  cases n with
  | zero=>exact h.elim
  | succ n =>
   obtain⟨ha,hb,hc,hd,ho⟩:=h;exact⟨ia ha,ib hb,ic hc,id hd,ho⟩
theorem yZ {n:Nat}{a b c d:Tr}(ha:aP n a)(hb:aP n b)(hc:aP n c)(hd:aP n d):aP (n + 1) (ki a b c d):=by
 unfold ki
 split
 ·exact ha.up
 ·rename_i h
  exact⟨ha,hb,hc,hd,by simpa using h⟩
theorem yY {n d:Nat}{t x:Tr}(h:aP (n + 1) t)(hx:aP n x):aP (n + 1) (qe t d x):=by
 unfold qe;have h0:=h.q 0;have h1:=h.q 1;have h2:=h.q 2;have h3:=h.q 3;refine yZ ?_ ?_ ?_ ?_<;>split<;>assumption
theorem pf:∀ {n:Nat} {ds:List Nat} {t o:Tr},ds.length≤n→aP n t→aP (n - ds.length) o→aP n (jm t ds o)
 | n,[],t,o,_,_,h=>h
 | 0,d::ds,t,o,hl,_,_=>by simp at hl
 | n + 1,d::ds,t,o,hl,ht,ho=>by
  have hl':ds.length≤n:=by simpa using hl
  refine yY ht (pf hl' (ht.q d) ?_);have e:n + 1 - (d::ds).length=n - ds.length:=by simp
  rw[e]at ho;exact ho
theorem oE:∀ (ds:List Nat) (n:Nat) (t o:Tr),t.deep≤n→o.deep + ds.length≤n→(jm t ds o).deep≤n
 | [],n,t,o,_,h=>by show o.deep≤n;simpa using h
 | d::ds,0,t,o,_,h=>by simp at h
 | d::ds,n + 1,t,o,ht,ho=>by
  have ho':o.deep + ds.length≤n:=by simp at ho;lia
  exact yt ht (oE ds n (qk t d) o (jD ht) ho')
section
variable {P:Program}{w:World}{K:PySem.W.Frag}{mg:Str→Option Value}{base:Heap}{CX:CXT}{f:Addr}{fd:FuncData}
theorem n6 {z:Str}:(z=("" : Str))↔z.length=0:=by
 constructor
 ·rintro rfl;decide +kernel
 ·intro h;apply nr
  have e:z.cps.toList=[]:=Hl (by rw[← cR];exact h);rw[e];decide +kernel
def rst (z:Str):Str:=⟨(z.cps.toList.drop 1).toArray⟩
theorem ye {z:Str}(h:0 < z.length):Txt.slice z (some 1) none=rst z:=by
 have e:=PyProof.Rows.slice_closes_from (x:=z) (i:=1) ⟨by decide,by rw[← cR];lia⟩;rw[beq_iff_eq]at e;rw[e];unfold rst
 congr 2
 show (z.cps.toList.drop 1).take ((z.cps.toList.length:Int) - 1).toNat=_;rw[GV];rw[Ih,← cR];simp
theorem Cd (z:Str):(rst z).length=z.length - 1:=by rw[cR,cR];simp[rst]
theorem Ce {z:Str}(h:IsC z):IsC (rst z):=fun c hc=>h c (by
 have hc':c∈z.cps.toList.drop 1:=by simpa[rst] using hc
 exact Jl hc')
theorem Dh {z:Str}(h:0 < z.length):atI z.cps.toList 0=some (z.cps.getD 0 0):=by
 have hs:0 < z.cps.size:=h;refine dB (j:=0) ?_;simp[Hs,hs]
theorem Go {x qual:Str}{st:Stmt}{dV:Value}{ps:List Str}(F:aT K x qual st f fd dV)(b:cL K fd ps [])(m:mg x=some (.ref f)):Fok P w K mg base CX 0 x ps [] (fun _ _ _ _=>False) :=
 ⟨f,fd,[],⟨fun _ _ _ _ h=>h.elim,fun _ _ _ _ _ _ _ _ _ _ _ _ _ h=>h.elim⟩,b,.nil,F.kp,m⟩
theorem qS:dig ("" : Str)=[]:=by decide +kernel
theorem C8 {z:Str}(h:0 < z.length):dig z=(z.cps.getD 0 0 - 48)::dig (rst z):=by
 have hs:0 < z.cps.size:=h;have hl:0 < z.cps.toList.length:=by simpa using hs
 have e:z.cps.toList=z.cps.getD 0 0::z.cps.toList.drop 1:=by
  have e1:=HA (l:=z.cps.toList) (i:=0) hl;rw[List.drop_zero]at e1;have e2:z.cps.getD 0 0=z.cps.toList[0]:=by simp[Hs,hs]
  rw[e2];exact e1
 unfold dig rst
 conv=>lhs;rw[e]
 rfl
end
def cnt:Tr→Nat
 | .col _=>1
 | .four a b c d=>cnt a + cnt b + cnt c + cnt d
theorem xQ:∀ t,1≤cnt t
 | .col _=>GB 1
 | .four a b c d=>by
  have:=xQ a
  show 1≤cnt a + cnt b + cnt c + cnt d
  lia
theorem BF (a b c d:Tr):cnt (ki a b c d)≤cnt a + cnt b + cnt c + cnt d:=by
 unfold ki
 split
 ·lia
 ·exact GB _
theorem FS {t:Tr}:cnt (q0 t) + cnt (q1 t) + cnt (q2 t) + cnt (q3 t)≤cnt t + 3:=by
 cases t with
 | col i=>show 1 + 1 + 1 + 1≤1 + 3;decide
 | four a b c d=>show cnt a + cnt b + cnt c + cnt d≤cnt a + cnt b + cnt c + cnt d + 3;simp
theorem BE {t x:Tr}{d:Nat}(hd:d < 4):cnt (qe t d x) + cnt (qk t d)≤cnt t + 3 + cnt x:=by
 unfold qe;have h:=BF (if d=0 then x else q0 t) (if d=1 then x else q1 t) (if d=2 then x else q2 t) (if d=3 then x else q3 t);have h2:=FS (t:=t);generalize ki (if d=0 then x else q0 t) (if d=1 then x else q1 t) (if d=2 then x else q2 t) (if d=3 then x else q3 t)=g at *;rcases d with _ | _ | _ | _ | d
 ·have h':cnt g≤cnt x + cnt (q1 t) + cnt (q2 t) + cnt (q3 t):=h;show cnt g + cnt (q0 t)≤_
  lia
 ·have h':cnt g≤cnt (q0 t) + cnt x + cnt (q2 t) + cnt (q3 t):=h;show cnt g + cnt (q1 t)≤_
  lia
 ·have h':cnt g≤cnt (q0 t) + cnt (q1 t) + cnt x + cnt (q3 t):=h;show cnt g + cnt (q2 t)≤_
  lia
 ·have h':cnt g≤cnt (q0 t) + cnt (q1 t) + cnt (q2 t) + cnt x:=h;show cnt g + cnt (q3 t)≤_
  lia
 ·lia
theorem qT:∀ (ds:List Nat) (t o:Tr),(∀ d∈ds,d < 4)→cnt (jm t ds o)≤cnt t + 3 * ds.length + cnt o
 | [],t,o,_=>by show cnt o≤_;simp
 | d::ds,t,o,h=>by
  have h1:=BE (t:=t) (x:=jm (qk t d) ds o) (h d GO);have h2:=qT ds (qk t d) o fun x hx=>h x (GG _ hx);show cnt (qe t d (jm (qk t d) ds o))≤_;rw[G2]
  lia
theorem xC (m:Int):∃ d:Nat,d < 4∧m % 4=(d:Int):=⟨(m % 4).toNat,by lia,by lia⟩
theorem By {z:Str}(hz:IsC z):∀ d∈dig z,d < 4:=fun d h=>by
 obtain⟨c,hc,rfl⟩:=GC.mp h
 have:=hz c hc
 omega
def dgt (x y m:Nat):Nat:=x / 2 ^ m % 2 + 2 * (y / 2 ^ m % 2)
def low (n x y:Nat):List Nat:=(List.range n).map fun k=>dgt x y (n - 1 - k)
theorem sC (x y m:Nat):dgt x y m < 4:=by unfold dgt;lia
theorem rV (n x y:Nat):(low n x y).length=n:=by simp[low]
theorem AS (i x y:Nat):low (i + 1) x y=dgt x y i::low i x y:=by
 unfold low;rw[List.range_succ_eq_map,GX,Hj];refine congr (Hn List.cons ?_) (Hc fun k hk =>?_)
 ·rfl
 ·have:=Jb.mp hk
  show dgt x y (i + 1 - 1 - (k + 1))=dgt x y (i - 1 - k)
  congr 1
  lia
def cell (ns:List Int)(k:Nat):Int:=(ns[k]?).getD 0
def lvs:List Nat→Tr→List (List Nat × Int)
 | z,.col i=>[(z,i)]
 | z,.four a b c d=>lvs (z++[0]) a++(lvs (z++[1]) b++(lvs (z++[2]) c++lvs (z++[3]) d))
theorem fi:∀ (t:Tr) (z:List Nat),(lvs z t).length=cnt t
 | .col _,_=>rfl
 | .four a b c d,z=>by
  show (lvs (z++[0]) a++(lvs (z++[1]) b++(lvs (z++[2]) c++lvs (z++[3]) d))).length=cnt a + cnt b + cnt c + cnt d;rw[GE,GE,GE,fi a,fi b,fi c,fi d];lia
def iZ:Tr→List Nat→Option Tr
 | t,[]=>some t
 | .col _,_::_=>none
 | .four a b c d,k::w=>iZ (qk (.four a b c d) k) w
theorem oR:∀ (w:List Nat) (t:Tr) (v:List Nat),iZ t (w++v)=(iZ t w).bind fun u=>iZ u v
 | [],t,v=>rfl
 | k::w,.col i,v=>rfl
 | k::w,.four a b c d,v=>oR w (qk (.four a b c d) k) v
theorem kW (a b:Str):dig (a++b)=dig a++dig b:=by
 unfold dig;show (a.cps++b.cps).toList.map _=_;simp
theorem sx (d:Nat):dig (one d)=[d]:=by
 show [48 + d - 48]=[d];rw[show 48 + d - 48=d by simp]
theorem pH (z:Str)(k:Nat):dig (pre z k)=(dig z).take k:=by
 unfold dig pre;simp
theorem big {n:Nat}(h:n≤1000000):n≤sizeLine:=G8 h (by decide)
theorem wL {d:Nat}(h:d < 4):Str.ofString (toString ((d:Nat):Int))=one d :=
 four (P:=fun d=>Str.ofString (toString ((d:Nat):Int))=one d) (by decide +kernel) (by decide +kernel) (by decide +kernel) (by decide +kernel) h
def sV (ds:List Nat):V:=.str (txt ds)
theorem zO {z:Str}(h:IsC z):sV (dig z)=.str z:=by unfold sV;rw[nq h]
theorem B0 {z:Str}(h:IsC z)(k:Nat):txt ((dig z).take k)=pre z k:=by rw[← pH,nq (rJ h k)]
def bn (near:List Nat):List Nat→Tr→List (List Nat)
 | z,.col _=>[z]
 | z,.four a b c d=>near.flatMap fun e=>match e with
  | 0=>bn near (z++[e]) a
  | 1=>bn near (z++[e]) b
  | 2=>bn near (z++[e]) c
  | _=>bn near (z++[e]) d
theorem iG (near z:List Nat)(a b c d:Tr):bn near z (.four a b c d)=near.flatMap fun e=>bn near (z++[e]) (qk (.four a b c d) e):=by
 show near.flatMap _=near.flatMap _
 congr 1
 funext e
 rcases e with _|_|_|e<;>rfl
def wz (near:List Nat):Prop:=near=[2,3]∨near=[0,2]∨near=[0,1]∨near=[1,3]
theorem fm {near:List Nat}(h:wz near):∀ (t:Tr) (z:List Nat),(bn near z t).length≤cnt t
 | .col _,_=>GB 1
 | .four a b c d,z=>by
  rw[iG];have ha:=fm h a;have hb:=fm h b;have hc:=fm h c;have hd:=fm h d;show _≤cnt a + cnt b + cnt c + cnt d;rcases h with h | h | h | h
  ·have e:(near.flatMap fun e=>bn near (z++[e]) (qk (.four a b c d) e))=bn near (z++[2]) c++bn near (z++[3]) d:=by
    rw[show (near.flatMap fun e=>bn near (z++[e]) (qk (.four a b c d) e))=([2,3].flatMap fun e=>bn near (z++[e]) (qk (.four a b c d) e)) by rw[← h]];simp[qk,q2,q3]
   rw[e,GE];have h1:=hc (z++[2]);have h2:=hd (z++[3])
   lia
  ·have e:(near.flatMap fun e=>bn near (z++[e]) (qk (.four a b c d) e))=bn near (z++[0]) a++bn near (z++[2]) c:=by
    rw[show (near.flatMap fun e=>bn near (z++[e]) (qk (.four a b c d) e))=([0,2].flatMap fun e=>bn near (z++[e]) (qk (.four a b c d) e)) by rw[← h]];simp[qk,q0,q2]
   rw[e,GE];have h1:=ha (z++[0]);have h2:=hc (z++[2])
   lia
  ·have e:(near.flatMap fun e=>bn near (z++[e]) (qk (.four a b c d) e))=bn near (z++[0]) a++bn near (z++[1]) b:=by
    rw[show (near.flatMap fun e=>bn near (z++[e]) (qk (.four a b c d) e))=([0,1].flatMap fun e=>bn near (z++[e]) (qk (.four a b c d) e)) by rw[← h]];simp[qk,q0,q1]
   rw[e,GE];have h1:=ha (z++[0]);have h2:=hb (z++[1])
   lia
  ·have e:(near.flatMap fun e=>bn near (z++[e]) (qk (.four a b c d) e))=bn near (z++[1]) b++bn near (z++[3]) d:=by
    rw[show (near.flatMap fun e=>bn near (z++[e]) (qk (.four a b c d) e))=([1,3].flatMap fun e=>bn near (z++[e]) (qk (.four a b c d) e)) by rw[← h]];simp[qk,q1,q3]
   rw[e,GE];have h1:=hb (z++[1]);have h2:=hd (z++[3])
   lia
def pG (near:List Nat):List Nat→List Nat→Tr→List (List Nat)
 | p,[],t=>bn near p t
 | p,_::_,.col _=>[p]
 | p,e::r,.four a b c d=>pG near (p++[e]) r (qk (.four a b c d) e)
theorem ma (near:List Nat):∀ (a b p:List Nat) (t u:Tr),iZ t a=some u→pG near p (a++b) t=pG near (p++a) b u
 | [],b,p,t,u,h=>by rw[← Option.some.inj h];simp
 | e::a,b,p,.col _,u,h=>by cases h
 | e::a,b,p,.four x y z w,u,h=>by
  show pG near (p++[e]) (a++b) (qk (.four x y z w) e)=_;rw[ma near a b _ _ u h];simp
theorem qJ:∀ (a:List Nat) (n:Nat) (t u:Tr),aP n t→iZ t a=some u→a.length≤n∧aP (n - a.length) u
 | [],n,t,u,g,h=>by rw[← Option.some.inj h];exact⟨GF _,g⟩
 | e::a,n,.col _,u,g,h=>by cases h
 | e::a,0,.four ..,u,g,h=>g.elim
 | e::a,n + 1,.four x y z w,u,g,h=>by
  obtain⟨h1,h2⟩:=qJ a n _ u (g.q e) h;refine⟨by simpa using h1,?_⟩;rw[show n + 1 - (e::a).length=n - a.length by simp];exact h2
theorem wp (t:Tr)(k:Nat):cnt (qk t k)≤cnt t:=by
 cases t with
 | col i=>rcases k with _ | _ | _ | k<;>exact GB _
 | four a b c d =>
  show _≤cnt a + cnt b + cnt c + cnt d;rcases k with _ | _ | _ | k
  ·show cnt a≤_;lia
  ·show cnt b≤_;lia
  ·show cnt c≤_;lia
  ·show cnt d≤_;simp
theorem uP:∀ (a:List Nat) (t u:Tr),iZ t a=some u→cnt u≤cnt t
 | [],t,u,h=>by rw[← Option.some.inj h];exact GB _
 | e::a,.col _,u,h=>by cases h
 | e::a,.four x y z w,u,h=>G8 (uP a _ u h) (wp _ e)
theorem yN {t:Tr}{w:List Nat}{i d:Nat}{x y z v:Tr}(h:iZ t (w.take i)=some (.four x y z v))(hd:w[i]? = some d):iZ t (w.take (i + 1))=some (qk (.four x y z v) d):=by
 rw[G_,hd,oR,h];rfl
set_option genInjectivity false in
structure Yx (K:PySem.W.Frag)(mg:Str→Option Value) where
 c_NoLevel:Addr
 c_NoCode:Addr
 c_NoColour:Addr
 c_NoPlace:Addr
 c_NoSide:Addr
 c_NoLeaf:Addr
 c_Twice:Addr
 c_Gap:Addr
 c_NoText:Addr
 c_NoName:Addr
 c_NoNumber:Addr
 c_NoRow:Addr
 c_SheetError:Addr
 m_NoLevel:mg "NoLevel" = some (.ref c_NoLevel)
 m_NoCode:mg "NoCode" = some (.ref c_NoCode)
 m_NoColour:mg "NoColour" = some (.ref c_NoColour)
 m_NoPlace:mg "NoPlace" = some (.ref c_NoPlace)
 m_NoSide:mg "NoSide" = some (.ref c_NoSide)
 m_NoLeaf:mg "NoLeaf" = some (.ref c_NoLeaf)
 m_Twice:mg "Twice" = some (.ref c_Twice)
 m_Gap:mg "Gap" = some (.ref c_Gap)
 m_NoText:mg "NoText" = some (.ref c_NoText)
 m_NoName:mg "NoName" = some (.ref c_NoName)
 m_NoNumber:mg "NoNumber" = some (.ref c_NoNumber)
 m_NoRow:mg "NoRow" = some (.ref c_NoRow)
 m_SheetError:mg "SheetError" = some (.ref c_SheetError)
 x_NoSide:EY K mg "NoSide" c_NoSide
 k_NoSide:BV K c_NoSide
 s_NoSide:PySem.W.exmOne K (.ref c_NoSide) (.ref c_SheetError)=some true
 v_NoSide:PySem.W.kitOne K (.ref c_NoSide) (.type "ValueError")=some true
 t_NoSide_NoLevel:PySem.W.kitOne K (.ref c_NoSide) (.ref c_NoLevel)=some false
 t_NoSide_NoCode:PySem.W.kitOne K (.ref c_NoSide) (.ref c_NoCode)=some false
 t_NoSide_NoColour:PySem.W.kitOne K (.ref c_NoSide) (.ref c_NoColour)=some false
 t_NoSide_NoPlace:PySem.W.kitOne K (.ref c_NoSide) (.ref c_NoPlace)=some false
 t_NoSide_NoLeaf:PySem.W.kitOne K (.ref c_NoSide) (.ref c_NoLeaf)=some false
 t_NoSide_Twice:PySem.W.kitOne K (.ref c_NoSide) (.ref c_Twice)=some false
 t_NoSide_Gap:PySem.W.kitOne K (.ref c_NoSide) (.ref c_Gap)=some false
 t_NoSide_NoText:PySem.W.kitOne K (.ref c_NoSide) (.ref c_NoText)=some false
 t_NoSide_NoName:PySem.W.kitOne K (.ref c_NoSide) (.ref c_NoName)=some false
 t_NoSide_NoNumber:PySem.W.kitOne K (.ref c_NoSide) (.ref c_NoNumber)=some false
 t_NoSide_NoRow:PySem.W.kitOne K (.ref c_NoSide) (.ref c_NoRow)=some false
 x_NoPlace:EY K mg "NoPlace" c_NoPlace
 k_NoPlace:BV K c_NoPlace
 s_NoPlace:PySem.W.exmOne K (.ref c_NoPlace) (.ref c_SheetError)=some true
 v_NoPlace:PySem.W.kitOne K (.ref c_NoPlace) (.type "ValueError")=some true
 t_NoPlace_NoLevel:PySem.W.kitOne K (.ref c_NoPlace) (.ref c_NoLevel)=some false
 t_NoPlace_NoCode:PySem.W.kitOne K (.ref c_NoPlace) (.ref c_NoCode)=some false
 t_NoPlace_NoColour:PySem.W.kitOne K (.ref c_NoPlace) (.ref c_NoColour)=some false
 t_NoPlace_NoSide:PySem.W.kitOne K (.ref c_NoPlace) (.ref c_NoSide)=some false
 t_NoPlace_NoLeaf:PySem.W.kitOne K (.ref c_NoPlace) (.ref c_NoLeaf)=some false
 t_NoPlace_Twice:PySem.W.kitOne K (.ref c_NoPlace) (.ref c_Twice)=some false
 t_NoPlace_Gap:PySem.W.kitOne K (.ref c_NoPlace) (.ref c_Gap)=some false
 t_NoPlace_NoText:PySem.W.kitOne K (.ref c_NoPlace) (.ref c_NoText)=some false
 t_NoPlace_NoName:PySem.W.kitOne K (.ref c_NoPlace) (.ref c_NoName)=some false
 t_NoPlace_NoNumber:PySem.W.kitOne K (.ref c_NoPlace) (.ref c_NoNumber)=some false
 t_NoPlace_NoRow:PySem.W.kitOne K (.ref c_NoPlace) (.ref c_NoRow)=some false
theorem A_ {K:PySem.W.Frag}{v:Value}:PySem.W.kitOne K v v=some true:=by unfold PySem.W.kitOne;simp
section
variable {P:Program}{w:World}{K:PySem.W.Frag}{mg:Str→Option Value}{base:Heap}{CX:CXT}{f:Addr}{fd:FuncData}
structure Ty (P:Program)(w:World)(K:PySem.W.Frag)(mg:Str→Option Value):Prop where
 sides:∃ a,mg "SIDES" = some (.ref a)∧KTu K a [.str "up",.str "right",.str "down",.str "left"]
 cross:∃ a p0 p1 p2 p3,mg "CROSSINGS" = some (.ref a)∧KD P w K a [(.inr "up",.ref p0),(.inr "right",.ref p1),(.inr "down",.ref p2),(.inr "left",.ref p3)] ∧
  KTu K p0 [.str "2301",.str "23"]∧KTu K p1 [.str "1032",.str "02"]∧KTu K p2 [.str "2301",.str "01"]∧KTu K p3 [.str "1032",.str "13"]
def Dir (side s1 s2:Str)(dx dy:Int):Prop:=(side = "up" ∧ s1 = "2301" ∧ s2 = "23" ∧ dx=0∧dy=-1)∨(side = "right" ∧ s1 = "1032" ∧ s2 = "02" ∧ dx=1∧dy=0)∨(side = "down" ∧ s1 = "2301" ∧ s2 = "01" ∧ dx=0∧dy=1)∨(side = "left" ∧ s1 = "1032" ∧ s2 = "13" ∧ dx=-1∧dy=0)
def occ (s z:Str):Bool := !(Builtin.Str.occurrences s z 0 s.length 1).isEmpty
def St1 (s1 s2:Str)(dx dy:Int)(d:Nat):Prop:=∃ e,e < 4∧atI s1.cps.toList (d:Int)=some (48 + e) ∧
 ((occ s2 (one d)=true∧((e % 2:Nat):Int)=((d % 2:Nat):Int) + dx∧((e / 2:Nat):Int)=((d / 2:Nat):Int) + dy)∨(occ s2 (one d)=false∧((e % 2:Nat):Int)=((d % 2:Nat):Int) - dx∧((e / 2:Nat):Int)=((d / 2:Nat):Int) - dy))
theorem EI {side s1 s2:Str}{dx dy:Int}(h:Dir side s1 s2 dx dy):s1.length≤sizeLine∧∀ d,d < 4→St1 s1 s2 dx dy d:=by
 rcases h with⟨rfl,rfl,rfl,rfl,rfl⟩|⟨rfl,rfl,rfl,rfl,rfl⟩|⟨rfl,rfl,rfl,rfl,rfl⟩|⟨rfl,rfl,rfl,rfl,rfl⟩
 ·exact⟨by decide +kernel,fun d hd=>four (P:=fun d=>St1 _ _ _ _ d) ⟨2,by decide,by decide +kernel,.inr (by decide +kernel)⟩ ⟨3,by decide,by decide +kernel,.inr (by decide +kernel)⟩ ⟨0,by decide,by decide +kernel,.inl (by decide +kernel)⟩ ⟨1,by decide,by decide +kernel,.inl (by decide +kernel)⟩ hd⟩
 ·exact⟨by decide +kernel,fun d hd=>four (P:=fun d=>St1 _ _ _ _ d) ⟨1,by decide,by decide +kernel,.inl (by decide +kernel)⟩ ⟨0,by decide,by decide +kernel,.inr (by decide +kernel)⟩ ⟨3,by decide,by decide +kernel,.inl (by decide +kernel)⟩ ⟨2,by decide,by decide +kernel,.inr (by decide +kernel)⟩ hd⟩
 ·exact⟨by decide +kernel,fun d hd=>four (P:=fun d=>St1 _ _ _ _ d) ⟨2,by decide,by decide +kernel,.inl (by decide +kernel)⟩ ⟨3,by decide,by decide +kernel,.inl (by decide +kernel)⟩ ⟨0,by decide,by decide +kernel,.inr (by decide +kernel)⟩ ⟨1,by decide,by decide +kernel,.inr (by decide +kernel)⟩ hd⟩
 ·exact⟨by decide +kernel,fun d hd=>four (P:=fun d=>St1 _ _ _ _ d) ⟨1,by decide,by decide +kernel,.inr (by decide +kernel)⟩ ⟨0,by decide,by decide +kernel,.inl (by decide +kernel)⟩ ⟨3,by decide,by decide +kernel,.inr (by decide +kernel)⟩ ⟨2,by decide,by decide +kernel,.inl (by decide +kernel)⟩ hd⟩
abbrev lJ:Stmt:=top 20
theorem vC:az ["thing"] ["thing"] (aj lJ):={}
def wP (z:Str):Prop:=inV (.str z) [.str "up",.str "right",.str "down",.str "left"]=true
theorem Bw {side s1 s2:Str}{dx dy:Int}(h:Dir side s1 s2 dx dy):wP side:=by
 rcases h with⟨rfl,_⟩|⟨rfl,_⟩|⟨rfl,_⟩|⟨rfl,_⟩<;>(unfold wP;decide +kernel)
theorem Bx {side s1 s2:Str}{dx dy:Int}(h:Dir side s1 s2 dx dy):IsC s2∧wz (dig s2):=by
 rcases h with⟨_,_,rfl,_⟩|⟨_,_,rfl,_⟩|⟨_,_,rfl,_⟩|⟨_,_,rfl,_⟩
 ·exact⟨by unfold IsC;decide +kernel,.inl (by decide +kernel)⟩
 ·exact⟨by unfold IsC;decide +kernel,.inr (.inl (by decide +kernel))⟩
 ·exact⟨by unfold IsC;decide +kernel,.inr (.inr (.inl (by decide +kernel)))⟩
 ·exact⟨by unfold IsC;decide +kernel,.inr (.inr (.inr (by decide +kernel)))⟩
def iH (H:Hp)(x:V):Prop:=(d9 x=true∧inV x [.str "up",.str "right",.str "down",.str "left"]=false)∨(∃ a ys,x=.ref a∧(H a=some (.lst ys)∨H a=some (.tup ys)))
theorem iH.up {H H':Hp}{x:V}(h:iH H x)(s:am H H'):iH H' x:=by
 rcases h with h|⟨a,ys,e,h|h⟩
 ·exact .inl h
 ·exact .inr ⟨a,ys,e,.inl (s _ _ h)⟩
 ·exact .inr ⟨a,ys,e,.inr (s _ _ h)⟩
def oi:Sp:=fun vs H Q _=>∃ x,vs=[x]∧((∃ z,x=.str z∧wP z∧Q (.bl true) H)∨(iH H x∧Q (.bl false) H))
theorem vW (T:Tx K mg)(U:Ty P w K mg)(F:aT K "is_side" "is_side" lJ f fd .none):bd P w K mg base CX 1 f fd ["thing"] oi:=by
 refine F.ok vC (fun vs H Q E h =>?_) (fun cdv A outer s H vs Q E hr h =>?_)
 ·obtain⟨_,rfl,_⟩:=h;rfl
 obtain⟨x,rfl,h⟩:=h;obtain⟨aS,g_SIDES,kS⟩:=U.sides;refine⟨_,(ag (av (iz (D8 hr) (pv 0) (bJ (v:=.ref _) rfl g_SIDES rfl) (by with_unfolding_all rfl)))),?_⟩;rcases h with⟨z,rfl,hz,q'⟩|⟨⟨fx,bx⟩|⟨a,ys,rfl,ha⟩,q'⟩
 ·refine⟨aS,_,rfl,.inr kS.sq,.inl ⟨rfl,rfl,?_⟩⟩;show Q (.bl (inV (.str z) _)) H;rw[hz];exact q'
 ·refine⟨aS,_,rfl,.inr kS.sq,.inl ⟨fx,rfl,?_⟩⟩;show Q (.bl (inV x _)) H;rw[bx];exact q'
 ·refine⟨aS,_,rfl,.inr kS.sq,.inr ⟨a,ys,rfl,?_,rfl,q'⟩⟩;rcases ha with ha | ha
  ·exact .inl (SqL.of ha)
  ·exact .inr (SqT.of ha)
abbrev lK:Stmt:=top 21
theorem vD:az ["thing"] ["thing"] (aj lK):={}
def sB (c:Nat):Bool:=decide (c∈("0123" : Str).cps.toList)
theorem Ds (c:Nat):c∈("0123" : Str).cps.toList↔48≤c∧c≤51:=by
 have e:("0123" : Str).cps.toList=[48,49,50,51]:=by decide +kernel
 rw[e];simp only[GU,List.not_mem_nil,or_false]
 lia
def cB (z:Str):Bool:=decide (z.length≤40) && (List.range z.length).all fun i=>sB (z.cps.getD i 0)
theorem EN (z:Str):cB z=true↔z.length≤40∧IsC z:=by
 unfold cB;rw[HE,decide_eq_true_eq,Jj];refine and_congr_right fun _=>⟨fun h c hc =>?_,fun h i hi =>?_⟩
 ·obtain⟨i,hi,e⟩:=List.mem_iff_getElem.mp hc;have hi':i < z.length:=by rw[cR];exact hi
  have:=h i (Jb.mpr hi')
  unfold sB at this;rw[decide_eq_true_eq,Ds]at this;have e2:z.cps.getD i 0=c:=by
   have hi2:i < z.cps.size:=hi';rw[← e];simp[Hs,hi2]
  rw[e2]at this;exact this
 ·unfold sB;rw[decide_eq_true_eq,Ds];exact rm h (Jb.mp hi)
def mD (K:PySem.W.Frag):Sp:=fun vs H Q _=>∃ x,vs=[x]∧((∃ z,x=.str z∧z.length≤1000∧∀ H',am H H'→Q (.bl (cB z)) H')∨((∃ t,gF K H x t∧PySem.W.kitOne K t (.type "str")=some false)∧Q (.bl false) H))
theorem uu (T:Tx K mg)(F:aT K "is_code" "is_code" lK f fd .none):bd P w K mg base CX 1 f fd ["thing"] (mD K):=by
 refine F.ok vD (fun vs H Q E h =>?_) (fun cdv A outer s H vs Q E hr h =>?_)
 ·obtain⟨x,rfl,_⟩:=h;rfl
 obtain⟨x,rfl,h⟩:=h;refine⟨_,(ac (aR (PW.pt (oA (ck (bS (aw (bq "str") rfl T.b_isinstance au (aa (pv 0) (aa (cQ T.b_str ww) af))))) (lS (aG oJ (aw bX rfl T.b_len dM (aa (pv 0) af)) (xg T.c_MOST))))) (ag (av gT)) aE) (ag (av (aw (BH rfl) rfl T.b_all EQ (aa (oG (N':=["sign"]) [] [] [] 1 {} (vN (pv 0)) (fun _ _ _ _ _=>(tN (i:=0))) (fun _ _ _ _ _=>(iz qB (pv 0) (Cz T.c_QUARTERS) (by with_unfolding_all rfl)))) af))))),?_⟩
 rcases h with⟨z,rfl,hl,q⟩|⟨⟨t,ty,hk⟩,q⟩
 ·have hs:z.length≤sizeLine:=small hl;refine⟨_,_,_,rfl,.str z,El,ap (cH ?_)⟩;refine⟨_,_,rfl,⟨hs,rfl⟩,cq (ap (bU (fun c =>?_) (fun c =>?_)))⟩
  ·have c':(40:Int) < (z.length:Int):=G6 c;have e:cB z=false:=by unfold cB;rw[Hb (by lia)];rfl
   have:=q H (am.refl H)
   rw[e]at this;exact this
  ·have c':¬ (40:Int) < (z.length:Int):=fun w=>c (GH w);refine⟨[],rfl,_,rfl,zf (fun D i ys H'=>H'=upd H D (.lst ys)∧ys=(List.range i).map fun i=>V.bl (!(Builtin.Str.occurrences ("0123" : Str) (sgn z i) 0 ("0123" : Str).length 1).isEmpty)) hs (fun D i ys H' p=>⟨by rw[p.1,ah],by rw[p.2];simp⟩) (fun D _=>⟨rfl,rfl⟩) (fun D i ys H' hi hD p=>⟨rfl,_,_,rfl,rfl,by rw[p.1,ah],by rw[p.1,BY],by rw[p.2,Ip,G7];rfl⟩) (fun D ys H' hD p =>?_) (fun _ _ _ _ _ h=>h _ _) fun σ H' R R' h1 h2 =>?_⟩
   rotate_left
   ·obtain⟨v,e,x,y,h3,h4,h5⟩:=ce h2;exact cX e ⟨x,y,h3,h4,h1 _ _ h5⟩
   obtain⟨rfl,rfl⟩:=p;have e:(List.range z.length).map (fun i=>V.bl (!(Builtin.Str.occurrences ("0123" : Str) (sgn z i) 0 ("0123" : Str).length 1).isEmpty))=((List.range z.length).map fun i=>sB (z.cps.getD i 0)).map V.bl:=by
    rw[Hj];refine Hc fun i _ =>?_;show V.bl (!(Builtin.Str.occurrences ("0123" : Str) (⟨#[z.cps.getD i 0]⟩:Str) 0 ("0123" : Str).length 1).isEmpty)=_
    rw[PySem.StrLaws.found_one];rfl
   refine⟨D,(List.range z.length).map fun i=>sB (z.cps.getD i 0),rfl,SqL.of (by rw[ah,e]),?_⟩;have e2:(((List.range z.length).map fun i=>sB (z.cps.getD i 0)).all id)=cB z:=by
    unfold cB;rw[GH (by lia),List.all_map];rfl
   rw[e2];exact q _ (am.new hD _)
 ·exact⟨_,_,_,rfl,ty,hk,ap (fR q)⟩
abbrev ji:Stmt:=top 23
theorem rp:az ["code"] ["code"] (aj ji):={}
def eQ:Sp:=fun vs H Q _=>∃ z,vs=[.str z]∧IsC z∧z.length≤40∧∀ H',am H H'→Q .non H'
theorem rP (T:Tx K mg)(q:br CX)(F:aT K "need_code" "need_code" ji f fd .none)(C_is_code:Fok P w K mg base CX 1 "is_code" ["thing"] [] (mD K)):bd P w K mg base CX 2 f fd ["code"] eQ:=by
 refine F.ok rp (fun vs H Q E h =>?_) (fun cdv A outer s H vs Q E hr h =>?_)
 ·obtain⟨x,rfl,_⟩:=h;rfl
 obtain⟨z,rfl,hz,hl,q'⟩:=h;refine⟨_,(ag (aR (ck (bS (ai C_is_code q hr (aa (pv 0) af)))) (ag tK) aE)),?_⟩;refine⟨_,rfl,.inl ⟨z,rfl,by lia,fun H' sm =>?_⟩⟩;rw[(EN z).mpr ⟨hl,hz⟩];exact (ap (cH (q' H' sm)))
abbrev jh:Stmt:=top 24
theorem rn:az ["side"] ["side"] (aj jh):={}
def ku (Y:Yx K mg):Sp:=fun vs H Q E=>∃ x,vs=[x]∧((∃ z,x=.str z∧wP z∧Q .non H)∨(iH H x∧E (.ref Y.c_NoSide) none H))
theorem rO (T:Tx K mg)(Y:Yx K mg)(q:br (CXe P w))(F:aT K "need_side" "need_side" jh f fd .none)(C_is_side:Fok P w K mg base (CXe P w) 1 "is_side" ["thing"] [] oi):bd P w K mg base (CXe P w) 2 f fd ["side"] (ku Y):=by
 refine F.okX rn (fun vs H Q E h =>?_) (fun cdv A outer s H vs Q E hr h =>?_)
 ·obtain⟨x,rfl,_⟩:=h;rfl
 obtain⟨x,rfl,h⟩:=h;refine⟨_,(ag (aR (ck (bS (ai C_is_side q hr (aa (pv 0) af)))) (ag (tJ Y.x_NoSide wV cm)) aE)),?_⟩;rcases h with⟨z,rfl,hz,q'⟩|⟨bx,q'⟩
 ·exact⟨_,rfl,.inl ⟨z,rfl,hz,ap (cH q')⟩⟩
 ·exact⟨_,rfl,.inr ⟨bx,ap (fR q')⟩⟩
theorem EK (b:List Nat):∀ a:Nat,b.foldl (fun a d=>a * 2 + d % 2) a=a * 2 ^ b.length + cxs b:=by
 unfold cxs
 induction b with
 | nil=>intro a;simp
 | cons d r ih =>
  intro a;simp only[IT,G2];rw[ih (a * 2 + d % 2),ih (0 * 2 + d % 2),HK,HB,HB];rw[show a * 2 * 2 ^ r.length=a * (2 ^ r.length * 2) by rw[HZ,Jd 2]]
  lia
theorem EJ (b:List Nat):∀ a:Nat,b.foldl (fun a d=>a * 2 + d / 2) a=a * 2 ^ b.length + cys b:=by
 unfold cys
 induction b with
 | nil=>intro a;simp
 | cons d r ih =>
  intro a;simp only[IT,G2];rw[ih (a * 2 + d / 2),ih (0 * 2 + d / 2),HK,HB,HB];rw[show a * 2 * 2 ^ r.length=a * (2 ^ r.length * 2) by rw[HZ,Jd 2]]
  lia
theorem sG (a b:List Nat):cxs (a++b)=cxs a * 2 ^ b.length + cxs b:=by
 rw[← EK b (cxs a)];unfold cxs;rw[II]
theorem sE (a b:List Nat):cys (a++b)=cys a * 2 ^ b.length + cys b:=by
 rw[← EJ b (cys a)];unfold cys;rw[II]
theorem eu (d:Nat)(b:List Nat):cxs (d::b)=d % 2 * 2 ^ b.length + cxs b:=by
 have:=sG [d] b
 rw[show cxs [d]=d % 2 by simp[cxs]]at this;exact this
theorem d_ (d:Nat)(b:List Nat):cys (d::b)=d / 2 * 2 ^ b.length + cys b:=by
 have:=sE [d] b
 rw[show cys [d]=d / 2 by simp[cys]]at this;exact this
theorem sF (b:List Nat):cxs b < 2 ^ b.length:=by
 induction b with
 | nil=>decide
 | cons d r ih =>
  rw[eu,G2,HK];have h:d % 2 * 2 ^ r.length≤1 * 2 ^ r.length:=Jk _ (by lia)
  lia
theorem sD (b:List Nat)(h4:∀ d∈b,d < 4):cys b < 2 ^ b.length:=by
 induction b with
 | nil=>decide
 | cons d r ih =>
  have ih':=ih fun e he=>h4 e (GG _ he);have hd:=h4 d GO;rw[d_,G2,HK];have h:d / 2 * 2 ^ r.length≤1 * 2 ^ r.length:=Jk _ (by lia)
  lia
theorem wM {b c b' m k:Int}{u v:Int}(h:b'=b - c)(g:v=u - c * (m - 1)):b' * m + v=b * m + u - c * (m * 2 - 1):=by
 subst h g;rw[Int.sub_mul,Int.mul_sub,Int.mul_sub]
 have:c * (m * 2)=c * m + c * m:=by rw[← Int.mul_assoc,Int.mul_comm (c * m) 2];lia
 lia
theorem tj {b c b' m:Int}{u v:Int}(h:b'=b + c)(g:v=u - c * (m - 1)):b' * m + v=b * m + u + c:=by
 subst h g;rw[Int.add_mul,Int.mul_sub]
 lia
theorem xi (d:Nat)(ds:List Nat):one d++txt ds=txt (d::ds):=by
 apply nr
 show (#[48 + d]++(ds.map (48 + ·)).toArray).toList=_;simp[txt]
theorem Cf {n:Nat}(h:n≤40):Builtin.Range.small ((n:Int) - 1) (-1) (-1)=true∧Builtin.Range.rangeSize ((n:Int) - 1) (-1) (-1)=(n:Int):=by
 have e:∀ m:Nat,m < 41→Builtin.Range.small ((m:Int) - 1) (-1) (-1)=true∧Builtin.Range.rangeSize ((m:Int) - 1) (-1) (-1)=(m:Int):=by decide +kernel
 exact e n (by lia)
abbrev ou:Stmt:=top 31
theorem fh:az ["code","side","crossing","behind","at","sign"] ["code","side"] (aj ou):={}
inductive p_  (vs:List V)(H:Hp)(Q:VK):Prop
 | mk (z side s1 s2:Str) (dx dy:Int) (h_0:vs=[.str z,.str side]) (h_1:Dir side s1 s2 dx dy) (h_2:IsC z) (h_3:z.length≤40) (h_4:∀ H',am H H' →   (∀ y,IsC y→y.length=z.length→((cxs (dig y):Nat):Int)=((cxs (dig z):Nat):Int) + dx→((cys (dig y):Nat):Int)=((cys (dig z):Nat):Int) + dy→Q (.str y) H') ∧   (∀ x' y':Nat,x' < 2 ^ z.length→y' < 2 ^ z.length→(x':Int)=((cxs (dig z):Nat):Int) - dx * (((2 ^ z.length:Nat):Int) - 1)→(y':Int)=((cys (dig z):Nat):Int) - dy * (((2 ^ z.length:Nat):Int) - 1)→Q .non H')):p_  vs H Q
def yb:Sp:=fun vs H Q _=>p_  vs H Q
theorem uM (U:Ty P w K mg){side s1 s2:Str}{dx dy:Int}(h:Dir side s1 s2 dx dy):∃ a kvs p,mg "CROSSINGS" = some (.ref a)∧KD P w K a kvs∧bD kvs (.inr side)=some (.ref p)∧KTu K p [.str s1,.str s2]:=by
 obtain⟨a,p0,p1,p2,p3,g,kd,k0,k1,k2,k3⟩:=U.cross;rcases h with⟨rfl,rfl,rfl,_⟩|⟨rfl,rfl,rfl,_⟩|⟨rfl,rfl,rfl,_⟩|⟨rfl,rfl,rfl,_⟩
 ·exact⟨a,_,p0,g,kd,by with_unfolding_all rfl,k0⟩
 ·exact⟨a,_,p1,g,kd,by with_unfolding_all rfl,k1⟩
 ·exact⟨a,_,p2,g,kd,by with_unfolding_all rfl,k2⟩
 ·exact⟨a,_,p3,g,kd,by with_unfolding_all rfl,k3⟩
def oj (Y:Yx K mg):Sp:=fun vs H Q E=>yb vs H Q E∨(∃ z x,vs=[.str z,x]∧IsC z∧z.length≤40∧iH H x∧∀ H',am H H'→E (.ref Y.c_NoSide) none H')
theorem yL (T:Tx K mg)(Y:Yx K mg)(U:Ty P w K mg)(q:br (CXe P w))(F:aT K "beside" "beside" ou f fd .none)(C_need_code:Fok P w K mg base (CXe P w) 2 "need_code" ["code"] [] eQ)(C_need_side:Fok P w K mg base (CXe P w) 2 "need_side" ["side"] [] (ku Y)):
  bd P w K mg base (CXe P w) 3 f fd ["code","side"] (oj Y):=by
 refine F.okX fh (fun vs H Q E h =>?_) (fun cdv A outer s H vs Q E hr h =>?_)
 ·rcases h with⟨_,_,_,_,_,_,rfl,_⟩|⟨_,_,rfl,_⟩<;>rfl
 obtain⟨aC,_,_,_,_,g_CROSSINGS,_⟩:=U.cross;refine⟨_,(ac (bz (ai C_need_code q hr (aa (pv 0) af))) (ac (bz (bI C_need_side hr fX (aa (pv 1) af))) (ac (aq (i:=2) fh (xf (bJ (v:=.ref _) rfl g_CROSSINGS rfl) (pv 1) (fun _ _=>rfl))) (ac (aq (i:=3) fh cm) (ac (bg Hx rfl (yw rfl T.b_range (aa (ak gB (aw bX rfl T.b_len dM (aa (pv 0) af)) ae) (aa (tO nZ ae) (aa (tO nZ ae) af)))) (bj (i:=4) fh) (ac (aq (i:=5) fh (aB js (pv 0) (pv 4))) (ac (aq (i:=3) fh (ak cG (aB js (aB aF (pv 2) ae) (bA dA rfl T.b_int gE (aa (pv 5) af))) (pv 3))) (ag (aR (aG qB (pv 5) (aB aF (pv 2) ae) (by with_unfolding_all rfl)) (ag (av (ak cG (fK jV (pv 0) iu (ir (pv 4))) (pv 3)))) aE))))) (ag (av lU))))))),?_⟩;rcases h with h|⟨z,x,rfl,hz,hl,bx,q'⟩
 rotate_left
 ·exact⟨z,rfl,hz,hl,fun H1 sm1=>⟨_,rfl,.inr ⟨bx.up sm1,q' H1 sm1⟩⟩⟩
 obtain⟨z,side,s1,s2,dx,dy,e0,hd,hz,hl,q'⟩:=h;subst e0;obtain⟨aC2,kvs,p,g2,kd,kv,kp⟩:=uM U hd;have eC:aC=aC2:=by
  rw[g_CROSSINGS]at g2;injection g2 with g2;injection g2 with g2
 subst eC;obtain⟨l1,st⟩:=EI hd;have hs:z.length≤sizeLine:=small (by lia);refine⟨z,rfl,hz,by omega,fun H1 sm1 =>?_⟩;refine⟨_,rfl,.inl ⟨side,rfl,Bw hd,?_⟩⟩;refine⟨aC,kvs,.inr side,.ref p,rfl,rfl,kd,kv,?_⟩;obtain⟨r1,r2⟩:=Cf hl;refine⟨_,_,rfl,⟨hs,rfl⟩,_,rfl,_,rfl,_,_,_,z.length,rfl,by decide,⟨by decide,by decide⟩,r1,r2,ss (fun i σ H2=>i≤z.length∧H2=H1∧∃ (S:List Nat) (b:Str) (v4 v5:Option V),S.length=i∧(∀ d∈S,d < 4) ∧
  ((cxs S:Nat):Int)=((cxs ((dig z).drop (z.length - i)):Nat):Int) - dx * (((2 ^ i:Nat):Int) - 1)∧((cys S:Nat):Int)=((cys ((dig z).drop (z.length - i)):Nat):Int) - dy * (((2 ^ i:Nat):Int) - 1)∧b=txt S ∧
  σ=[some (.str z),some (.str side),some (.ref p),some (.str b),v4,v5]) ⟨GF _,rfl,[],_,none,none,rfl,(fun _ h=>by cases h),?_,?_,gX,rfl⟩ ?_ ?_⟩
 ·rw[JH,IA (by rw[cP];exact GB _)];simp[cxs]
 ·rw[JH,IA (by rw[cP];exact GB _)];simp[cys]
 ·rintro i σ H2 hi ⟨_,rfl,S,b,v4,v5,hS,hS4,hx,hy,rfl,rfl⟩;obtain⟨k,hk⟩:∃ k,z.length - i=k + 1:=⟨z.length - 1 - i,by lia⟩;have hkl:k < z.length:=by lia
  have ek:(z.length:Int) - 1 + (i:Int) * -1=(k:Int):=by lia
  have hk1:z.length - (i + 1)=k:=by lia
  obtain⟨d,hd4,e1,e2⟩:=kB hz hkl;have hin:=rm hz hkl;have hat:z.cps.toList[k]? = some (48 + d):=by
   have hk2:k < z.cps.size:=hkl;have e3:z.cps.getD k 0=48 + d:=by lia
   rw[← e3];simp[Hs,hk2]
  have hdr:(dig z).drop k=d::(dig z).drop (k + 1):=by
   have hk3:k < (dig z).length:=by rw[cP];exact hkl
   have e4:=sA hkl;rw[e2]at e4;rw[HA hk3]
   congr 1
   rw[G0 hk3]at e4;exact Option.some.inj e4
  have hdl:((dig z).drop (k + 1)).length=i:=by rw[Ih,cP];lia
  obtain⟨e,he4,hate,hst⟩:=st d hd4;have hS5:∀ c∈e::S,c < 4:=fun c hc=>by
   rcases GU.mp hc with rfl|hc
   ·exact he4
   ·exact hS4 c hc
  rw[hk]at hx hy;dsimp only;rw[ek];refine⟨z,_,48 + d,rfl,rfl,hs,dB hat,?_⟩;refine⟨p,_,0,_,rfl,rfl,kp.sq,rfl,_,(d:Int),rfl,kN hd4,(by show 1≤640;decide),s1,_,48 + e,rfl,rfl,l1,hate,_,_,rfl,rfl,small (by rw[eP];show 1 + S.length≤1000;lia),?_⟩;have eo:(⟨#[48 + e]⟩:Str)++txt S=txt (e::S):=xi e S;rw[eo];refine⟨p,_,1,_,rfl,rfl,kp.sq,rfl,_,_,rfl,rfl,ap (bU (fun c =>?_) (fun c =>?_))⟩
  ·have c':occ s2 (one d)=true:=c;rcases hst with⟨_,hx1,hy1⟩ | ⟨hf,_⟩
   ·refine⟨_,rfl,z,rfl,hs,_,_,rfl,rfl,?_,?_⟩
    ·rw[gM];refine small ?_;rw[rH,eP,G2];lia
    ·rw[gM];have dz:dig z=(dig z).take k++(d::(dig z).drop (k + 1)):=by rw[← hdr,Hi]
     refine (q' H2 sm1).1 _ (IsC.app (rJ hz k) (wE hS5)) ?_ ?_ ?_
     ·rw[iF,rH,eP,G2];lia
     ·rw[kW,pH,fe,sG,eu,G2,hS]
      conv=>rhs;rw[dz]
      rw[sG,eu,G2,hdl]
      have:=tj (m:=((2 ^ i:Nat):Int)) hx1 hx
      simp only[IV,Iu]at this ⊢
      lia
     ·rw[kW,pH,fe,sE,d_,G2,hS]
      conv=>rhs;rw[dz]
      rw[sE,d_,G2,hdl]
      have:=tj (m:=((2 ^ i:Nat):Int)) hy1 hy
      simp only[IV,Iu]at this ⊢
      lia
   ·rw[c']at hf;cases hf
  ·have c':¬ occ s2 (one d)=true:=c;rcases hst with⟨ht,_⟩ | ⟨_,hx1,hy1⟩
   ·exact absurd ht c'
   ·refine⟨by assumption,rfl,e::S,_,_,_,by rw[G2,hS],hS5,?_,?_,rfl,rfl⟩
    ·rw[hk1,hdr,eu,eu,hS,hdl,HK]
     have:=wM (k:=0) (m:=((2 ^ i:Nat):Int)) hx1 hx
     simp only[IV,Iu]at this ⊢;exact this
    ·rw[hk1,hdr,d_,d_,hS,hdl,HK]
     have:=wM (k:=0) (m:=((2 ^ i:Nat):Int)) hy1 hy
     simp only[IV,Iu]at this ⊢;exact this
 ·rintro σ H2 ⟨_,rfl,S,b,v4,v5,hS,hS4,hx,hy,rfl,rfl⟩;rw[JI,List.drop_zero]at hx hy;exact (q' H2 sm1).2 (cxs S) (cys S) (by rw[← hS];exact sF S) (by rw[← hS];exact sD S hS4) hx hy
abbrev fF:Stmt:=top 39
theorem c5:az ["tree","code","near","row","sign"] ["tree","code","near"] (aj fF):={}
inductive hV  (m:Nat)(vs:List V)(H:Hp)(Q:VK):Prop
 | mk (v:V) (t:Tr) (z y:Str) (k:Nat) (h_0:vs=[v,.str z,.str y]) (h_1:bu H v t) (h_2:aP k t) (h_3:IsC z) (h_4:z.length + k≤100) (h_5:IsC y) (h_6:wz (dig y)) (h_7:k < m) (h_8:m≤41) (h_9:cnt t≤4000) (h_10:∀ l H',am H H'→H l=none→H' l=some (.lst ((bn (dig y) (dig z) t).map sV))→Q (.ref l) H'):hV m vs H Q
def eG  (m:Nat):Sp:=fun vs H Q _=>hV m vs H Q
theorem iS (T:Tx K mg)(q:br CX)(F:aT K "leaves_along" "leaves_along" fF f fd .none)(b:cL K fd ["tree","code","near"] [])(m:mg "leaves_along" = some (.ref f)):
  ∀ n,bd P w K mg base CX (1 + n) f fd ["tree","code","near"] (eG n)
 | 0=>by
  refine F.ok c5 (fun vs H Q E h =>?_) (fun cdv A outer s H vs Q E hr h =>?_)
  ·obtain⟨_,_,_,_,_,rfl,_⟩:=h;rfl
  obtain⟨_,_,_,_,_,_,_,_,_,_,_,_,h,_⟩:=h;exact absurd h (Jr _)
 | m' + 1=>by
  have C_leaves_along:Fok P w K mg base CX (1 + m') "leaves_along" ["tree","code","near"] [] (eG m'):=fok F (iS T q F b m m') b m
  refine F.ok c5 (fun vs H Q E h =>?_) (fun cdv A outer s H vs Q E hr h =>?_)
  ·obtain⟨_,_,_,_,_,rfl,_⟩:=h;rfl
  obtain⟨v,t,z,y,k,rfl,ht,gt,hz,hl,hy,hn,hk,hm,hc,q'⟩:=h;refine⟨_,(ac (aR (ck (bS (aw (bq "tuple") rfl T.b_isinstance au (aa (pv 0) (aa (cQ T.b_tuple eA) af))))) (ag (av (bh (ay (pv 1) aA)))) aE) (ac (aq (i:=3) c5 (bh aA)) (ac (bg Hd rfl (vN (pv 2)) (bj (i:=4) c5) (ag (bz (kF PySem.F.plainAttrs_list PySem.F.slot_list_extend PySem.F.type_list_extend jF (pv 3) (aa (ai C_leaves_along q hr (aa (aB aF (pv 0) (bA dA rfl T.b_int gE (aa (pv 4) af))) (aa (ak cG (pv 1) (pv 4)) (aa (pv 2) af))) (hj:=by first | decide | simp | (simp only[Jq];lia))) af))))) (ag (av (pv 3)))))),?_⟩
  have ly:y.length=2:=by
   rw[← cP];rcases hn with h | h | h | h<;>rw[h]<;>rfl
  cases ht with
  | col i =>
   refine⟨_,_,_,rfl,.int _,kh,ap (fR ?_)⟩;refine⟨(leZ rfl),fun l hl1 =>?_⟩;refine q' l _ (am.new hl1 _) hl1 ?_;rw[ah];show some (HO.lst [V.str z])=some (HO.lst [sV (dig z)]);rw[zO hz]
  | @four p xa xb xc xd ta tb tc td e ja jb jc jd =>
   rcases k with _|k
   ·exact gt.elim
   refine⟨_,_,_,rfl,.tup e,kg,ap (cH ?_)⟩;refine⟨(leZ rfl),nw fun l H1 hl0 s1 u1 =>?_⟩;have tot:((dig y).flatMap fun e=>bn (dig y) (dig z++[e]) (qk (.four ta tb tc td) e)).length≤4000:=by
    rw[← iG];exact G8 (fm hn _ _) hc
   refine⟨y,rfl,ss (fun (j:Nat) σ H2=>am H H2∧j≤y.length∧∃ (o:Option V),H2 l=some (.lst ((((dig y).take j).flatMap fun e=>bn (dig y) (dig z++[e]) (qk (.four ta tb tc td) e)).map sV))∧σ=[some (.ref p),some (.str z),some (.str y),some (.ref l),o]) ⟨s1,GF _,none,u1,rfl⟩ ?_ ?_⟩
   ·rintro j σ H2 hj ⟨s2,_,o,u2,rfl⟩;have hj':j < y.length:=hj;obtain⟨d,hd,e1,e2⟩:=kB hy hj';have ed:(dig y)[j]? = some d:=by rw[← e2];exact sA hj'
    have key:∃ x,atI [xa,xb,xc,xd] (d:Int)=some x∧bu H x (qk (.four ta tb tc td) d):=by
     rcases d with _|_|_|_|d
     ·exact⟨xa,rfl,ja⟩
     ·exact⟨xb,rfl,jb⟩
     ·exact⟨xc,rfl,jc⟩
     ·exact⟨xd,rfl,jd⟩
     ·lia
    obtain⟨x,k1,k2⟩:=key;have l1:(one d).length=1:=rfl;rw[e1];refine⟨.inl ⟨rfl,_,SqL.of u2⟩,_,(d:Int),rfl,kN hd,(by show 1≤640;decide),p,_,_,x,rfl,rfl,SqT.of (s2 _ _ e),k1,_,_,rfl,rfl,(by rw[l1];exact small (by lia)),x,_,z++one d,y,k,rfl,k2.up s2.tups,gt.q d,IsC.app hz (IsC.one hd),by rw[iF,l1];lia,hy,hn,by lia,by lia,G8 (wp _ d) hc,fun l2 H3 s3 hl2 u3 =>?_⟩;rw[kW,sx]at u3;have et:((dig y).take (j + 1)).flatMap (fun e=>bn (dig y) (dig z++[e]) (qk (.four ta tb tc td) e))=((dig y).take j).flatMap (fun e=>bn (dig y) (dig z++[e]) (qk (.four ta tb tc td) e))++bn (dig y) (dig z++[d]) (qk (.four ta tb tc td) d):=by
     rw[G_,ed,Ib];simp
    have n1:(((dig y).take j).flatMap fun e=>bn (dig y) (dig z++[e]) (qk (.four ta tb tc td) e)).length≤4000:=by
     refine G8 ?_ tot;have fl:∀ g:Nat→List (List Nat),(((dig y).take j).flatMap g).length≤((dig y).flatMap g).length:=fun g=>by
      conv=>rhs;rw[← Hi j (dig y),Ib,GE]
      simp
     exact fl _
    have n2:=fm hn (qk (.four ta tb tc td) d) (dig z++[d]);have n3:=wp (.four ta tb tc td) d;refine⟨l,l2,_,_,rfl,rfl,s3 _ _ u2,u3,big (by rw[Gy,Gy];lia),am.set (s2.trans s3) hl0 _,by assumption,_,?_,rfl⟩;rw[ah,et,G7]
   ·rintro σ H2 ⟨s2,_,o,u2,rfl⟩;rw[GV (by rw[cP];exact GB _),← iG]at u2;exact (q' l H2 s2 hl0 u2)
def FZ (Y:Yx K mg)(H:Hp)(Q:VK)(E:XK)(z:Str)(t:Tr)(x:V):Prop :=
 (∃ (side s1 s2:Str) (dx dy:Int),x=.str side∧Dir side s1 s2 dx dy ∧
  (∀ y,IsC y→y.length=z.length→((cxs (dig y):Nat):Int)=((cxs (dig z):Nat):Int) + dx→((cys (dig y):Nat):Int)=((cys (dig z):Nat):Int) + dy→∀ l H',am H H'→H l=none→H' l=some (.lst ((pG (dig s2) [] (dig y) t).map sV))→Q (.ref l) H') ∧
  (∀ x' y':Nat,x' < 2 ^ z.length→y' < 2 ^ z.length→(x':Int)=((cxs (dig z):Nat):Int) - dx * (((2 ^ z.length:Nat):Int) - 1)→(y':Int)=((cys (dig z):Nat):Int) - dy * (((2 ^ z.length:Nat):Int) - 1)→∀ l H',am H H'→H l=none→H' l=some (.lst [])→Q (.ref l) H'))
 ∨ (iH H x∧∀ H',am H H'→E (.ref Y.c_NoSide) none H')
abbrev gw:Stmt:=top 40
theorem cF:az ["sheet","code","side","other","tree","signs"] ["sheet","code","side"] (aj gw):={}
def fw (Y:Yx K mg):Sp:=fun vs H Q E=>∃ (ps:Addr) (n:Nat) (v x:V) (t:Tr) (z:Str),vs=[.ref ps,.str z,x]∧H ps=some (.tup [.int (n:Int),v])∧bu H v t∧aP n t∧n≤40∧cnt t≤4000∧IsC z∧z.length≤40∧FZ Y H Q E z t x
theorem oQ (T:Tx K mg)(Y:Yx K mg)(U:Ty P w K mg)(q:br (CXe P w))(F:aT K "beyond_leaf" "beyond_leaf" gw f fd .none)(C_beside:Fok P w K mg base (CXe P w) 3 "beside" ["code","side"] [] (oj Y))(C_leaves_along:Fok P w K mg base (CXe P w) 42 "leaves_along" ["tree","code","near"] [] (eG 41)):
  bd P w K mg base (CXe P w) 43 f fd ["sheet","code","side"] (fw Y):=by
 refine F.okX cF (fun vs H Q E h =>?_) (fun cdv A outer s H vs Q E hr h =>?_)
 ·obtain⟨_,_,_,_,_,_,rfl,_⟩:=h;rfl
 obtain⟨ps,n,v,x,t,z,rfl,hps,ht,gt,hn,hc,hz,hl,h⟩:=h;obtain⟨aC,_,_,_,_,g_CROSSINGS,_⟩:=U.cross;refine⟨_,(ac (aq (i:=3) cF (bI C_beside hr fX (aa (pv 1) (aa (pv 2) af)))) (ac (aR (aG AA (pv 3) lU) (ag (av (bh aA))) aE) (ac (aq (i:=4) cF (aB aF (pv 0) ae)) (ac (bg Hx rfl (bT rfl T.b_range (aa (aw bX rfl T.b_len dM (aa (pv 3) af)) af)) (bj (i:=5) cF) (ac (aR (ck (bS (aw (bq "tuple") rfl T.b_isinstance au (aa (pv 4) (aa (cQ T.b_tuple eA) af))))) (ag (av (bh (ay (fK jV (pv 3) iu (ir (pv 5))) aA)))) aE) (ag (aq (i:=4) cF (aB aF (pv 4) (bA dA rfl T.b_int gE (aa (aB js (pv 3) (pv 5)) af))))))) (ag (av (ai C_leaves_along q hr (aa (pv 4) (aa (pv 3) (aa (aB aF (xf (bJ (v:=.ref _) rfl g_CROSSINGS rfl) (pv 2) (fun _ _=>rfl)) ae) af)))))))))),?_⟩
 rcases h with⟨side,s1,s2,dx,dy,rfl,hd,h1,h2⟩|⟨bx,q'⟩
 rotate_left
 ·exact (.inr ⟨z,x,rfl,hz,hl,bx,q'⟩)
 obtain⟨aC2,kvs,pc,g2,kd,kv,kp⟩:=uM U hd;have eC:aC=aC2:=by
  rw[g_CROSSINGS]at g2;injection g2 with g2;injection g2 with g2
 subst eC;obtain⟨hs2,ns2⟩:=Bx hd;refine (.inl ⟨z,side,s1,s2,dx,dy,rfl,hd,hz,hl,fun H1 sm1=>⟨fun y hy ly ex ey =>?_,fun x' y' hx' hy' ex ey =>?_⟩⟩)
 ·refine⟨rfl,ap (cH ?_)⟩;have hy':y.length≤sizeLine:=small (by lia);refine⟨ps,_,1,_,rfl,rfl,SqT.of (sm1 _ _ hps),rfl,?_⟩;refine⟨_,_,rfl,⟨hy',rfl⟩,_,rfl,by simp,by lia,bV (fun (i:Nat) σ H2=>H2=H1∧i≤y.length∧∃ (v':V) (u:Tr) (o:Option V),iZ t ((dig y).take i)=some u∧bu H1 v' u∧σ=[some (.ref ps),some (.str z),some (.str side),some (.str y),some v',o]) ⟨rfl,GF _,v,t,none,rfl,ht.up sm1.tups,rfl⟩ ?_ ?_⟩
  ·rintro i σ H2 hi ⟨rfl,_,v',u,o,hnd,hu,rfl⟩;have hi':i < y.length:=by assumption
   rw[show (0:Int) + (i:Int)=(i:Int) by simp];cases hu with
   | col c =>
    refine⟨_,_,_,rfl,.int _,kh,ap (fR ?_)⟩;refine⟨_,rfl,y,rfl,hy',(leZ rfl),fun l hl1 =>?_⟩;rw[gM];refine h1 y hy ly ex ey l _ (sm1.trans (am.new hl1 _)) (am.free sm1 hl1) ?_;rw[ah];have e1:pG (dig s2) [] (dig y) t=[(dig y).take i]:=by
     have e2:=ma (dig s2) ((dig y).take i) ((dig y).drop i) [] t _ hnd;rw[Hi,HJ,HA (by rw[cP];exact hi')]at e2;exact e2
    rw[e1];show some (HO.lst [V.str (pre y i)])=some (HO.lst [V.str (txt ((dig y).take i))]);rw[B0 hy]
   | @four p xa xb xc xd ta tb tc td e ja jb jc jd =>
    refine⟨_,_,_,rfl,.tup e,kg,ap (cH ?_)⟩;obtain⟨d,hd4,e1,e2⟩:=kB hy hi';have key:∃ x,atI [xa,xb,xc,xd] (d:Int)=some x∧bu H2 x (qk (.four ta tb tc td) d):=by
     rcases d with _|_|_|_|d
     ·exact⟨xa,rfl,ja⟩
     ·exact⟨xb,rfl,jb⟩
     ·exact⟨xc,rfl,jc⟩
     ·exact⟨xd,rfl,jd⟩
     ·lia
    obtain⟨x,k1,k2⟩:=key;have ed:(dig y)[i]? = some d:=by rw[← e2];exact sA hi'
    have hin:=rm hy hi';have hat:y.cps.toList[i]? = some (48 + d):=by
     have hk2:i < y.cps.size:=hi';have e3:y.cps.getD i 0=48 + d:=by lia
     rw[← e3];simp[Hs,hk2]
    refine⟨y,_,48 + d,rfl,rfl,hy',dB hat,_,(d:Int),rfl,kN hd4,(by show 1≤640;decide),p,_,_,x,rfl,rfl,SqT.of e,k1,rfl,by assumption,x,_,_,yN hnd ed,k2,rfl⟩
  ·rintro σ H2 ⟨rfl,_,v',u,o,hnd,hu,rfl⟩;rw[HL,GV (by rw[cP];exact GB _)]at hnd;obtain⟨gl,gu⟩:=qJ _ _ _ _ gt hnd;rw[cP]at gl gu;refine⟨aC,kvs,.inr side,.ref pc,rfl,rfl,kd,kv,pc,_,1,_,rfl,rfl,kp.sq,rfl,v',u,y,s2,n - y.length,rfl,hu,gu,hy,by lia,hs2,ns2,by lia,by simp,G8 (uP _ _ _ hnd) hc,fun l H3 s3 hl3 u3 =>?_⟩;refine h1 y hy ly ex ey l H3 (sm1.trans s3) (am.free sm1 hl3) ?_;have e2:=ma (dig s2) (dig y) [] [] t u hnd;rw[Hw,HJ]at e2;rw[e2];exact u3
 ·refine⟨rfl,ap (fR ?_)⟩;exact⟨(leZ rfl),fun l hl1=>h2 x' y' hx' hy' ex ey l _ (sm1.trans (am.new hl1 _)) (am.free sm1 hl1) ah⟩
end
def nd (ax:Bool)(d:Nat):Nat:=if ax then d / 2 else d % 2
def td (ax:Bool)(d:Nat):Nat:=if ax then d % 2 else d / 2
def cn (ax:Bool)(r:List Nat):Nat:=if ax then cys r else cxs r
def ct (ax:Bool)(r:List Nat):Nat:=if ax then cxs r else cys r
def nC (ax:Bool)(x y:Nat):Nat:=if ax then y else x
def tC' (ax:Bool)(x y:Nat):Nat:=if ax then x else y
def eK (ax s:Bool)(N1 T1 W x y w:Nat):Prop:=(if s then nC ax x y + w=N1 else nC ax x y=N1 + W)∧T1 < tC' ax x y + w∧tC' ax x y < T1 + W
instance (ax s:Bool) (N1 T1 W x y w:Nat):Decidable (eK ax s N1 T1 W x y w):=by unfold eK;infer_instance
def fl (P:Nat→Nat→Nat→Bool):List Nat→Tr→Nat→Nat→Nat→List (List Nat)
 | p,.col _,x,y,k=>if P x y (2 ^ k) then [p] else []
 | p,.four a b c d,x,y,k=>fl P (p++[0]) a x y (k - 1)++(fl P (p++[1]) b (x + 2 ^ (k - 1)) y (k - 1)++(fl P (p++[2]) c x (y + 2 ^ (k - 1)) (k - 1)++fl P (p++[3]) d (x + 2 ^ (k - 1)) (y + 2 ^ (k - 1)) (k - 1)))
def du (ax s:Bool):List Nat:=match ax,s with
 | true,true=>[2,3]
 | true,false=>[0,1]
 | false,true=>[1,3]
 | false,false=>[0,2]
def ff (ax s:Bool)(N1 T1 W x y K:Nat):Prop:=tC' ax x y + K≤T1∨T1 + W≤tC' ax x y∨(if s then (N1≤nC ax x y∨nC ax x y + K < N1) else (N1 + W < nC ax x y∨nC ax x y + K≤N1 + W))
theorem C4 {ax s:Bool}{N1 T1 W x y K:Nat}(hK:0 < K)(h:ff ax s N1 T1 W x y K):¬ eK ax s N1 T1 W x y K:=by
 unfold ff at h;unfold eK;cases ax<;>cases s<;>simp only[nC,tC',if_true,if_false,GA]at h ⊢<;>lia
theorem jH {ax s:Bool}{N1 T1 W x y h:Nat}(f:ff ax s N1 T1 W x y (2 * h))(dx dy:Nat)(hx:dx=0∨dx=h)(hy:dy=0∨dy=h):ff ax s N1 T1 W (x + dx) (y + dy) h:=by
 unfold ff at f ⊢;cases ax<;>cases s<;>simp only[nC,tC',if_true,if_false,GA]at f ⊢<;>lia
theorem c_ {ax s:Bool}{N1 T1 W:Nat}:∀ (u:Tr) (p:List Nat) (x y k:Nat),aP k u→ff ax s N1 T1 W x y (2 ^ k)→fl (fun x y w=>decide (eK ax s N1 T1 W x y w)) p u x y k=[]
 | .col _,p,x,y,k,_,f=>by
  show (if decide (eK ax s N1 T1 W x y (2 ^ k))=true then [p] else [])=[];rw[if_neg (by rw[decide_eq_true_eq];exact C4 (HG k) f)]
 | .four a b c d,p,x,y,0,g,_=>g.elim
 | .four a b c d,p,x,y,k + 1,⟨ga,gb,gc,gd,_⟩,f=>by
  rw[HK,Jd]at f;have c0:=jH f 0 0 (.inl rfl) (.inl rfl);have c1:=jH f (2 ^ k) 0 (.inr rfl) (.inl rfl);have c2:=jH f 0 (2 ^ k) (.inl rfl) (.inr rfl);have c3:=jH f (2 ^ k) (2 ^ k) (.inr rfl) (.inr rfl);rw[JJ]at c1 c2;rw[JJ,JJ]at c0;show fl _ (p++[0]) a x y k++(fl _ (p++[1]) b (x + 2 ^ k) y k++(fl _ (p++[2]) c x (y + 2 ^ k) k++fl _ (p++[3]) d (x + 2 ^ k) (y + 2 ^ k) k))=[];rw[c_ a _ _ _ k ga c0,c_ b _ _ _ k gb c1,c_ c _ _ _ k gc c2,c_ d _ _ _ k gd c3];rfl
def bZ (ax s:Bool)(N1 T1 W x y K:Nat):Prop:=T1≤tC' ax x y∧tC' ax x y + K≤T1 + W∧(if s then nC ax x y + K=N1 else nC ax x y=N1 + W)
theorem fb {ax s:Bool}{N1 T1 W:Nat}:∀ (u:Tr) (p:List Nat) (x y k:Nat),aP k u→bZ ax s N1 T1 W x y (2 ^ k)→fl (fun x y w=>decide (eK ax s N1 T1 W x y w)) p u x y k=bn (du ax s) p u
 | .col _,p,x,y,k,_,f=>by
  show (if decide (eK ax s N1 T1 W x y (2 ^ k))=true then [p] else [])=[p];have pk:=HG k;generalize 2 ^ k=K at *;rw[if_pos];rw[decide_eq_true_eq];unfold bZ at f;unfold eK;cases ax<;>cases s<;>simp only[nC,tC',if_true,if_false,GA]at f ⊢<;>lia
 | .four a b c d,p,x,y,0,g,_=>g.elim
 | .four a b c d,p,x,y,k + 1,⟨ga,gb,gc,gd,_⟩,f=>by
  rw[HK,Jd]at f;have pk:=HG k;rw[iG];show fl _ (p++[0]) a x y k++(fl _ (p++[1]) b (x + 2 ^ k) y k++(fl _ (p++[2]) c x (y + 2 ^ k) k++fl _ (p++[3]) d (x + 2 ^ k) (y + 2 ^ k) k))=_;cases ax<;>cases s
  ·have n0:bZ false false N1 T1 W x y (2 ^ k):=by unfold bZ at f ⊢;simp only[nC,tC',if_false,GA]at f ⊢;lia
   have n2:bZ false false N1 T1 W x (y + 2 ^ k) (2 ^ k):=by unfold bZ at f ⊢;simp only[nC,tC',if_false,GA]at f ⊢;lia
   have f1:ff false false N1 T1 W (x + 2 ^ k) y (2 ^ k):=by unfold bZ at f;unfold ff;simp only[nC,tC',if_false,GA]at f ⊢;lia
   have f3:ff false false N1 T1 W (x + 2 ^ k) (y + 2 ^ k) (2 ^ k):=by unfold bZ at f;unfold ff;simp only[nC,tC',if_false,GA]at f ⊢;lia
   rw[fb a _ _ _ k ga n0,c_ b _ _ _ k gb f1,fb c _ _ _ k gc n2,c_ d _ _ _ k gd f3];simp[du,qk,q0,q2]
  ·have n1:bZ false true N1 T1 W (x + 2 ^ k) y (2 ^ k):=by unfold bZ at f ⊢;simp only[nC,tC',if_true,if_false,GA]at f ⊢;lia
   have n3:bZ false true N1 T1 W (x + 2 ^ k) (y + 2 ^ k) (2 ^ k):=by unfold bZ at f ⊢;simp only[nC,tC',if_true,if_false,GA]at f ⊢;lia
   have f0:ff false true N1 T1 W x y (2 ^ k):=by unfold bZ at f;unfold ff;simp only[nC,tC',if_true,if_false,GA]at f ⊢;lia
   have f2:ff false true N1 T1 W x (y + 2 ^ k) (2 ^ k):=by unfold bZ at f;unfold ff;simp only[nC,tC',if_true,if_false,GA]at f ⊢;lia
   rw[c_ a _ _ _ k ga f0,fb b _ _ _ k gb n1,c_ c _ _ _ k gc f2,fb d _ _ _ k gd n3];simp[du,qk,q1,q3]
  ·have n0:bZ true false N1 T1 W x y (2 ^ k):=by unfold bZ at f ⊢;simp only[nC,tC',if_true,if_false,GA]at f ⊢;lia
   have n1:bZ true false N1 T1 W (x + 2 ^ k) y (2 ^ k):=by unfold bZ at f ⊢;simp only[nC,tC',if_true,if_false,GA]at f ⊢;lia
   have f2:ff true false N1 T1 W x (y + 2 ^ k) (2 ^ k):=by unfold bZ at f;unfold ff;simp only[nC,tC',if_true,if_false,GA]at f ⊢;lia
   have f3:ff true false N1 T1 W (x + 2 ^ k) (y + 2 ^ k) (2 ^ k):=by unfold bZ at f;unfold ff;simp only[nC,tC',if_true,if_false,GA]at f ⊢;lia
   rw[fb a _ _ _ k ga n0,fb b _ _ _ k gb n1,c_ c _ _ _ k gc f2,c_ d _ _ _ k gd f3];simp[du,qk,q0,q1]
  ·have n2:bZ true true N1 T1 W x (y + 2 ^ k) (2 ^ k):=by unfold bZ at f ⊢;simp only[nC,tC',if_true,if_false,GA]at f ⊢;lia
   have n3:bZ true true N1 T1 W (x + 2 ^ k) (y + 2 ^ k) (2 ^ k):=by unfold bZ at f ⊢;simp only[nC,tC',if_true,if_false,GA]at f ⊢;lia
   have f0:ff true true N1 T1 W x y (2 ^ k):=by unfold bZ at f;unfold ff;simp only[nC,tC',if_true,if_false,GA]at f ⊢;lia
   have f1:ff true true N1 T1 W (x + 2 ^ k) y (2 ^ k):=by unfold bZ at f;unfold ff;simp only[nC,tC',if_true,if_false,GA]at f ⊢;lia
   rw[c_ a _ _ _ k ga f0,c_ b _ _ _ k gb f1,fb c _ _ _ k gc n2,fb d _ _ _ k gd n3];simp[du,qk,q2,q3]
theorem Bm {P:Nat→Nat→Nat→Bool}{p:List Nat}{a b c d:Tr}{x y k e:Nat}{R:List (List Nat)}(he:e < 4)
  (h0:∀ d',d' < 4→d'≠e→fl P (p++[d']) (qk (.four a b c d) d') (x + d' % 2 * 2 ^ k) (y + d' / 2 * 2 ^ k) k=[])
  (h1:fl P (p++[e]) (qk (.four a b c d) e) (x + e % 2 * 2 ^ k) (y + e / 2 * 2 ^ k) k=R):fl P p (.four a b c d) x y (k + 1)=R:=by
 have r0:fl P p (.four a b c d) x y (k + 1)=fl P (p++[0]) (qk (.four a b c d) 0) (x + 0 % 2 * 2 ^ k) (y + 0 / 2 * 2 ^ k) k++(fl P (p++[1]) (qk (.four a b c d) 1) (x + 1 % 2 * 2 ^ k) (y + 1 / 2 * 2 ^ k) k ++
   (fl P (p++[2]) (qk (.four a b c d) 2) (x + 2 % 2 * 2 ^ k) (y + 2 / 2 * 2 ^ k) k++fl P (p++[3]) (qk (.four a b c d) 3) (x + 3 % 2 * 2 ^ k) (y + 3 / 2 * 2 ^ k) k)):=by
  simp[fl,qk,q0,q1,q2,q3]
 rw[r0];rcases e with _ | _ | _ | _ | e
 ·rw[h1,h0 1 (by decide) (by decide),h0 2 (by decide) (by decide),h0 3 (by decide) (by decide)];simp
 ·rw[h1,h0 0 (by decide) (by decide),h0 2 (by decide) (by decide),h0 3 (by decide) (by decide)];simp
 ·rw[h1,h0 0 (by decide) (by decide),h0 1 (by decide) (by decide),h0 3 (by decide) (by decide)];simp
 ·rw[h1,h0 0 (by decide) (by decide),h0 1 (by decide) (by decide),h0 2 (by decide) (by decide)];simp
 ·lia
theorem uJ {ax:Bool}{d x y h:Nat}(hd:d < 4):nC ax (x + d % 2 * h) (y + d / 2 * h)=nC ax x y + nd ax d * h∧tC' ax (x + d % 2 * h) (y + d / 2 * h)=tC' ax x y + td ax d * h∧nd ax d < 2∧td ax d < 2:=by
 cases ax<;>refine⟨rfl,rfl,?_,?_⟩<;>simp only[nd,td,if_true,if_false,GA]<;>lia
theorem Dz {ax:Bool}{d e:Nat}(hd:d < 4)(he:e < 4)(h:d≠e):nd ax d≠nd ax e∨td ax d≠td ax e:=by
 cases ax<;>simp only[nd,td,if_true,if_false,GA]<;>lia
theorem FR {ax:Bool}{d e:Nat}(hd:d < 4)(he:e < 4)(h1:nd ax d=nd ax e)(h2:td ax d=td ax e):d=e:=by
 cases ax<;>simp only[nd,td,if_true,if_false,GA]at h1 h2<;>lia
theorem wu (ax:Bool)(e:Nat)(r:List Nat):cn ax (e::r)=nd ax e * 2 ^ r.length + cn ax r∧ct ax (e::r)=td ax e * 2 ^ r.length + ct ax r:=by
 cases ax<;>simp only[cn,ct,nd,td,if_true,if_false,GA]<;>exact⟨by first | exact eu e r | exact d_ e r,by first | exact eu e r | exact d_ e r⟩
theorem Dc (ax:Bool){r:List Nat}(h4:∀ d∈r,d < 4):cn ax r < 2 ^ r.length∧ct ax r < 2 ^ r.length:=by
 cases ax<;>simp only[cn,ct,if_true,if_false,GA]<;>exact⟨by first | exact sF r | exact sD r h4,by first | exact sF r | exact sD r h4⟩
theorem iA {c m W:Nat}(h:c < m):c * W + W≤m * W:=by
 have:=Jk W (show c + 1≤m from h)
 rw[HB,JQ]at this;exact this
def AlP (ax s:Bool)(N1 W x y K:Nat):Prop:=if s then nC ax x y + K=N1 else nC ax x y=N1 + W
theorem xD {ax s:Bool}{N1 T1:Nat}{j:Nat}:∀ (r:List Nat) (u:Tr) (p:List Nat) (x y:Nat),(∀ d∈r,d < 4)→aP (r.length + j) u→T1=tC' ax x y + ct ax r * 2 ^ j →
  (if s then nC ax x y + cn ax r * 2 ^ j + 2 ^ j=N1 else nC ax x y + cn ax r * 2 ^ j=N1 + 2 ^ j)→AlP ax s N1 (2 ^ j) x y (2 ^ (r.length + j)) →
  fl (fun x y w=>decide (eK ax s N1 T1 (2 ^ j) x y w)) p u x y (r.length + j)=pG (du ax s) p r u
 | [],u,p,x,y,_,g,hT,hN,hA=>by
  have e0:ct ax []=0∧cn ax []=0:=by cases ax<;>exact⟨rfl,rfl⟩
  rw[JL,Ii]at g hA ⊢;show _=bn (du ax s) p u;refine fb u p x y j g ?_;rw[e0.1,Nat.zero_mul,JJ]at hT;exact⟨by lia,by lia,hA⟩
 | e::r,.col c,p,x,y,_,g,hT,hN,hA=>by
  show (if decide (eK ax s N1 T1 (2 ^ j) x y (2 ^ ((e::r).length + j)))=true then [p] else [])=[p];rw[if_pos];rw[decide_eq_true_eq];have h4:∀ d∈e::r,d < 4:=by assumption
  have lt:=(Dc ax h4).2;have pj:=HG j;have le:=iA (W:=2 ^ j) lt;rw[← Il]at le;refine⟨?_,?_,?_⟩
  ·unfold AlP at hA;cases s
   ·exact hA
   ·exact hA
  ·lia
  ·lia
 | e::r,.four a b c d,p,x,y,h4,g,hT,hN,hA=>by
  have he:=h4 e GO;have h4':∀ d∈r,d < 4:=fun d hd=>h4 d (GG _ hd);have lt:=Dc ax h4';have pj:=HG j;have l1:=iA (W:=2 ^ j) lt.1;have l2:=iA (W:=2 ^ j) lt.2;rw[← Il]at l1 l2;have ec:=wu ax e r;have ek:(e::r).length + j=(r.length + j) + 1:=by rw[G2];lia
  rw[ek]at g hA ⊢;rw[ec.2,HB,HZ,← Il]at hT;rw[ec.1,HB,HZ,← Il]at hN;rw[HK]at hA;obtain⟨en,et,ln,ltd⟩:=uJ (ax:=ax) (x:=x) (y:=y) (h:=2 ^ (r.length + j)) he;generalize hh:2 ^ (r.length + j)=h at *;generalize hw:2 ^ j=W at *;generalize hA1:ct ax r * W=A1 at *;generalize hB1:cn ax r * W=B1 at *;have ph:0 < h:=by lia
  have key:nd ax e=(if s then 1 else 0)∧AlP ax s N1 W (x + e % 2 * h) (y + e / 2 * h) h:=by
   unfold AlP at hA ⊢;rw[en];have cs:nd ax e=0∨nd ax e=1:=by lia
   cases s
   ·simp only[if_false,GA]at hA hN ⊢;rcases cs with cs | cs<;>rw[cs]at hN ⊢<;>lia
   ·simp only[if_true]at hA hN ⊢;rcases cs with cs | cs<;>rw[cs]at hN ⊢<;>lia
  obtain⟨k1,k2⟩:=key;show fl _ p (.four a b c d) x y (r.length + j + 1)=pG (du ax s) (p++[e]) r (qk (.four a b c d) e);refine Bm he (fun d' hd' nde =>?_) ?_
  ·rw[hh];obtain⟨en',et',ln',lt'⟩:=uJ (ax:=ax) (x:=x) (y:=y) (h:=h) hd';refine c_ _ _ _ _ _ (g.q d') ?_;rw[hh];unfold ff;rw[en',et'];unfold AlP at hA;have c1:td ax e=0∨td ax e=1:=by lia
   have c2:td ax d'=0∨td ax d'=1:=by lia
   have c3:nd ax d'=0∨nd ax d'=1:=by lia
   have c4:=Dz (ax:=ax) hd' he nde;cases s
   ·simp only[if_false,GA]at hA hN k1 ⊢;rcases c1 with c1 | c1<;>rcases c2 with c2 | c2<;>rcases c3 with c3 | c3<;>rw[c1]at hT c4<;>rw[c2]at c4 ⊢<;>rw[c3]at c4 ⊢<;>rw[k1]at c4 hN<;>lia
   ·simp only[if_true]at hA hN k1 ⊢;rcases c1 with c1 | c1<;>rcases c2 with c2 | c2<;>rcases c3 with c3 | c3<;>rw[c1]at hT c4<;>rw[c2]at c4 ⊢<;>rw[c3]at c4 ⊢<;>rw[k1]at c4 hN<;>lia
  ·rw[hh]
   have:=xD (ax:=ax) (s:=s) (N1:=N1) (T1:=T1) (j:=j) r (qk (.four a b c d) e) (p++[e]) (x + e % 2 * h) (y + e / 2 * h) h4' (g.q e) (by rw[hw,hA1,et];lia) (by rw[hw,hB1,en];cases s<;>simp only[if_true,if_false,GA]at hN ⊢<;>lia) (by rw[hw,hh];exact k2)
   rw[hw]at this;exact this
theorem FO {t T W h A a b:Nat}(hT:T=t + (a * h + A))(hA:A + W≤h)(ha:a < 2)(hb:b < 2)(hne:¬ b=a):t + b * h + h≤T∨T + W≤t + b * h:=by
 rcases (show (a=0∧b=1)∨(a=1∧b=0) by lia) with⟨rfl,rfl⟩|⟨rfl,rfl⟩<;>lia
theorem ED {c N W h B a b:Nat}(hN:c + (a * h + B)=N + W)(hB:B + W≤h)(hW:0 < W)(ha:a < 2)(hb:b < 2)(hne:¬ b=a):N + W < c + b * h∨c + b * h + h≤N + W:=by
 rcases (show (a=0∧b=1)∨(a=1∧b=0) by lia) with⟨rfl,rfl⟩|⟨rfl,rfl⟩<;>lia
theorem EC {c N W h B a b:Nat}(hN:c + (a * h + B) + W=N)(hB:B + W≤h)(hW:0 < W)(ha:a < 2)(hb:b < 2)(hne:¬ b=a):N≤c + b * h∨c + b * h + h < N:=by
 rcases (show (a=0∧b=1)∨(a=1∧b=0) by lia) with⟨rfl,rfl⟩|⟨rfl,rfl⟩<;>lia
theorem Ft {t T W h A A' a b:Nat}(h1:T=t + (a * h + A))(h2:T=t + (b * h + A'))(hA:A + W≤h)(hA':A' + W≤h)(hW:0 < W)(ha:a < 2)(hb:b < 2):b=a:=by
 rcases (show (a=0∨a=1)∧(b=0∨b=1) by lia) with⟨rfl|rfl,rfl|rfl⟩<;>lia
theorem FV {c N W h B B' a b:Nat}(hS:c + (a * h + B)=N + W)(hN:N=c + (b * h + B'))(hB:B + W≤h)(hB':B' + W≤h)(hW:0 < W)(ha:a < 2)(hb:b < 2)(hne:¬ a=b):c + a * h=N + W:=by
 rcases (show (a=0∧b=1)∨(a=1∧b=0) by lia) with⟨rfl,rfl⟩|⟨rfl,rfl⟩<;>lia
theorem FU {c N W h B B' a b:Nat}(hS:c + (a * h + B) + W=N)(hN:N=c + (b * h + B'))(hB:B + W≤h)(hB':B' + W≤h)(hW:0 < W)(ha:a < 2)(hb:b < 2)(hne:¬ a=b):c + a * h + h=N:=by
 rcases (show (a=0∧b=1)∨(a=1∧b=0) by lia) with⟨rfl,rfl⟩|⟨rfl,rfl⟩<;>lia
theorem re {t T X A:Nat}(h:T=t + (X + A)):T=t + X + A:=by lia
theorem wJ {c N X B W:Nat}(h:c + (X + B)=N + W):c + X + B=N + W:=by lia
theorem wI {c N X B W:Nat}(h:c + (X + B) + W=N):c + X + B + W=N:=by lia
theorem xE {ax s:Bool}{j:Nat}:∀ (zr yr:List Nat) (u:Tr) (p:List Nat) (x y N1 T1:Nat) (c:Int),zr.length=yr.length→(∀ d∈zr,d < 4)→(∀ d∈yr,d < 4)→aP (zr.length + j) u→iZ u zr=some (.col c) →
  T1=tC' ax x y + ct ax zr * 2 ^ j→T1=tC' ax x y + ct ax yr * 2 ^ j→N1=nC ax x y + cn ax zr * 2 ^ j→(if s then nC ax x y + cn ax yr * 2 ^ j + 2 ^ j=N1 else nC ax x y + cn ax yr * 2 ^ j=N1 + 2 ^ j) →
  fl (fun x y w=>decide (eK ax s N1 T1 (2 ^ j) x y w)) p u x y (zr.length + j)=pG (du ax s) p yr u
 | [],yr,u,p,x,y,N1,T1,c,hl,_,_,_,_,_,_,hN,hS=>by
  have e:yr=[]:=Hl hl.symm;subst e;have pj:=HG j;cases s<;>simp only[if_true,if_false,GA]at hS<;>lia
 | _::_,[],_,_,_,_,_,_,_,hl,_,_,_,_,_,_,_,_=>by simp at hl
 | e'::zr,e::yr,.col _,_,_,_,_,_,_,_,_,_,_,hnd,_,_,_,_=>by cases hnd
 | e'::zr,e::yr,.four a b c d,p,x,y,N1,T1,cc,hl,z4,y4,g,hnd,hT,hT',hN,hS=>by
  have he':=z4 e' GO;have he:=y4 e GO;have z4':∀ d∈zr,d < 4:=fun d hd=>z4 d (GG _ hd);have y4':∀ d∈yr,d < 4:=fun d hd=>y4 d (GG _ hd);have hl':zr.length=yr.length:=by simpa using hl
  have lz:=Dc ax z4';have ly:=Dc ax y4';have pj:=HG j;have z1:=iA (W:=2 ^ j) lz.1;have z2:=iA (W:=2 ^ j) lz.2;have y1:=iA (W:=2 ^ j) ly.1;have y2:=iA (W:=2 ^ j) ly.2;rw[← Il]at z1 z2 y1 y2;have ez:=wu ax e' zr;have ey:=wu ax e yr;have ek:(e'::zr).length + j=(zr.length + j) + 1:=by rw[G2];lia
  rw[ek]at g ⊢;rw[ez.2,HB,HZ,← Il]at hT;rw[ez.1,HB,HZ,← Il]at hN;rw[ey.2,HB,HZ,← Il]at hT';rw[ey.1,HB,HZ,← Il]at hS;rw[← hl']at y1 y2 hT' hS;obtain⟨en,et,ln,lt⟩:=uJ (ax:=ax) (x:=x) (y:=y) (h:=2 ^ (zr.length + j)) he;obtain⟨en',et',ln',lt'⟩:=uJ (ax:=ax) (x:=x) (y:=y) (h:=2 ^ (zr.length + j)) he';have hnd':iZ (qk (.four a b c d) e') zr=some (.col cc):=hnd;generalize hh:2 ^ (zr.length + j)=h at *;generalize hw:2 ^ j=W at *;generalize hA1:ct ax zr * W=A1 at *;generalize hB1:cn ax zr * W=B1 at *;generalize hA2:ct ax yr * W=A2 at *;generalize hB2:cn ax yr * W=B2 at *;have tde:td ax e=td ax e':=Ft hT hT' z2 y2 pj lt' lt;show fl _ p (.four a b c d) x y (zr.length + j + 1)=pG (du ax s) (p++[e]) yr (qk (.four a b c d) e);refine Bm he (fun d' hd' nde =>?_) ?_
  ·rw[hh];obtain⟨en2,et2,ln2,lt2⟩:=uJ (ax:=ax) (x:=x) (y:=y) (h:=h) hd';refine c_ _ _ _ _ _ (g.q d') ?_;rw[hh];unfold ff;rw[en2,et2];by_cases c:td ax d'=td ax e
   ·have c8:¬ nd ax d'=nd ax e:=fun k=>(Dz (ax:=ax) hd' he nde).elim (fun n=>n k) (fun n=>n c);refine .inr (.inr ?_);cases s
    ·simp only[if_false,GA]at hS ⊢;exact ED hS y1 pj ln ln2 c8
    ·simp only[if_true]at hS ⊢;exact EC hS y1 pj ln ln2 c8
   ·rcases FO hT' y2 lt lt2 c with k|k
    ·exact .inl k
    ·exact .inr (.inl k)
  ·rw[hh];by_cases hne:nd ax e=nd ax e'
   ·have ee:e=e':=FR he he' hne tde;subst ee
    have:=xE (ax:=ax) (s:=s) (j:=j) zr yr (qk (.four a b c d) e) (p++[e]) (x + e % 2 * h) (y + e / 2 * h) N1 T1 cc hl' z4' y4' (g.q e) hnd' (by rw[hw,hA1,et];exact re hT) (by rw[hw,hA2,et];exact re hT') (by rw[hw,hB1,en];exact re hN)
     (by rw[hw,hB2,en];cases s<;>simp only[if_true,if_false,GA]at hS ⊢<;>first | exact wJ hS | exact wI hS)
    rw[hw]at this;exact this
   ·have al:AlP ax s N1 W (x + e % 2 * h) (y + e / 2 * h) h:=by
     unfold AlP;rw[en];cases s
     ·simp only[if_false,GA]at hS ⊢;exact FV hS hN y1 z1 pj ln ln' hne
     ·simp only[if_true]at hS ⊢;exact FU hS hN y1 z1 pj ln ln' hne
    have gq:=g.q e;rw[hl']at gq hh ⊢
    have:=xD (ax:=ax) (s:=s) (N1:=N1) (T1:=T1) (j:=j) yr (qk (.four a b c d) e) (p++[e]) (x + e % 2 * h) (y + e / 2 * h) y4' gq (by rw[hw,hA2,et];exact re hT') (by rw[hw,hB2,en];cases s<;>simp only[if_true,if_false,GA]at hS ⊢<;>first | exact wJ hS | exact wI hS) (by rw[hw,hh];exact al)
    rw[hw]at this;exact this
theorem Ba {K:PySem.W.Frag}:PySem.W.kitOne K (.type "list") (.type "list")=some true:=by kernel_rfl
structure Sq where
 z:List Nat
 c:Int
 x:Nat
 y:Nat
 w:Nat
def sqs:List Nat→Tr→Nat→Nat→Nat→List Sq
 | p,.col c,x,y,k=>[⟨p,c,x,y,2 ^ k⟩]
 | p,.four a b c d,x,y,k=>sqs (p++[0]) a x y (k - 1)++(sqs (p++[1]) b (x + 2 ^ (k - 1)) y (k - 1)++(sqs (p++[2]) c x (y + 2 ^ (k - 1)) (k - 1)++sqs (p++[3]) d (x + 2 ^ (k - 1)) (y + 2 ^ (k - 1)) (k - 1)))
theorem b_:∀ (t:Tr) (p:List Nat) (x y k:Nat),(sqs p t x y k).length=cnt t
 | .col _,_,_,_,_=>rfl
 | .four a b c d,p,x,y,k=>by
  show (sqs _ a _ _ _++(sqs _ b _ _ _++(sqs _ c _ _ _++sqs _ d _ _ _))).length=cnt a + cnt b + cnt c + cnt d;simp only[GE,b_ a,b_ b,b_ c,b_ d]
  lia
theorem l9 (P:Nat→Nat→Nat→Bool):∀ (t:Tr) (p:List Nat) (x y k:Nat),fl P p t x y k=((sqs p t x y k).filter fun q=>P q.x q.y q.w).map Sq.z
 | .col c,p,x,y,k=>by
  show (if P x y (2 ^ k) then [p] else [])=(([⟨p,c,x,y,2 ^ k⟩]:List Sq).filter fun q=>P q.x q.y q.w).map Sq.z;cases h:P x y (2 ^ k)<;>simp[List.filter,h]
 | .four a b c d,p,x,y,k=>by
  show fl P (p++[0]) a x y (k - 1)++(fl P (p++[1]) b (x + 2 ^ (k - 1)) y (k - 1)++(fl P (p++[2]) c x (y + 2 ^ (k - 1)) (k - 1)++fl P (p++[3]) d (x + 2 ^ (k - 1)) (y + 2 ^ (k - 1)) (k - 1))) =
   ((sqs (p++[0]) a x y (k - 1)++(sqs (p++[1]) b (x + 2 ^ (k - 1)) y (k - 1)++(sqs (p++[2]) c x (y + 2 ^ (k - 1)) (k - 1)++sqs (p++[3]) d (x + 2 ^ (k - 1)) (y + 2 ^ (k - 1)) (k - 1)))).filter fun q=>P q.x q.y q.w).map Sq.z
  simp only[IB,G7,l9 P a,l9 P b,l9 P c,l9 P d]
def ni (q:Sq)(p:List Nat)(t:Tr)(x y k:Nat):Prop:=∃ w:List Nat,q.z=p++w∧(∀ d∈w,d < 4)∧iZ t w=some (.col q.c)∧w.length≤k∧q.x=x + cxs w * 2 ^ (k - w.length)∧q.y=y + cys w * 2 ^ (k - w.length)∧q.w=2 ^ (k - w.length)
theorem nu {q:Sq}{p:List Nat}{a b c d:Tr}{x y x' y' k e:Nat}(he:e < 4)(hx:x'=x + e % 2 * 2 ^ k)(hy:y'=y + e / 2 * 2 ^ k)(h:ni q (p++[e]) (qk (.four a b c d) e) x' y' k):ni q p (.four a b c d) x y (k + 1):=by
 obtain⟨w,e1,h4,hn,hl,ex,ey,ew⟩:=h;have ek:k + 1 - (e::w).length=k - w.length:=by rw[G2];simp
 have ep:2 ^ w.length * 2 ^ (k - w.length)=2 ^ k:=by rw[← Il];congr 1;lia
 refine⟨e::w,by rw[e1];simp,?_,hn,by rw[G2];lia,?_,?_,by rw[ek];exact ew⟩
 ·intro d hd;rcases GU.mp hd with rfl | hd
  ·exact he
  ·exact h4 d hd
 ·rw[ek,ex,hx,eu,HB,HZ,ep];lia
 ·rw[ek,ey,hy,d_,HB,HZ,ep];lia
theorem eE:∀ (t:Tr) (p:List Nat) (x y k:Nat),aP k t→∀ q∈sqs p t x y k,ni q p t x y k
 | .col c,p,x,y,k,_,q,hq=>by
  have e:q=⟨p,c,x,y,2 ^ k⟩:=GI.mp hq;subst e;exact⟨[],by simp,fun d hd=>absurd hd (by simp),rfl,GF _,by simp[cxs],by simp[cys],by simp⟩
 | .four a b c d,p,x,y,0,g,_,_=>g.elim
 | .four a b c d,p,x,y,k + 1,⟨ga,gb,gc,gd,_⟩,q,hq=>by
  have hq':q∈sqs (p++[0]) a x y k++(sqs (p++[1]) b (x + 2 ^ k) y k++(sqs (p++[2]) c x (y + 2 ^ k) k++sqs (p++[3]) d (x + 2 ^ k) (y + 2 ^ k) k)):=hq;simp only[GS]at hq';rcases hq' with h | h | h | h
  ·exact nu (e:=0) (by decide) (by simp) (by simp) (eE a _ _ _ k ga q h)
  ·exact nu (e:=1) (by decide) (by simp) (by simp) (eE b _ _ _ k gb q h)
  ·exact nu (e:=2) (by decide) (by simp) (by simp) (eE c _ _ _ k gc q h)
  ·exact nu (e:=3) (by decide) (by simp) (by simp) (eE d _ _ _ k gd q h)
def SqV (H:Hp)(u:V)(q:Sq):Prop:=∃ p,u=.ref p∧H p=some (.tup [sV q.z,.int q.c,.int (q.x:Int),.int (q.y:Int),.int (q.w:Int)])∧0 < q.w
theorem SqV.up {H H':Hp}{u:V}{q:Sq}(h:SqV H u q)(s:bO H H'):SqV H' u q:=by
 obtain⟨p,e,hp,h⟩:=h;exact⟨p,e,s _ _ hp,h⟩
inductive eB (H:Hp):List V→List Sq→Prop
 | nil:eB H [] []
 | cons {u:V} {q:Sq} {us:List V} {L:List Sq}:SqV H u q→eB H us L→eB H (u::us) (q::L)
theorem eB.up {H H':Hp}{us:List V}{L:List Sq}(h:eB H us L)(s:bO H H'):eB H' us L:=by
 induction h with
 | nil=>exact .nil
 | cons p _ ih=>exact .cons (p.up s) ih
theorem eB.len {H:Hp}{us:List V}{L:List Sq}(h:eB H us L):us.length=L.length:=by
 induction h with
 | nil=>rfl
 | cons p _ ih=>simp[ih]
theorem eB.app {H:Hp}{us vs:List V}{L M:List Sq}(h:eB H us L)(k:eB H vs M):eB H (us++vs) (L++M):=by
 induction h with
 | nil=>exact k
 | cons p _ ih=>exact .cons p ih
theorem eB.get {H:Hp}{us:List V}{L:List Sq}(h:eB H us L):∀ {i:Nat} {u:V},us[i]? = some u→∃ q,L[i]? = some q∧SqV H u q:=by
 induction h with
 | nil=>intro i u e;simp at e
 | cons p _ ih =>
  intro i u e;rcases i with _ | i
  ·exact⟨_,rfl,by rw[← Option.some.inj e];exact p⟩
  ·exact ih (by simpa using e)
def mn (i j:Int):Int:=if j < i then j else i
def mx (i j:Int):Int:=if j > i then j else i
def jL (a wa b wb:Nat):Int:=mn ((a:Int) + wa) ((b:Int) + wb) - mx (a:Int) b
theorem tV {a wa b wb:Nat}(h1:0 < wa)(h2:0 < wb):0 < jL a wa b wb↔a < b + wb∧b < a + wa:=by
 unfold jL mn mx
 split<;>split<;>lia
def dZ (ax s:Bool)(q:Sq):Nat→Nat→Nat→Bool:=fun x y w=>decide (eK ax s (nC ax q.x q.y) (tC' ax q.x q.y) q.w x y w)
theorem zk {ax s:Bool}{n:Nat}{t:Tr}{q:Sq}{yr:List Nat}(gt:aP n t)(ok:ni q [] t 0 0 n)(ly:yr.length=q.z.length)(y4:∀ d∈yr,d < 4)(hc:ct ax yr=ct ax q.z)(hs:if s then cn ax yr + 1=cn ax q.z else cn ax yr=cn ax q.z + 1):
  fl (dZ ax s q) [] t 0 0 n=pG (du ax s) [] yr t:=by
 obtain⟨w,e1,h4,hn,hl,ex,ey,ew⟩:=ok;rw[HJ]at e1;rw[e1]at ly hc hs;obtain⟨j,rfl⟩:∃ j,n=w.length + j:=⟨n - w.length,by lia⟩;rw[Nat.add_sub_cancel_left]at ex ey ew;have hN:nC ax q.x q.y=nC ax 0 0 + cn ax w * 2 ^ j:=by cases ax<;>simp only[nC,cn,ex,ey,if_true,if_false,GA]
 have hT:tC' ax q.x q.y=tC' ax 0 0 + ct ax w * 2 ^ j:=by cases ax<;>simp only[tC',ct,ex,ey,if_true,if_false,GA]
 unfold dZ;rw[ew];refine xE w yr t [] 0 0 _ _ q.c ly.symm h4 y4 gt hn hT (by rw[hc];exact hT) hN ?_;rw[hN];cases s
 ·simp only[if_false,GA]at hs ⊢;rw[hs,HB,JQ];lia
 ·simp only[if_true]at hs ⊢;rw[← hs,HB,JQ];lia
theorem wx {ax s:Bool}{n:Nat}{t:Tr}{q:Sq}(gt:aP n t)(ok:ni q [] t 0 0 n)(hb:if s then cn ax q.z=0 else cn ax q.z + 1=2 ^ q.z.length):
  fl (dZ ax s q) [] t 0 0 n=[]:=by
 obtain⟨w,e1,h4,hn,hl,ex,ey,ew⟩:=ok;rw[HJ]at e1;rw[e1]at hb;obtain⟨j,rfl⟩:∃ j,n=w.length + j:=⟨n - w.length,by lia⟩;rw[Nat.add_sub_cancel_left]at ex ey ew;have hN:nC ax q.x q.y=cn ax w * 2 ^ j:=by cases ax<;>simp only[nC,cn,ex,ey,if_true,if_false,GA,Ii]
 have h0:nC ax 0 0=0:=by cases ax<;>rfl
 unfold dZ;rw[ew];refine c_ t [] 0 0 _ gt (.inr (.inr ?_));rw[hN,h0];cases s
 ·simp only[if_false,GA]at hb ⊢
  right
  rw[Il,← hb,HB,JQ];simp
 ·simp only[if_true]at hb ⊢
  left
  rw[hb,Nat.zero_mul];exact GF _
def Fd:List V:=[.str "up",.str "right",.str "down",.str "left"]
theorem BJ {K:PySem.W.Frag}{mg:Str→Option Value}{Y:Yx K mg}{H:Hp}{Q:VK}{E:XK}{n:Nat}{t:Tr}{q:Sq}{side s1 s2:Str}{dx dy:Int}{ax s:Bool}(gt:aP n t)(ok:ni q [] t 0 0 n)(hd:Dir side s1 s2 dx dy)(e2:dig s2=du ax s)
  (ex:dx=(if ax then 0 else if s then -1 else 1)) (ey:dy=(if ax then (if s then -1 else 1) else 0)) (k:∀ l H',am H H'→H l=none→H' l=some (.lst ((fl (dZ ax s q) [] t 0 0 n).map sV))→Q (.ref l) H'):FZ Y H Q E (txt q.z) t (.str side):=by
 obtain⟨w,e1,h4,_⟩:=id ok;rw[HJ]at e1;refine .inl ⟨side,s1,s2,dx,dy,rfl,hd,fun y hy ly hx hy' l H' sm hl u=>k l H' sm hl ?_,fun x' y' hx' hy' hx hy l H' sm hl u=>k l H' sm hl ?_⟩
 ·rw[fe]at hx hy';rw[eP]at ly;rw[u,e2,zk (yr:=dig y) gt ok (by rw[cP];exact ly) (By hy)]
  ·subst ex ey;cases ax<;>cases s<;>simp only[ct,if_true,if_false,GA]at hx hy' ⊢<;>lia
  ·subst ex ey;cases ax<;>cases s<;>simp only[cn,if_true,if_false,GA]at hx hy' ⊢<;>lia
 ·rw[fe,eP]at hx hy;rw[eP]at hx' hy';have c1:=sF q.z;have c2:=sD q.z (by rw[e1];exact h4);rw[u,wx gt ok]
  ·rfl
  ·subst ex ey;generalize 2 ^ q.z.length=W at *;cases ax<;>cases s<;>simp only[cn,if_true,if_false,GA]at hx hy ⊢<;>lia
def gz (q r:Sq):Bool:=dZ false false q r.x r.y r.w
def jS (q r:Sq):Bool:=dZ true false q r.x r.y r.w
def cA (q r:Sq):Bool:=decide (mn (jL q.x q.w r.x r.w) (jL q.y q.w r.y r.w)=0) && decide (mx (jL q.x q.w r.x r.w) (jL q.y q.w r.y r.w) > 0)
def Sep (q r:Sq):Prop:=q.x + q.w≤r.x∨q.y + q.w≤r.y
theorem gD (i j:Int):mn i j=min i j:=by unfold mn;split<;>lia
theorem gC (i j:Int):mx i j=max i j:=by unfold mx;split<;>lia
theorem iq {q r:Sq}:gz q r=true↔r.x=q.x + q.w∧q.y < r.y + r.w∧r.y < q.y + q.w:=by
 unfold gz dZ eK;simp only[nC,tC',if_false,GA,decide_eq_true_eq]
theorem jI {q r:Sq}:jS q r=true↔r.y=q.y + q.w∧q.x < r.x + r.w∧r.x < q.x + q.w:=by
 unfold jS dZ eK;simp only[nC,tC',if_true,if_false,GA,decide_eq_true_eq]
theorem dG {q r:Sq}:cA q r=true↔min (jL q.x q.w r.x r.w) (jL q.y q.w r.y r.w)=0∧max (jL q.x q.w r.x r.w) (jL q.y q.w r.y r.w) > 0:=by
 unfold cA;rw[gD,gC];simp only[HE,decide_eq_true_eq]
theorem qr {X Y:Int}{A B C D:Prop}(hX:X≤0)(hA:X=0↔A)(hY:0 < Y↔B)(hC:¬ (C∧D)):(min X Y=0∧max X Y > 0)↔(A∧B)∨(C∧D):=by
 rw[← hA,← hY];constructor
 ·intro h;exact .inl (by lia)
 ·intro h;rcases h with h | h
  ·lia
  ·exact absurd h hC
theorem vh {X Y:Int}{A B C D:Prop}(hY:Y≤0)(hA:Y=0↔C)(hX:0 < X↔D)(hC:¬ (A∧B)):(min X Y=0∧max X Y > 0)↔(A∧B)∨(C∧D):=by
 rw[Int.min_comm,Int.max_comm,qr hY hA hX hC];exact Or.comm
theorem tU {a wa b wb:Nat}(hb:0 < wb)(h:a + wa≤b):jL a wa b wb=(a:Int) + wa - b:=by
 unfold jL mn mx;rw[if_neg (by lia)]
 split<;>lia
theorem yf {q r:Sq}(hq:0 < q.w)(hr:0 < r.w)(h:Sep q r):cA q r=(gz q r || jS q r):=by
 rw[HQ,Bool.or_eq_true,dG,iq,jI];rcases h with h | h
 ·have e:=tU hr h;refine qr (by lia) (by rw[e];lia) (tV hq hr) (by lia)
 ·have e:=tU hr h;refine vh (by lia) (by rw[e];lia) (tV hq hr) (by lia)
theorem tD {q r:Sq}(hq:0 < q.w)(hr:0 < r.w)(h:Sep q r):gz r q=false∧jS r q=false:=by
 refine⟨Iv.mpr fun c =>?_,Iv.mpr fun c =>?_⟩
 ·obtain⟨c1,c2,c3⟩:=iq.mp c;rcases h with h|h<;>lia
 ·obtain⟨c1,c2,c3⟩:=jI.mp c;rcases h with h|h<;>lia
theorem AI {q:Sq}(hq:0 < q.w):gz q q=false∧jS q q=false:=by
 refine⟨Iv.mpr fun c =>?_,Iv.mpr fun c =>?_⟩
 ·obtain⟨c1,c2,c3⟩:=iq.mp c
  lia
 ·obtain⟨c1,c2,c3⟩:=jI.mp c
  lia
theorem CH {q r:Sq}(hq:0 < q.w)(h:gz q r=true):jS q r=false:=by
 refine Iv.mpr fun c =>?_;obtain⟨c1,c2,c3⟩:=iq.mp h;obtain⟨d1,d2,d3⟩:=jI.mp c
 lia
theorem dk:∀ (t:Tr) (p:List Nat) (x y k:Nat),aP k t→∀ q∈sqs p t x y k,x≤q.x∧q.x + q.w≤x + 2 ^ k∧y≤q.y∧q.y + q.w≤y + 2 ^ k∧0 < q.w
 | .col c,p,x,y,k,_,q,hq=>by
  have e:q=⟨p,c,x,y,2 ^ k⟩:=GI.mp hq;subst e;exact⟨GB _,GB _,GB _,GB _,HG k⟩
 | .four a b c d,p,x,y,0,g,_,_=>g.elim
 | .four a b c d,p,x,y,k + 1,⟨ga,gb,gc,gd,_⟩,q,hq=>by
  have hq':q∈sqs (p++[0]) a x y k++(sqs (p++[1]) b (x + 2 ^ k) y k++(sqs (p++[2]) c x (y + 2 ^ k) k++sqs (p++[3]) d (x + 2 ^ k) (y + 2 ^ k) k)):=hq;have e2:2 ^ (k + 1)=2 ^ k + 2 ^ k:=by rw[HK];lia
  simp only[GS]at hq';rw[e2];rcases hq' with h | h | h | h
  ·obtain⟨h1,h2,h3,h4,h5⟩:=dk a _ _ _ k ga q h;refine⟨?_,?_,?_,?_,h5⟩<;>lia
  ·obtain⟨h1,h2,h3,h4,h5⟩:=dk b _ _ _ k gb q h;refine⟨?_,?_,?_,?_,h5⟩<;>lia
  ·obtain⟨h1,h2,h3,h4,h5⟩:=dk c _ _ _ k gc q h;refine⟨?_,?_,?_,?_,h5⟩<;>lia
  ·obtain⟨h1,h2,h3,h4,h5⟩:=dk d _ _ _ k gd q h;refine⟨?_,?_,?_,?_,h5⟩<;>lia
theorem Ef (p:List Nat){a b:Nat}(h:a < b)(v w:List Nat):p++a::v < p++b::w:=by
 induction p with
 | nil=>exact List.cons_lt_cons_iff.mpr (.inl h)
 | cons x p ih=>exact List.cons_lt_cons_iff.mpr (.inr ⟨rfl,ih⟩)
def dP (q r:Sq):Prop:=Sep q r∧q.z < r.z
theorem wO {t:Tr}{p:List Nat}{x y k:Nat}(g:aP k t){q:Sq}(hq:q∈sqs p t x y k):∃ w,q.z=p++w:=by
 obtain⟨w,e,_⟩:=eE t p x y k g q hq;exact⟨w,e⟩
theorem jJ {a b:Tr}{p:List Nat}{d e x y x' y' k:Nat}(ga:aP k a)(gb:aP k b)(hd:d < e)(hs:∀ q r:Sq,(x≤q.x∧q.x + q.w≤x + 2 ^ k∧y≤q.y∧q.y + q.w≤y + 2 ^ k∧0 < q.w)→(x'≤r.x∧r.x + r.w≤x' + 2 ^ k∧y'≤r.y∧r.y + r.w≤y' + 2 ^ k∧0 < r.w)→Sep q r):
  ∀ q∈sqs (p++[d]) a x y k,∀ r∈sqs (p++[e]) b x' y' k,dP q r:=fun q hq r hr=>by
 refine⟨hs q r (dk a _ _ _ k ga q hq) (dk b _ _ _ k gb r hr),?_⟩;obtain⟨v,ev⟩:=wO ga hq;obtain⟨w,ew⟩:=wO gb hr;rw[ev,ew]
 have:=Ef p hd v w
 simpa using this
theorem cM:∀ (t:Tr) (p:List Nat) (x y k:Nat),aP k t→(sqs p t x y k).Pairwise dP
 | .col c,p,x,y,k,_=>IS _ _
 | .four a b c d,p,x,y,0,g=>g.elim
 | .four a b c d,p,x,y,k + 1,⟨ga,gb,gc,gd,_⟩=>by
  show (sqs (p++[0]) a x y k++(sqs (p++[1]) b (x + 2 ^ k) y k++(sqs (p++[2]) c x (y + 2 ^ k) k++sqs (p++[3]) d (x + 2 ^ k) (y + 2 ^ k) k))).Pairwise dP;refine Hh.mpr ⟨cM a _ _ _ k ga,Hh.mpr ⟨cM b _ _ _ k gb,Hh.mpr ⟨cM c _ _ _ k gc,cM d _ _ _ k gd,?_⟩,?_⟩,?_⟩
  ·refine jJ gc gd (by decide) fun q r hq hr =>?_;unfold Sep;omega
  ·intro q hq r hr;rcases GS.mp hr with hr | hr
   ·refine jJ gb gc (by decide) (fun q r hq hr =>?_) q hq r hr;unfold Sep
    lia
   ·refine jJ gb gd (by decide) (fun q r hq hr =>?_) q hq r hr;unfold Sep
    lia
  ·intro q hq r hr;rcases GS.mp hr with hr | hr
   ·refine jJ ga gb (by decide) (fun q r hq hr =>?_) q hq r hr;unfold Sep;omega
   rcases GS.mp hr with hr|hr
   ·refine jJ ga gc (by decide) (fun q r hq hr =>?_) q hq r hr;unfold Sep
    lia
   ·refine jJ ga gd (by decide) (fun q r hq hr =>?_) q hq r hr;unfold Sep;omega
abbrev Pr:Type:=List Nat × List Nat
def iD:List Sq→List Pr
 | []=>[]
 | q::L=>((L.filter fun r=>cA q r).map fun r=>(q.z,r.z))++iD L
def gg (A:List Sq)(q:Sq):List Pr:=((A.filter fun r=>gz q r).map fun r=>(q.z,r.z))++((A.filter fun r=>jS q r).map fun r=>(q.z,r.z))
theorem qP {α:Type}{a b:α→Bool}:∀ {L:List α},(∀ x∈L,a x=true→b x=false)→(L.filter a++L.filter b).Perm (L.filter fun x=>a x || b x)
 | [],_=>List.Perm.refl _
 | x::L,h=>by
  have ih:=qP (L:=L) fun y hy=>h y (GG _ hy);cases ea:a x with
  | true =>
   have eb:=h x GO ea;rw[Iy ea,HP (by rw[eb];exact GM),Iy (by rw[ea];rfl)];exact ih.cons x
  | false =>
   rw[HP (by rw[ea];exact GM)];cases eb:b x with
   | true =>
    rw[Iy eb,Iy (by rw[ea,eb];rfl)];exact List.perm_middle.trans (ih.cons x)
   | false =>
    rw[HP (by rw[eb];exact GM),HP (by rw[ea,eb];exact GM)];exact ih
theorem mE {α:Type}{a:α→Bool}{L:List α}(h:∀ x∈L,a x=false):L.filter a=[]:=by
 rw[List.filter_eq_nil_iff];intro x hx;rw[h x hx];exact GM
theorem zB {B L:List Sq}{q:Sq}(hB:∀ b∈B,dP b q∧0 < b.w)(hL:∀ r∈L,dP q r∧0 < r.w)(hq:0 < q.w):(gg (B++q::L) q).Perm ((L.filter fun r=>cA q r).map fun r=>(q.z,r.z)):=by
 have ns:=AI hq;have e1:(B++q::L).filter (fun r=>gz q r)=L.filter (fun r=>gz q r):=by
  rw[IB,mE fun b hb=>(tD (hB b hb).2 hq (hB b hb).1.1).1,HJ,HP (by rw[ns.1];exact GM)]
 have e2:(B++q::L).filter (fun r=>jS q r)=L.filter (fun r=>jS q r):=by
  rw[IB,mE fun b hb=>(tD (hB b hb).2 hq (hB b hb).1.1).2,HJ,HP (by rw[ns.2];exact GM)]
 unfold gg;rw[e1,e2,← G7];have e3:L.filter (fun r=>cA q r)=L.filter (fun r=>gz q r || jS q r):=List.filter_congr fun r hr=>yf hq (hL r hr).2 (hL r hr).1.1;rw[e3];exact (qP fun r hr h=>CH hq h).map _
theorem qt:∀ (L B:List Sq),(B++L).Pairwise dP→(∀ q∈B++L,0 < q.w)→(L.flatMap fun q=>gg (B++L) q).Perm (iD L)
 | [],B,_,_=>List.Perm.refl _
 | q::L,B,h,hw=>by
  have ih:=qt L (B++[q]) (by simpa using h) (by simpa using hw);rw[GT,List.singleton_append]at ih;obtain⟨p1,p2,p3⟩:=Hh.mp h;rw[List.flatMap_cons];refine List.Perm.append (zB (fun b hb=>⟨p3 b hb q GO,hw b (by simp[hb])⟩) (fun r hr=>⟨(HY.mp p2).1 r hr,hw r (by simp[hr])⟩) (hw q (by simp))) ih
def BQ (a b:Pr):Prop:=a.1 < b.1∨(a.1=b.1∧a.2 < b.2)
theorem uB:∀ {L:List Sq} {d:Pr},d∈iD L→∃ q∈L,d.1=q.z
 | [],d,h=>by cases h
 | q::L,d,h=>by
  rcases GS.mp h with h|h
  ·obtain⟨r,_,rfl⟩:=GC.mp h;exact⟨q,GO,rfl⟩
  ·obtain⟨r,hr,e⟩:=uB h;exact⟨r,GG _ hr,e⟩
theorem pF:∀ {L:List Sq},L.Pairwise dP→(iD L).Pairwise BQ
 | [],_=>List.Pairwise.nil
 | q::L,h=>by
  obtain⟨h1,h2⟩:=HY.mp h;refine Hh.mpr ⟨?_,pF h2,fun a ha b hb =>?_⟩
  ·rw[Hg];exact (h2.filter _).imp fun h=>.inr ⟨rfl,h.2⟩
  ·obtain⟨r,_,rfl⟩:=GC.mp ha;obtain⟨s,hs,e⟩:=uB hb
   left
   rw[e];exact (h1 s hs).2
theorem uC:∀ (L:List Sq),(iD L).length≤L.length * L.length
 | []=>GB _
 | q::L=>by
  have ih:=uC L;have h1:=Ik (fun r=>cA q r) L;show (((L.filter fun r=>cA q r).map fun r=>(q.z,r.z))++iD L).length≤_;rw[GE,Gy,G2,HB,Nat.mul_add]
  lia
def PrV (H:Hp)(u:V)(d:Pr):Prop:=∃ p,u=.ref p∧H p=some (.tup [sV d.1,sV d.2])
theorem PrV.up {H H':Hp}{u:V}{d:Pr}(h:PrV H u d)(s:bO H H'):PrV H' u d:=by
 obtain⟨p,e,hp⟩:=h;exact⟨p,e,s _ _ hp⟩
abbrev dC (H:Hp):List V→List Pr→Prop:=Paired (PrV H)
theorem dC.up {H H':Hp}{us:List V}{L:List Pr}(h:dC H us L)(s:bO H H'):dC H' us L:=by
 induction h with
 | nil=>exact .nil
 | cons p _ ih=>exact .cons (p.up s) ih
theorem dC.app {H:Hp}{us vs:List V}{L M:List Pr}(h:dC H us L)(k:dC H vs M):dC H (us++vs) (L++M):=by
 induction h with
 | nil=>exact k
 | cons p _ ih=>exact .cons p ih
theorem dC.len {H:Hp}{us:List V}{L:List Pr}(h:dC H us L):us.length=L.length:=Paired.length h
theorem dC.get {H:Hp}{us:List V}{L:List Pr}(h:dC H us L):∀ {i:Nat} {u:V},us[i]? = some u→∃ d,L[i]? = some d∧PrV H u d:=by
 induction h with
 | nil=>intro i u e;simp at e
 | cons p _ ih =>
  intro i u e;rcases i with _ | i
  ·exact⟨_,rfl,by rw[← Option.some.inj e];exact p⟩
  ·exact ih (by simpa using e)
def kp (d:Pr):Pky:=pkV (txt d.1) (.str (txt d.2))
theorem rb {a b:List Nat}(h:(txt a).cps.toList=(txt b).cps.toList):a=b:=by
 have:=Hn dig (xN h)
 rwa [fe,fe]at this
theorem Ej {d e:Pr}(h:kp d=kp e):d=e:=by
 have h1:(txt d.1).cps.toList=(txt e.1).cps.toList:=Hn Prod.fst h;have h2:(txt d.2).cps.toList=(txt e.2).cps.toList:=Hn (fun x:Pky=>x.2.2) h;exact Prod.ext (rb h1) (rb h2)
theorem zA {a b:List Nat}(h:a < b):(txt a).cps.toList < (txt b).cps.toList:=by
 show (a.map (48 + ·)).toArray.toList < (b.map (48 + ·)).toArray.toList;exact List.map_lt (fun x y h=>Jt h 48) h
theorem FC {d e:Pr}(h:BQ d e):ltP (kp d) (kp e)=true:=by
 have hv:ltP (kp d) (kp e)=if (txt d.1).cps.toList=(txt e.1).cps.toList then decide ((txt d.2).cps.toList < (txt e.2).cps.toList) else decide ((txt d.1).cps.toList < (txt e.1).cps.toList):=rfl
 rw[hv];rcases h with h | ⟨h1,h2⟩
 ·rw[if_neg fun c=>absurd (rb c▸h) (HM _)];exact GH (zA h)
 ·rw[if_pos (by rw[h1])];exact GH (zA h2)
theorem tM {H:Hp}:∀ {us:List V} {D:List Pr},dC H us D→∃ as:List Addr,us=as.map V.ref∧as.map (pkH H)=D.map kp∧∀ a∈as,∃ d:Pr,H a=some (.tup [sV d.1,sV d.2])
 | _,_,.nil=>⟨[],rfl,rfl,fun _ h=>nomatch h⟩
 | _,_,.cons (a:=u) (b:=d) ⟨p,e,hp⟩ t=>by
  obtain⟨as,h1,h2,h3⟩:=tM t;refine⟨p::as,by rw[h1,e];rfl,?_,fun a ha =>?_⟩
  ·rw[GX,GX,h2]
   congr 1
   unfold pkH;rw[hp];rfl
  ·rcases GU.mp ha with rfl|ha
   ·exact⟨d,hp⟩
   ·exact h3 a ha
theorem Af {H:Hp}:∀ {as:List Addr} {E:List Pr},as.map (pkH H)=E.map kp→(∀ a∈as,∃ d:Pr,H a=some (.tup [sV d.1,sV d.2]))→dC H (as.map V.ref) E
 | [],[],_,_=>.nil
 | [],_::_,h,_=>by cases h
 | _::_,[],h,_=>by cases h
 | a::as,e::E,h,h3=>by
  obtain⟨h1,h2⟩:=List.cons.inj h;obtain⟨d,hd⟩:=h3 a GO
  have:pkH H a=kp d:=by
   unfold pkH;rw[hd];rfl
  have e1:=Ej (this.symm.trans h1);subst e1;exact .cons ⟨a,rfl,hd⟩ (Af h2 fun b hb=>h3 b (GG _ hb))
theorem vq {H:Hp}{as as':List Addr}{D E:List Pr}(h2:as.map (pkH H)=D.map kp)(h3:∀ a∈as,∃ d:Pr,H a=some (.tup [sV d.1,sV d.2]))(pm:as'.Perm as)(pw:as'.Pairwise fun x y=>ltP (pkH H y) (pkH H x)=false)(hp:D.Perm E)(he:E.Pairwise BQ):dC H (as'.map V.ref) E:=by
 refine Af ?_ fun a ha=>h3 a (pm.mem_iff.mp ha);have p1:(as'.map (pkH H)).Perm (E.map kp):=((pm.map _).trans (h2▸List.Perm.refl _)).trans (hp.map kp);refine List.Perm.eq_of_pairwise (le:=fun a b=>ltP b a=false) (fun a b _ _ h1 h2=>uh.tot _ _ h2 h1) (Hg.mpr pw) ?_ p1;rw[Hg];refine he.imp fun h =>?_;cases c:ltP (kp _) (kp _) with
 | false=>rfl
 | true =>
  have:=uh.tr _ _ _ c (FC h)
  rw[uh.irr]at this;cases this
def PaV (H:Hp)(n:Nat)(u:V)(q:List Nat × Int):Prop:=∃ p z,u=.ref p∧H p=some (.tup [.str z,.int q.2])∧IsC z∧dig z=q.1∧z.length≤n∧(0≤q.2∧q.2≤35)
theorem PaV.up {H H':Hp}{n:Nat}{u:V}{q:List Nat × Int}(h:PaV H n u q)(s:bO H H'):PaV H' n u q:=by
 obtain⟨p,z,e,hp,h1,h2,h3,h4⟩:=h;exact⟨p,z,e,s _ _ hp,h1,h2,h3,h4⟩
inductive dD (H:Hp)(n:Nat):List V→List (List Nat × Int)→Prop
 | nil:dD H n [] []
 | cons {u:V} {q:List Nat × Int} {us:List V} {L:List (List Nat × Int)}:PaV H n u q→dD H n us L→dD H n (u::us) (q::L)
theorem dD.up {H H':Hp}{n:Nat}{us:List V}{L:List (List Nat × Int)}(h:dD H n us L)(s:bO H H'):dD H' n us L:=by
 induction h with
 | nil=>exact .nil
 | cons p _ ih=>exact .cons (p.up s) ih
theorem dD.len {H:Hp}{n:Nat}{us:List V}{L:List (List Nat × Int)}(h:dD H n us L):us.length=L.length:=by
 induction h with
 | nil=>rfl
 | cons p _ ih=>simp[ih]
theorem dD.app {H:Hp}{n:Nat}{us vs:List V}{L M:List (List Nat × Int)}(h:dD H n us L)(k:dD H n vs M):dD H n (us++vs) (L++M):=by
 induction h with
 | nil=>exact k
 | cons p _ ih=>exact .cons p ih
theorem dD.get {H:Hp}{n:Nat}{us:List V}{L:List (List Nat × Int)}(h:dD H n us L):∀ {i:Nat} {u:V},us[i]? = some u→∃ q,L[i]? = some q∧PaV H n u q:=by
 induction h with
 | nil=>intro i u e;simp at e
 | cons p _ ih =>
  intro i u e;rcases i with _ | i
  ·exact⟨_,rfl,by rw[← Option.some.inj e];exact p⟩
  ·exact ih (by simpa using e)
theorem Gj {n:Nat}(h:n≤10000000):n≤sizeLine:=G8 h (by decide)
theorem iC:∀ (t:Tr) (p:List Nat) (x y k:Nat),lvs p t=(sqs p t x y k).map fun q=>(q.z,q.c)
 | .col c,p,x,y,k=>rfl
 | .four a b c d,p,x,y,k=>by
  show lvs (p++[0]) a++(lvs (p++[1]) b++(lvs (p++[2]) c++lvs (p++[3]) d))=(sqs (p++[0]) a x y (k - 1)++(sqs (p++[1]) b (x + 2 ^ (k - 1)) y (k - 1)++(sqs (p++[2]) c x (y + 2 ^ (k - 1)) (k - 1)++sqs (p++[3]) d (x + 2 ^ (k - 1)) (y + 2 ^ (k - 1)) (k - 1)))).map _;rw[G7,G7,G7,iC a (p++[0]) x y (k - 1),iC b (p++[1]) (x + 2 ^ (k - 1)) y (k - 1),iC c (p++[2]) x (y + 2 ^ (k - 1)) (k - 1),iC d (p++[3]) (x + 2 ^ (k - 1)) (y + 2 ^ (k - 1)) (k - 1)]
def mS (A:List Sq)(q:Sq)(j:Nat):List Pr:=(A.filter fun r=>dZ (decide (j=1)) false q r.x r.y r.w).map fun r=>(q.z,r.z)
theorem tT (A:List Sq)(q:Sq)(j:Nat):(mS A q j).length≤A.length:=by
 unfold mS;rw[Gy];exact Ik _ _
theorem Av (A:List Sq)(q:Sq):(List.range 2).flatMap (mS A q)=gg A q:=by
 rw[show List.range 2=[0,1] from rfl];show mS A q 0++(mS A q 1++[])=_;rw[Hw];rfl
theorem yD (A:List Sq)(q:Sq)(j:Nat):(List.range (j + 1)).flatMap (mS A q)=(List.range j).flatMap (mS A q)++mS A q j:=by
 rw[Ip,Ib];simp
theorem B_ {j:Nat}{x:V}(h:[V.str "right",V.str "down"][j]? = some x):j < 2∧∃ (side s1 s2:Str) (dx dy:Int),x=.str side∧Dir side s1 s2 dx dy∧dig s2=du (decide (j=1)) false∧dx=(if decide (j=1) then 0 else if false then -1 else 1)∧dy=(if decide (j=1) then (if false then -1 else 1) else 0):=by
 rcases j with _|_|j
 ·exact⟨by decide,"right",_,_,_,_,(Option.some.inj h).symm,.inr (.inl ⟨rfl,rfl,rfl,rfl,rfl⟩),by decide +kernel,rfl,rfl⟩
 ·exact⟨by decide,"down",_,_,_,_,(Option.some.inj h).symm,.inr (.inr (.inl ⟨rfl,rfl,rfl,rfl,rfl⟩)),by decide +kernel,rfl,rfl⟩
 ·exact absurd h (by simp)
theorem v0:∀ n:Nat,n < 4→((n:Int)).natAbs.log2 < 1920:=by decide +kernel
section
variable {P:Program}{w:World}{K:PySem.W.Frag}{mg:Str→Option Value}{base:Heap}{CX:CXT}{f:Addr}{fd:FuncData}
abbrev fE:Stmt:=top 35
theorem cZ:az ["tree","code","row","quarter"] ["tree","code"] (aj fE):={}
inductive hU  (m:Nat)(vs:List V)(H:Hp)(Q:VK):Prop
 | mk (v:V) (t:Tr) (z:Str) (k n:Nat) (h_0:vs=[v,.str z]) (h_1:bu H v t) (h_2:aP k t) (h_3:IsC z) (h_4:z.length + k≤n) (h_5:n≤40) (h_6:k < m) (h_7:m≤41) (h_8:cnt t≤4000) (h_9:∀ l us H',am H H'→H l=none→H' l=some (.lst us)→dD H' n us (lvs (dig z) t)→Q (.ref l) H'):hU m vs H Q
def eF  (m:Nat):Sp:=fun vs H Q _=>hU m vs H Q
theorem iR (T:Tx K mg)(q:br CX)(F:aT K "leaves_below" "leaves_below" fE f fd .none)(b:cL K fd ["tree","code"] [])(m:mg "leaves_below" = some (.ref f)):
  ∀ n,bd P w K mg base CX (1 + n) f fd ["tree","code"] (eF n)
 | 0=>by
  refine F.ok cZ (fun vs H Q E h =>?_) (fun cdv A outer s H vs Q E hr h =>?_)
  ·obtain⟨_,_,_,_,_,rfl,_⟩:=h;rfl
  obtain⟨_,_,_,_,_,_,_,_,_,_,_,h,_⟩:=h;exact absurd h (Jr _)
 | m' + 1=>by
  have C_leaves_below:Fok P w K mg base CX (1 + m') "leaves_below" ["tree","code"] [] (eF m'):=fok F (iR T q F b m m') b m
  refine F.ok cZ (fun vs H Q E h =>?_) (fun cdv A outer s H vs Q E hr h =>?_)
  ·obtain⟨_,_,_,_,_,rfl,_⟩:=h;rfl
  obtain⟨v,t,z,k,n,rfl,ht,gt,hz,hl,hn,hk,hm,hc,q'⟩:=h;refine⟨_,(ac (aR (ck (bS (aw (bq "tuple") rfl T.b_isinstance au (aa (pv 0) (aa (cQ T.b_tuple eA) af))))) (ag (av (bh (ay (aL (ay (pv 1) (ay (pv 0) aA))) aA)))) aE) (ac (aq (i:=2) cZ (bh aA)) (ac (bg Hd rfl (bT rfl T.b_range (aa ae af)) (bj (i:=3) cZ) (ag (bz (kF PySem.F.plainAttrs_list PySem.F.slot_list_extend PySem.F.type_list_extend jF (pv 2) (aa (ai C_leaves_below q hr (aa (aB aF (pv 0) (pv 3)) (aa (ak cG (pv 1) (bA kY rfl T.b_str ww (aa (pv 3) af))) af)) (hj:=by first | decide | simp | (simp only[Jq];lia))) af))))) (ag (av (pv 2)))))),?_⟩
  cases ht with
  | col i =>
   have g':0≤i∧i≤35:=by cases k<;>exact gt
   refine⟨_,_,_,rfl,.int _,kh,ap (fR ?_)⟩;refine⟨(leZ rfl),nw fun p H1 hp s1 u1 =>?_⟩;refine⟨(leZ rfl),fun l hl1 =>?_⟩;have s2:=am.new hl1 (.lst [.ref p]);exact q' l _ _ (s1.trans s2) (am.free s1 hl1) ah (.cons ⟨p,z,rfl,s2 _ _ u1,hz,rfl,by lia,g'⟩ .nil)
  | @four p xa xb xc xd ta tb tc td e ja jb jc jd =>
   rcases k with _|k
   ·exact gt.elim
   obtain⟨ga,gb,gc,gd,ho⟩:=gt;have hc':cnt ta + cnt tb + cnt tc + cnt td≤4000:=hc;refine⟨_,_,_,rfl,.tup e,kg,ap (cH ?_)⟩;refine⟨(leZ rfl),nw fun l H1 hl1 s1 u1 =>?_⟩;obtain⟨ps,eps⟩:∃ ps:List (List (List Nat × Int)),ps=[lvs (dig z++[0]) ta,lvs (dig z++[1]) tb,lvs (dig z++[2]) tc,lvs (dig z++[3]) td]:=⟨_,rfl⟩;have lps:ps.length=4:=by rw[eps];rfl
   have tot:ps.flatten.length≤4000:=by
    rw[eps];simp only[Ir,List.flatten_nil,Hw,GE,fi]
    lia
   refine⟨4,rfl,by decide,by decide,bV (fun j σ H2=>am H H2∧∃ (us:List V) (o3:Option V),H2 l=some (.lst us)∧j≤4∧dD H2 n us (ps.take j).flatten∧σ=[some (.ref p),some (.str z),some (.ref l),o3]) ⟨s1,[],none,u1,by decide,.nil,rfl⟩ ?_ ?_⟩
   ·rintro j σ H2 hj ⟨s2,us,o3,u2,hj4,hus,rfl⟩;have hj4:j < 4:=hj;rw[show (0:Int) + (j:Int)=(j:Int) from Jf _];have key:∃ x t',atI [xa,xb,xc,xd] (j:Int)=some x∧bu H x t'∧aP k t'∧cnt t'≤4000∧ps[j]? = some (lvs (dig z++[j]) t'):=by
     rw[eps];rcases j with _ | _ | _ | _ | j
     ·exact⟨xa,ta,rfl,ja,ga,by lia,rfl⟩
     ·exact⟨xb,tb,rfl,jb,gb,by lia,rfl⟩
     ·exact⟨xc,tc,rfl,jc,gc,by lia,rfl⟩
     ·exact⟨xd,td,rfl,jd,gd,by lia,rfl⟩
     ·lia
    obtain⟨x,t',k1,k2,k3,k4,k5⟩:=key;have l1:(one j).length=1:=rfl;refine⟨.inl ⟨rfl,_,SqL.of u2⟩,p,_,_,x,rfl,rfl,SqT.of (s2 _ _ e),k1,(j:Int),rfl,v0 j hj4,?_⟩;rw[wL hj4];refine⟨_,_,rfl,rfl,(by rw[l1];exact small (by lia)),x,t',z++one j,k,n,rfl,k2.up s2.tups,k3,IsC.app hz (IsC.one hj4),by rw[iF,l1];lia,hn,by lia,by lia,k4,fun l2 us2 H3 s3 hl2 u3 hus2 =>?_⟩;rw[kW,sx]at hus2;have u2':=s3 _ _ u2;have et:(ps.take (j + 1)).flatten=(ps.take j).flatten++lvs (dig z++[j]) t':=by rw[G_,k5,IM];simp
    have n1:=hus.len;have n2:=hus2.len;have n3:(ps.take j).flatten.length≤ps.flatten.length:=by
     conv=>rhs;rw[← Hi j ps,IM,GE]
     simp
    have n4:=fi t' (dig z++[j]);have tl:=bO.lst (ys:=us++us2) u2';refine⟨l,l2,us,us2,rfl,rfl,u2',u3,big (by lia),am.set (s2.trans s3) hl1 _,us++us2,_,ah,hj4,?_,rfl⟩;rw[et];exact (hus.up (s3.tups.trans tl)).app (hus2.up tl)
   ·rintro σ H2 ⟨s2,us,o3,u2,hj4,hus,rfl⟩;have e4:(ps.take 4).flatten=lvs (dig z) (.four ta tb tc td):=by
     rw[GV (by lia),eps];simp[lvs]
    have hus':dD H2 n us (ps.take 4).flatten:=hus;rw[e4]at hus';exact (q' l us H2 s2 hl1 u2 hus')
abbrev om:Stmt:=top 36
theorem yh:az ["sheet"] ["sheet"] (aj om):={}
inductive pW  (vs:List V)(H:Hp)(Q:VK):Prop
 | mk (v:V) (t:Tr) (n:Nat) (h_0:vs=[v]) (h_1:EW H v n t) (h_2:aP n t) (h_3:n≤40) (h_4:cnt t≤4000) (h_5:∀ l us H',am H H'→H l=none→H' l=some (.lst us)→dD H' n us (lvs [] t)→Q (.ref l) H'):pW  vs H Q
def jz:Sp:=fun vs H Q _=>pW  vs H Q
theorem yH (T:Tx K mg)(q:br CX)(F:aT K "leaves" "leaves" om f fd .none)(C_leaves_below:Fok P w K mg base CX 42 "leaves_below" ["tree","code"] [] (eF 41)):bd P w K mg base CX 43 f fd ["sheet"] jz:=by
 refine F.ok yh (fun vs H Q E h =>?_) (fun cdv A outer s H vs Q E hr h =>?_)
 ·obtain⟨_,_,_,rfl,_⟩:=h;rfl
 obtain⟨v,t,n,rfl,⟨p,x,rfl,hp,hx⟩,gt,hn,hc,q'⟩:=h;refine⟨_,(ag (av (ai C_leaves_below q hr (aa (aB aF (pv 0) ae) (aa cm af))))),?_⟩;refine⟨p,_,_,_,rfl,rfl,SqT.of hp,rfl,x,t,("" : Str),n,n,rfl,hx,gt,gX▸IsC.nil,by rw[show ("" : Str).length=0 by decide +kernel];simp,hn,by lia,by decide,hc,fun l us H' s' hl u' hus =>?_⟩
 rw[(show dig ("" : Str)=[] by decide +kernel)]at hus
 exact q' l us H' s' hl u' hus
abbrev lC:Stmt:=top 41
theorem fA:az ["sheet","told","code","colour","side"] ["sheet"] (aj lC):={}
inductive mL  (vs:List V)(H:Hp)(Q:VK):Prop
 | mk (ps:Addr) (n:Nat) (v:V) (t:Tr) (h_0:vs=[.ref ps]) (h_1:H ps=some (.tup [.int (n:Int),v])) (h_2:bu H v t) (h_3:aP n t) (h_4:n≤40) (h_5:cnt t≤1500) (h_6:∀ l us H',am H H'→H l=none→H' l=some (.lst us)→dC H' us (iD (sqs [] t 0 0 n))→Q (.ref l) H'):mL  vs H Q
def n_:Sp:=fun vs H Q _=>mL  vs H Q
theorem vR (T:Tx K mg)(Y:Yx K mg)(q:br (CXe P w))(F:aT K "touches" "touches" lC f fd .none)(C_leaves:Fok P w K mg base (CXe P w) 43 "leaves" ["sheet"] [] jz)(C_beyond_leaf:Fok P w K mg base (CXe P w) 43 "beyond_leaf" ["sheet","code","side"] [] (fw Y)):
  bd P w K mg base (CXe P w) 44 f fd ["sheet"] n_:=by
 refine F.ok fA (fun vs H Q E h =>?_) (fun cdv A outer s H vs Q E hr h =>?_)
 ·obtain⟨_,_,_,_,rfl,_⟩:=h;rfl
 obtain⟨ps,n,v,t,rfl,hps,ht,gt,hn,hc,q'⟩:=h;refine⟨_,(ac (aq (i:=1) fA (bh aA)) (ac (bg Hd rfl (cO (ai C_leaves q hr (aa (pv 0) af))) (j8 rfl (bw (rK (i:=2) fA.nd rfl (Or.inr rfl)) (bw (bj (i:=3) fA) iw))) (ag (bg Hd rfl (vM (aL (ay cm (ay cm aA)))) (bj (i:=4) fA) (ag (bz (kF PySem.F.plainAttrs_list PySem.F.slot_list_extend PySem.F.type_list_extend jF (pv 1) (aa (oG (N':=["other","code"]) ["code"] ["code"] [2] 1 {} (cO (ai C_beyond_leaf q hr (aa (pv 0) (aa (pv 2) (aa (pv 4) af))))) (fun _ _ _ _ _=>(tN (i:=0))) (fun _ _ _ _ _=>(aL (ay (pv 1) (ay (pv 0) aA))))) af))))))) (ag (av (aw (wt rfl) rfl T.b_sorted mh (aa (pv 1) af)))))),?_⟩
 refine⟨(leZ rfl),nw fun lt H1 hlt s1 u1 =>?_⟩;refine⟨.ref ps,t,n,rfl,⟨ps,v,rfl,s1 _ _ hps,ht.up s1.tups⟩,gt,hn,by lia,fun l us H2 s2 hl u2 hus =>?_⟩;have ll:=hus.len;have hld:l≠lt:=fun z=>by rw[z,u1]at hl;cases hl
 obtain⟨L,eL⟩:∃ L,L=sqs [] t 0 0 n:=⟨_,rfl⟩;have lc:L.length=cnt t:=by rw[eL];exact b_ t [] 0 0 n
 have eS:lvs [] t=L.map fun q=>(q.z,q.c):=by rw[eL];exact iC t [] 0 0 n
 rw[← eL]at q';rw[eS]at hus ll;rw[Gy]at ll;refine⟨l,rfl,⟨_,SqL.of u2⟩,cI (xs:=us) (fun i σ H3=>am H H3∧(∀ b o,b≠lt→H2 b=some o→H3 b=some o)∧(∃ ts,H3 lt=some (.lst ts)∧dC H3 ts ((L.take i).flatMap (gg L))∧ts.length≤i * 3000∧i≤us.length)∧∃ o2 o3 o4:Option V,σ=[some (.ref ps),some (.ref lt),o2,o3,o4]) ⟨s1.trans s2,fun _ _ _ e=>e,⟨[],s2 _ _ u1,.nil,by simp,GF _⟩,none,none,none,rfl⟩ (fun i σ H3 _ h=>SqL.of (h.2.1 _ _ hld u2)) ?_ ?_⟩
 ·rintro i u σ H3 hu ⟨s3,k3,⟨ts,ut,hts,tl,hi⟩,o2,o3,o4,rfl⟩;obtain⟨hiu,_⟩:=Gz.mp hu;obtain⟨pq,eq,r,z,rfl,hr',hz,ez,lz,hcc⟩:=hus.get hu;rw[Ha]at eq;obtain⟨sq,esq,epq⟩:=He.mp eq;have ok1:ni sq [] t 0 0 n:=eE t [] 0 0 n gt sq (by rw[← eL];exact GW esq);have hrd:r≠lt:=fun q=>by rw[q,s2 _ _ u1]at hr';cases hr'
  have esz:dig z=sq.z:=by rw[ez,← epq]
  have ezt:txt sq.z=z:=by rw[← esz,nq hz]
  have eT:(L.take (i + 1)).flatMap (gg L)=(L.take i).flatMap (gg L)++gg L sq:=by
   rw[G_,esq,Ib];simp
  refine⟨r,_,rfl,SqT.of (k3 _ _ hrd hr'),rfl,_,_,rfl,_,_,rfl,rfl,?_⟩;refine⟨(leZ rfl),fun pt hpt =>?_⟩;generalize e4:upd H3 pt _=H4;have s4:am H3 H4:=e4▸am.new hpt _;have w4:H4 pt=some (.tup [.str "right",.str "down"]):=by rw[← e4];exact ah
  have hptd:pt≠lt:=fun q=>by rw[q,ut]at hpt;cases hpt
  refine⟨pt,rfl,⟨_,SqT.of w4⟩,nN (xs:=[.str "right",.str "down"]) (fun j σ H5=>am H H5∧(∀ b o,b≠lt→H4 b=some o→H5 b=some o)∧(∃ ts,H5 lt=some (.lst ts)∧dC H5 ts ((L.take i).flatMap (gg L)++(List.range j).flatMap (mS L sq))∧ts.length≤i * 3000 + j * 1500∧j≤2)∧∃ o4:Option V,σ=[some (.ref ps),some (.ref lt),some (.str z),some (.int pq.2),o4]) ⟨s3.trans s4,fun _ _ _ e=>e,⟨ts,s4 _ _ ut,by rw[show (List.range 0).flatMap (mS L sq)=[] from rfl,Hw];exact hts.up s4.tups,by omega,by decide⟩,_,rfl⟩ (fun j σ H5 _ h=>SqT.of (h.2.1 _ _ hptd w4)) ?_ ?_⟩
  ·rintro j x σ H5 hx ⟨s5,k5,⟨ts5,ut5,hts5,tl5,hj⟩,o4,rfl⟩;obtain⟨hj2,side,b1,b2,dx,dy,rfl,hd,e2,ex,ey⟩:=B_ hx;have hps5:=s5 _ _ hps;have ht5:=ht.up s5.tups;refine⟨.inl ⟨rfl,_,SqL.of ut5⟩,[.str z],rfl,ps,n,v,.str side,t,z,rfl,hps5,ht5,gt,hn,by lia,hz,by lia,ezt▸BJ (K:=K) gt ok1 hd e2 ex ey fun lb H6 s6 hlb u6 =>?_⟩;obtain⟨zs,ezs⟩:∃ zs,zs=fl (dZ (decide (j=1)) false sq) [] t 0 0 n:=⟨_,rfl⟩;rw[← ezs]at u6;have ep:zs.map (fun o=>(sq.z,o))=mS L sq j:=by
    rw[ezs,l9,Hj,← eL];rfl
   have lzs:zs.length≤1500:=by
    have h1:=Hn List.length ep;rw[Gy]at h1;have h2:=tT L sq j
    lia
   refine⟨lb,rfl,⟨_,SqL.of u6⟩,pL (zs.map sV) (fun D (k:Nat) ys H'=>am H6 H'∧H' D=some (.lst ys)∧k≤zs.length∧dC H' ys ((zs.take k).map fun o=>(sq.z,o))) (by rw[Gy];exact big (by lia)) (fun D k ys H' h=>SqL.of (h.1 _ _ u6))
    (fun D k ys H' h=>⟨h.2.1,by rw[h.2.2.2.len,Gy,Ht];lia⟩) (fun D hD=>⟨am.new hD _,ah,GF _,.nil⟩) ?_ ?_ (fun _ _ _ _ _ k h=>k _ _ h) ?_⟩
   ·rintro D k y ys H7 hy hD ⟨c1,c2,c3,c4⟩;rw[Ha]at hy;obtain⟨o,eo,rfl⟩:=He.mp hy;refine⟨rfl,(leZ rfl),fun pn hpn =>?_⟩;generalize e8:upd H7 pn _=H8;have s8:am H7 H8:=e8▸am.new hpn _;have w8:H8 pn=some (.tup [sV sq.z,sV o]):=by rw[← e8];exact ah
    have uD:=s8 _ _ c2;have tl8:=bO.lst (ys:=ys++[V.ref pn]) uD;refine⟨uD,am.set (c1.trans s8) hD _,ah,(Gz.mp eo).1,?_⟩;rw[G_,eo,G7];exact (c4.up (s8.tups.trans tl8)).app (.cons ⟨pn,rfl,tl8 _ _ w8⟩ .nil)
   ·rintro D ys H7 hD ⟨c1,c2,c3,c4⟩;rw[Gy,Ig,ep]at c4;have ut7:=(s6.trans c1) _ _ ut5;have tl7:=bO.lst (ys:=ts5++ys) ut7;have n1:=c4.len;have n2:=tT L sq j;refine⟨lt,D,ts5,ys,rfl,rfl,ut7,c2,Gj (by lia),am.set (s5.trans (s6.trans c1)) hlt _,fun b o hb e=>by rw[aD hb];exact (s6.trans c1) _ _ (k5 b o hb e),⟨ts5++ys,ah,?_,by rw[GE];lia,by assumption⟩,_,rfl⟩;rw[yD,← GT];exact (hts5.up ((s6.trans c1).tups.trans tl7)).app (c4.up tl7)
   ·intro σ H7 R R' k h_;obtain⟨_,g1,h_⟩:=ce h_;obtain⟨_,g2,h_⟩:=ce h_;obtain⟨h3,h4⟩:=h_;exact (cX g1 (cX g2 ⟨h3,fun p hp=>k _ _ (h4 p hp)⟩))
  ·rintro σ H5 ⟨s5,k5,⟨ts5,ut5,hts5,tl5,hj⟩,o4,rfl⟩;have hts5':dC H5 ts5 ((L.take i).flatMap (gg L)++(List.range 2).flatMap (mS L sq)):=hts5;rw[Av,← eT]at hts5';have tl5':ts5.length≤i * 3000 + 2 * 1500:=tl5;exact⟨s5,fun b o hb e=>k5 b o hb (s4 _ _ (k3 b o hb e)),⟨ts5,ut5,hts5',by lia,by assumption⟩,_,_,_,rfl⟩
 ·rintro σ H3 ⟨s3,k3,⟨ts,ut,hts,tl,hi⟩,o2,o3,o4,rfl⟩;rw[GV (by lia)]at hts;obtain⟨as,e1,e2,e3⟩:=tM hts;subst e1;have hPr:Prs H3 true as:=fun b hb=>by
   obtain⟨d,hd⟩:=e3 b hb;exact⟨_,_,hd,_,rfl⟩
  refine⟨lt,true,as,rfl,SqL.of ut,hPr,fun S as' hS pm pw =>?_⟩;have tS:=(am.new hS (.lst (as'.map V.ref))).tups;have bf:L.Pairwise dP:=eL▸cM t [] 0 0 n gt;have hw:∀ q∈L,0 < q.w:=fun q hq=>(dk t [] 0 0 n gt q (eL▸hq)).2.2.2.2;have tp:=qt L [] bf hw;exact q' S _ _ (s3.trans (am.new hS _)) (am.free s3 hS) ah ((vq e2 e3 pm pw tp (pF bf)).up tS)
end
theorem sY {a b:List Nat}(h:txt a=txt b):a=b:=by
 have:=Hn dig h
 rwa [fe,fe]at this
abbrev ky (z:List Nat):Key:=Sum.inr (txt z)
theorem l8 {a b:List Nat}(h:ky a=ky b):a=b:=sY (Sum.inr.inj h)
theorem nY {kvs:List (Key × V)}{k:Key}{v:V}:(kvs.map (·.1)).Nodup→(k,v)∈kvs→bD kvs k=some v:=by
 induction kvs with
 | nil=>intro _ h;cases h
 | cons p r ih =>
  intro nd h;rw[GX,HN]at nd;rcases GU.mp h with rfl | h
  ·exact bP rfl
  ·rw[bM fun e=>nd.1 (e▸GC.mpr ⟨_,h,rfl⟩)];exact ih nd.2 h
def bN (L:List Sq):List (Key × V):=L.map fun q=>(ky q.z,V.int q.c)
theorem wD {L:List Sq}(h:L.Pairwise dP):(L.map (·.z)).Nodup:=by
 unfold List.Nodup;rw[Hg];exact h.imp fun h e=>absurd (e▸h.2) (HM _)
theorem kj {L:List Sq}(h:L.Pairwise dP):((bN L).map (·.1)).Nodup:=by
 unfold bN;rw[Hj];have h2:=wD h;unfold List.Nodup at *;rw[Hg]at *;exact h2.imp fun h e=>h (l8 e)
theorem bW {L:List Sq}(h:L.Pairwise dP){q:Sq}(hq:q∈L):bD (bN L) (ky q.z)=some (V.int q.c):=nY (kj h) (GC.mpr ⟨q,hq,rfl⟩)
theorem E4 {L:List Sq}(h:L.Pairwise dP){q r:Sq}(hq:q∈L)(hr:r∈L)(e:q.z=r.z):q=r:=by
 induction L with
 | nil=>cases hq
 | cons p L ih =>
  obtain⟨h1,h2⟩:=HY.mp h;rcases GU.mp hq with eq|hq2
  ·rcases GU.mp hr with er|hr2
   ·rw[eq,er]
   ·have:=(h1 r hr2).2
    rw[← eq,e]at this;exact absurd this (HM _)
  ·rcases GU.mp hr with er|hr2
   ·have:=(h1 q hq2).2
    rw[← er,e]at this;exact absurd this (HM _)
   ·exact ih h2 hq2 hr2
theorem l_:∀ {L:List Sq} {d:Pr},d∈iD L→∃ q∈L,∃ r∈L,d=(q.z,r.z)∧cA q r=true
 | [],d,h=>by cases h
 | q::L,d,h=>by
  rcases GS.mp h with h|h
  ·obtain⟨r,hr,rfl⟩:=GC.mp h;obtain⟨h1,h2⟩:=Hq.mp hr;exact⟨q,GO,r,GG _ h1,rfl,h2⟩
  ·obtain⟨q',hq,r,hr,e,ht⟩:=l_ h;exact⟨q',GG _ hq,r,GG _ hr,e,ht⟩
theorem kU:∀ {L:List Sq} {i j:Nat} {q r:Sq},L[i]? = some q→L[j]? = some r→i < j→cA q r=true→(q.z,r.z)∈iD L
 | [],_,_,_,_,h,_,_,_=>by simp at h
 | p::L,0,j + 1,q,r,h1,h2,_,ht=>by
  have e:p=q:=by simpa using h1
  subst e;refine Hv _ (GC.mpr ⟨r,Hq.mpr ⟨GW (by simpa using h2),ht⟩,rfl⟩)
 | p::L,i + 1,j + 1,q,r,h1,h2,hij,ht=>GZ _ (kU (i:=i) (j:=j) (by simpa using h1) (by simpa using h2) (by lia) ht)
 | p::L,_ + 1,0,_,_,_,_,h,_=>by lia
 | p::L,0,0,_,_,_,_,h,_=>by lia
theorem lV {H:Hp}{n:Nat}:∀ {us:List V} {M:List (List Nat × Int)},dD H n us M→∃ as:List Addr,us=as.map V.ref∧jK H as (M.map fun p=>(ky p.1,V.int p.2))
 | _,_,.nil=>⟨[],rfl,.nil⟩
 | _,_,.cons h t=>by
  obtain⟨as,e,k⟩:=lV t;obtain⟨r,z,rfl,hr,hz,ez,lz,hc⟩:=h;refine⟨r::as,by rw[e];rfl,.cons ?_ k⟩;show H r=some (.tup [.str (txt _),.int _]);rw[← ez,nq hz];exact hr
structure Aro (H:Hp)(d:Addr)(zs:List (List Nat))(lo:List Nat→Addr)(A:List Nat→List (List Nat)):Prop where
 ex:∃ kvs,H d=some (.dK kvs)∧kvs.length≤zs.length∧(∀ z∈zs,bD kvs (ky z)=some (.ref (lo z)))∧∀ z,z∉zs→bD kvs (ky z)=none
 at_:∀ z∈zs,H (lo z)=some (.lst ((A z).map sV))
 inj:∀ z∈zs,∀ y∈zs,lo z=lo y→z=y
theorem Aro.ne {H:Hp}{d:Addr}{zs:List (List Nat)}{lo:List Nat→Addr}{A:List Nat→List (List Nat)}(h:Aro H d zs lo A){z:List Nat}(hz:z∈zs):lo z≠d:=fun e=>by
 obtain⟨kvs,h1,_⟩:=h.ex;have h2:=h.at_ z hz
 rw[e,h1]at h2;cases h2
theorem Aro.up {H H':Hp}{d:Addr}{zs:List (List Nat)}{lo:List Nat→Addr}{A:List Nat→List (List Nat)}(h:Aro H d zs lo A)(s:am H H'):Aro H' d zs lo A:=by
 obtain⟨kvs,h1,h2,h3,h4⟩:=h.ex;exact⟨⟨kvs,s _ _ h1,h2,h3,h4⟩,fun z hz=>s _ _ (h.at_ z hz),h.inj⟩
theorem Aro.get {H:Hp}{d:Addr}{zs:List (List Nat)}{lo:List Nat→Addr}{A:List Nat→List (List Nat)}(h:Aro H d zs lo A){z:List Nat}(hz:z∈zs):km H d (sV z) (some (.ref (lo z))):=by
 obtain⟨kvs,h1,_,h2,_⟩:=h.ex;rw[← h2 z hz];exact km.k (k:=ky z) h1
def pT (A:List Nat→List (List Nat))(a b:List Nat):List Nat→List (List Nat):=fun z=>if z=a then A z++[b] else A z
theorem Aro.add {H:Hp}{d:Addr}{zs:List (List Nat)}{lo:List Nat→Addr}{A:List Nat→List (List Nat)}(h:Aro H d zs lo A){a:List Nat}(ha:a∈zs)(b:List Nat):Aro (upd H (lo a) (.lst ((A a).map sV++[sV b]))) d zs lo (pT A a b):=by
 obtain⟨kvs,h1,h2,h3,h4⟩:=h.ex;refine⟨⟨kvs,by rw[aD (Ne.symm (h.ne ha))];exact h1,h2,h3,h4⟩,fun z hz =>?_,h.inj⟩;unfold pT;by_cases e:z=a
 ·subst e;rw[ah,if_pos rfl,G7];rfl
 ·rw[aD fun q=>e (h.inj z hz a ha q),if_neg e];exact h.at_ z hz
theorem Aro.new {H:Hp}{d:Addr}{zs:List (List Nat)}{lo:List Nat→Addr}(h:Aro H d zs lo (fun _=>[])){kvs:List (Key × V)}(hd:H d=some (.dK kvs)){z:List Nat}{l:Addr}(hz:z∉zs)(hl:H l=some (.lst []))(hn:∀ y∈zs,lo y≠l):
  Aro (upd H d (.dK (dr kvs (ky z) (.ref l)))) d (zs++[z]) (fun y=>if y=z then l else lo y) (fun _=>[]):=by
 obtain⟨kvs0,h1,h2,h3,h4⟩:=h.ex;have e:kvs0=kvs:=by
  rw[hd]at h1;injection h1 with h1;injection h1 with h1;exact h1.symm
 subst e;have hld:l≠d:=fun q=>by rw[q,hd]at hl;cases hl
 have inz:∀ y∈zs,y≠z:=fun y hy q=>hz (q▸hy);refine⟨⟨_,ah,?_,fun y hy =>?_,fun y hy =>?_⟩,fun y hy =>?_,fun y hy x hx q =>?_⟩
 ·have:=d8 kvs0 (ky z) (.ref l)
  rw[GE,Hu]
  lia
 ·rw[nX];by_cases q:y=z
  ·rw[if_pos (by rw[q]),if_pos q]
  ·rw[if_neg fun c=>q (l8 c),if_neg q];rcases GS.mp hy with hy | hy
   ·exact h3 y hy
   ·exact absurd (GI.mp hy) q
 ·rw[nX,if_neg fun c=>hy (by rw[l8 c];simp)];exact h4 y fun c=>hy (Hv _ c)
 ·show upd _ _ _ (if y=z then l else lo y)=_;by_cases q:y=z
  ·rw[if_pos q,aD hld];exact hl
  ·rw[if_neg q];have hy':y∈zs:=(GS.mp hy).elim id fun c=>absurd (GI.mp c) q;rw[aD (h.ne hy')];exact h.at_ y hy'
 ·by_cases q1:y=z<;>by_cases q2:x=z
  ·rw[q1,q2]
  ·have hx':x∈zs:=(GS.mp hx).elim id fun c=>absurd (GI.mp c) q2;have q':l=lo x:=by simpa[q1,q2] using q
   exact absurd q'.symm (hn x hx')
  ·have hy':y∈zs:=(GS.mp hy).elim id fun c=>absurd (GI.mp c) q1;have q':lo y=l:=by simpa[q1,q2] using q
   exact absurd q' (hn y hy')
  ·have hx':x∈zs:=(GS.mp hx).elim id fun c=>absurd (GI.mp c) q2;have hy':y∈zs:=(GS.mp hy).elim id fun c=>absurd (GI.mp c) q1;exact h.inj y hy' x hx' (by simpa[q1,q2] using q)
def eJ (kvs:List (Key × V))(d:Pr):Bool:=decide (bD kvs (ky d.1)=bD kvs (ky d.2))
def gJ (B:Pr→Bool)(A:List Nat→List (List Nat))(d:Pr):List Nat→List (List Nat):=if B d=true then pT (pT A d.1 d.2) d.2 d.1 else A
def jp (B:Pr→Bool)(D:List Pr):List Nat→List (List Nat):=D.foldl (gJ B) fun _=>[]
theorem j9 (B:Pr→Bool)(D:List Pr)(d:Pr):jp B (D++[d])=gJ B (jp B D) d:=by
 unfold jp;rw[II];rfl
def zo (B:Pr→Bool)(D:List Pr)(z z':List Nat):Prop:=∃ d∈D,B d=true∧((z=d.1∧z'=d.2)∨(z=d.2∧z'=d.1))
theorem oV {A:List Nat→List (List Nat)}{a b z z':List Nat}:z'∈pT A a b z↔z'∈A z∨(z=a∧z'=b):=by
 unfold pT;by_cases e:z=a
 ·rw[if_pos e,GS,GI];simp[e]
 ·rw[if_neg e];simp[e]
theorem lY {B:Pr→Bool}{A:List Nat→List (List Nat)}{d:Pr}{z z':List Nat}:z'∈gJ B A d z↔z'∈A z∨(B d=true∧((z=d.1∧z'=d.2)∨(z=d.2∧z'=d.1))):=by
 unfold gJ;by_cases h:B d=true
 ·rw[if_pos h,oV,oV];simp[h,or_assoc]
 ·rw[if_neg h];simp[h]
theorem qC (B:Pr→Bool):∀ (D:List Pr) (A:List Nat→List (List Nat)) (z z':List Nat),z'∈D.foldl (gJ B) A z↔z'∈A z∨zo B D z z'
 | [],A,z,z'=>by
  unfold zo;simp
 | d::D,A,z,z'=>by
  rw[IT,qC B D,lY];unfold zo;simp only[GU,exists_eq_or_imp,or_assoc]
theorem vY (B:Pr→Bool)(D:List Pr)(z z':List Nat):z'∈jp B D z↔zo B D z z':=by
 unfold jp;rw[qC];simp
theorem xH:∀ {L:List Sq} {d:Pr},L.Pairwise dP→d∈iD L→d.1 < d.2
 | [],_,_,h=>by cases h
 | q::L,d,hB,h=>by
  obtain⟨h1,h2⟩:=HY.mp hB;rcases GS.mp h with h|h
  ·obtain⟨r,hr,rfl⟩:=GC.mp h;exact (h1 r (Hq.mp hr).1).2
  ·exact xH h2 h
theorem qD {A:List Nat→List (List Nat)}{a b z:List Nat}(h:(A z).Nodup)(hn:b∉A a):(pT A a b z).Nodup:=by
 unfold pT
 split
 ·rename_i e
  rw[Iq];refine⟨h,by simp,fun x hx y hy e2=>hn ?_⟩;rw[← e,← GI.mp hy,← e2];exact hx
 ·exact h
theorem pA (B:Pr→Bool):∀ {D:List Pr} {A:List Nat→List (List Nat)},D.Pairwise BQ→(∀ d∈D,d.1 < d.2)→(∀ d∈D,d.2∉A d.1∧d.1∉A d.2)→(∀ z,(A z).Nodup)→∀ z,(D.foldl (gJ B) A z).Nodup
 | [],_,_,_,_,h,z=>h z
 | d::D,A,hp,hl,hn,h,z=>by
  obtain⟨h1,h2⟩:=HY.mp hp;have dl:=hl d GO;obtain⟨n1,n2⟩:=hn d GO;have asym:∀ {a b:List Nat},a < b→b < a→False:=fun h k=>HM _ (List.lt_trans h k);refine pA B (D:=D) (A:=gJ B A d) h2 (fun e he=>hl e (GG _ he)) (fun e he =>?_) (fun y =>?_) z
  ·obtain⟨m1,m2⟩:=hn e (GG _ he);have el:=hl e (GG _ he);have ne:¬ (e.1=d.1∧e.2=d.2):=fun⟨x,y⟩=>by
    rcases h1 e he with c|⟨_,c⟩
    ·rw[x]at c;exact HM _ c
    ·rw[y]at c;exact HM _ c
   rw[lY,lY];refine⟨fun c =>?_,fun c =>?_⟩
   ·rcases c with c|⟨_,c|c⟩
    ·exact m1 c
    ·exact ne c
    ·rw[c.1,c.2]at el;exact asym el dl
   ·rcases c with c|⟨_,c|c⟩
    ·exact m2 c
    ·rw[c.1,c.2]at el;exact asym el dl
    ·exact ne ⟨c.2,c.1⟩
  ·unfold gJ
   split
   ·refine qD (qD (h y) n1) fun c =>?_;rcases oV.mp c with c | c
    ·exact n2 c
    ·rw[c.1]at dl;exact HM _ dl
   ·exact h y
theorem t_ (B:Pr→Bool){D:List Pr}(hp:D.Pairwise BQ)(hl:∀ d∈D,d.1 < d.2)(z:List Nat):(jp B D z).Nodup :=
 pA B hp hl (fun _ _=>⟨by simp,by simp⟩) (fun _=>by simp) z
theorem pS (A:List Nat→List (List Nat))(a b z:List Nat):(pT A a b z).length≤(A z).length + 1:=by
 unfold pT
 split
 ·rw[GE,Hu];simp
 ·simp
theorem ya (B:Pr→Bool)(A:List Nat→List (List Nat))(d:Pr)(z:List Nat):(gJ B A d z).length≤(A z).length + 2:=by
 unfold gJ
 split
 ·have h1:=pS (pT A d.1 d.2) d.2 d.1 z;have h2:=pS A d.1 d.2 z
  lia
 ·simp
section
variable {P:Program}{w:World}{K:PySem.W.Frag}{mg:Str→Option Value}{base:Heap}{CX:CXT}{f:Addr}{fd:FuncData}
abbrev fJ:Stmt:=top 43
theorem bK:az ["sheet","colours","around","code","other"] ["sheet"] (aj fJ):={}
inductive ii  (vs:List V)(H:Hp)(Q:VK):Prop
 | mk (ps:Addr) (n:Nat) (v:V) (t:Tr) (h_0:vs=[.ref ps]) (h_1:H ps=some (.tup [.int (n:Int),v])) (h_2:bu H v t) (h_3:aP n t) (h_4:n≤40) (h_5:cnt t≤1500) (h_6:∀ d lo A H',am H H'→H d=none→Aro H' d ((sqs [] t 0 0 n).map (·.z)) lo A→(∀ z,(A z).length≤4500000)→(∀ z z',z'∈A z↔zo (eJ (bN (sqs [] t 0 0 n))) (iD (sqs [] t 0 0 n)) z z')→(∀ z,(A z).Nodup)→Q (.ref d) H'):ii  vs H Q
def cg:Sp:=fun vs H Q _=>ii  vs H Q
theorem mZ (T:Tx K mg)(q:br (CXe P w))(F:aT K "alike_around" "alike_around" fJ f fd .none)(C_leaves:Fok P w K mg base (CXe P w) 43 "leaves" ["sheet"] [] jz)(C_touches:Fok P w K mg base (CXe P w) 44 "touches" ["sheet"] [] n_):
  bd P w K mg base (CXe P w) 45 f fd ["sheet"] cg:=by
 refine F.ok bK (fun vs H Q E h =>?_) (fun cdv A outer s H vs Q E hr h =>?_)
 ·obtain⟨_,_,_,_,rfl,_⟩:=h;rfl
 obtain⟨ps,n,v,t,rfl,hps,ht,gt,hn,hc,q'⟩:=h;refine⟨_,(ac (aq (i:=1) bK (bA (kl rfl) rfl T.b_dict sL (aa (ai C_leaves q hr (aa (pv 0) af)) af))) (ac (aq (i:=2) bK tQ) (ac (bg Hd rfl (Ct (pv 1)) (bj (i:=3) bK) (ag (rF hr.dic (pv 2) (pv 3) (bh aA) (dS rfl)))) (ac (bg Hd rfl (cO (ai C_touches q hr (aa (pv 0) af))) (j8 rfl (bw (bj (i:=3) bK) (bw (bj (i:=4) bK) iw))) (ag (aR (aG dE (dQ hr.dic (pv 1) (pv 3) (fun _ _=>rfl)) (dQ hr.dic (pv 1) (pv 4) (fun _ _=>rfl))) (ac (bz (dL (dQ hr.dic (pv 2) (pv 3) (fun _ _=>rfl)) (aa (pv 4) af))) (ag (bz (dL (dQ hr.dic (pv 2) (pv 4) (fun _ _=>rfl)) (aa (pv 3) af))))) aE))) (ag (av (pv 2))))))),?_⟩;obtain⟨L,eL⟩:∃ L,L=sqs [] t 0 0 n:=⟨_,rfl⟩;have hB:L.Pairwise dP:=by rw[eL];exact cM t [] 0 0 n gt
 have lc:L.length=cnt t:=by rw[eL];exact b_ t [] 0 0 n
 have eS:lvs [] t=L.map fun q=>(q.z,q.c):=by rw[eL];exact iC t [] 0 0 n
 refine⟨.ref ps,t,n,rfl,⟨ps,v,rfl,hps,ht⟩,gt,hn,by lia,fun l us H1 s1 hl u1 hus =>?_⟩;rw[eS]at hus;obtain⟨as,eas,hpr⟩:=lV hus;have hpr':jK H1 as (bN L):=by
  unfold bN;rw[Hj]at hpr;exact hpr
 refine⟨l,as,bN L,rfl,SqL.of (by rw[u1,eas]),hpr',kj hB,nw fun dc H2 hdc s2 u2 =>?_⟩;refine fun da hda =>?_;have s3:=am.new hda (.dK []);have u3:upd H2 da (.dK []) da=some (.dK []):=ah;have u2':=s3 _ _ u2;generalize upd H2 da (.dK [])=H3 at *;have nda:H da=none:=(s1.trans s2).free hda;have ndc:H dc=none:=s1.free hdc;have hdd:dc≠da:=fun q=>by rw[q,hda]at u2;cases u2
 have cl:(bN L).length=L.length:=by unfold bN;rw[Gy]
 obtain⟨zs,ezs⟩:∃ zs,zs=L.map (·.z):=⟨_,rfl⟩;have zl:zs.length=L.length:=by rw[ezs,Gy]
 have znd:zs.Nodup:=by rw[ezs];exact wD hB
 rw[← eL,← ezs]at q';refine⟨dc,bN L,rfl,u2',fun ob=>Bk (fun (i:Nat) σ H4=>am H H4∧H4 dc=some (.frz ob (.dK (bN L)))∧(∃ lo,Aro H4 da (zs.take i) lo (fun _=>[])∧∀ z∈zs.take i,H (lo z)=none)∧∃ o3:Option V,σ=[some (.ref ps),some (.ref dc),some (.ref da),o3,none]) ?_ (fun i σ H _ h=>h.2.1) ?_ ?_⟩
 ·refine⟨am.set ((s1.trans s2).trans s3) ndc _,ah,⟨fun _=>0,⟨⟨[],?_,GB _,fun z hz =>?_,fun z _=>rfl⟩,fun z hz =>?_,fun z hz =>?_⟩,fun z hz =>?_⟩,none,rfl⟩
  ·rw[aD (Ne.symm hdd)];exact u3
  all_goals (rw[List.take_zero]at hz;cases hz)
 ·rintro i k v' σ H4 hk ⟨s4,f4,⟨lo,ar,nw⟩,o3,rfl⟩;unfold bN at hk;rw[Ha]at hk;obtain⟨sq,esq,e⟩:=He.mp hk;obtain rfl:k=ky sq.z:=(Hn Prod.fst e).symm;have ez:zs[i]? = some sq.z:=by rw[ezs,Ha,esq];rfl
  have et:zs.take (i + 1)=zs.take i++[sq.z]:=by rw[G_,ez];rfl
  have nz:sq.z∉zs.take i:=fun c=>by
   have h1:=Iq.mp (et▸(IZ (i + 1) zs).nodup znd);exact h1.2.2 _ c _ (GI.mpr rfl) rfl
  refine⟨(leZ rfl),fun l0 hl0 =>?_⟩;have s5:=am.new hl0 (.lst []);have u5:upd H4 l0 (.lst []) l0=some (.lst []):=ah;have nl:∀ y∈zs.take i,lo y≠l0:=fun y hy q=>by
   have:=ar.at_ y hy
   rw[q,hl0]at this;cases this
  generalize upd H4 l0 (.lst [])=H5 at *;have ar5:=ar.up s5;obtain⟨kvs,d5,len5,_⟩:=ar5.ex;have lt5:kvs.length≤1500:=by
   have:=List.length_take_le i zs
   have:=List.length_take_le' i zs
   lia
  refine⟨da,_,rfl,va.k (k:=ky sq.z) d5 (GK (by lia:kvs.length < 5000) (by decide)),?_⟩;refine⟨am.set (s4.trans s5) nda _,by rw[aD hdd];exact s5 _ _ f4,⟨fun y=>if y=sq.z then l0 else lo y,?_,fun z hz =>?_⟩,_,rfl⟩
  ·rw[et];exact ar5.new d5 nz u5 nl
  ·rw[et]at hz;by_cases q:z=sq.z
   ·show H (if z=sq.z then l0 else lo z)=none;rw[if_pos q];exact s4.free hl0
   ·show H (if z=sq.z then l0 else lo z)=none;rw[if_neg q];exact nw z ((GS.mp hz).elim id fun c=>absurd (GI.mp c) q)
 ·rintro σ H4 ⟨s4,f4,⟨lo,ar,nw⟩,o3,rfl⟩;rw[cl,← zl,Ig]at ar nw;refine⟨ps,n,v,t,rfl,s4 _ _ hps,ht.up s4.tups,gt,hn,hc,fun l2 us2 H5 s5 hl2 u5 hD=>⟨l2,rfl,⟨_,SqL.of u5⟩,?_⟩⟩;rw[← eL]at hD;have lD:=hD.len;have lD2:=uC L;have lq:L.length * L.length≤1500 * 1500:=Ja (by lia) (by lia);have ar5:=ar.up s5;have nl2:∀ z∈zs,lo z≠l2:=fun z hz q=>by
   have:=ar.at_ z hz
   rw[q,hl2]at this;cases this
  refine cI (xs:=us2) (fun (j:Nat) σ H6=>j≤us2.length∧am H H6∧(∀ b o,(∀ z∈zs,lo z≠b)→H5 b=some o→H6 b=some o)∧Aro H6 da zs lo (jp (eJ (bN L)) ((iD L).take j))∧(∀ z,(jp (eJ (bN L)) ((iD L).take j) z).length≤2 * j)∧∃ o3 o4:Option V,σ=[some (.ref ps),some (.ref dc),some (.ref da),o3,o4]) ⟨GF _,s4.trans s5,fun _ _ _ e=>e,ar5,fun z=>GB _,_,_,rfl⟩ (fun i σ H6 hi h=>SqL.of (h.2.2.1 _ _ nl2 u5)) ?_ ?_
  ·rintro j u σ H6 hu ⟨_,s6,k6,ar6,len6,o3,o4,rfl⟩;obtain⟨d,ed,p,rfl,hp⟩:=hD.get hu;obtain⟨hju,_⟩:=Gz.mp hu;obtain⟨q,hq,r,hr',rfl,tq⟩:=l_ (GW ed);have et:(iD L).take (j + 1)=(iD L).take j++[(q.z,r.z)]:=by rw[G_,ed];rfl
   have notl:∀ {b:Addr} {xs:List V},H5 b=some (.tup xs)→∀ z∈zs,lo z≠b:=fun {b xs} hb z hz c=>by
    have:=ar5.at_ z hz
    rw[c,hb]at this;cases this
   have zq:q.z∈zs:=by rw[ezs];exact GC.mpr ⟨q,hq,rfl⟩
   have zr:r.z∈zs:=by rw[ezs];exact GC.mpr ⟨r,hr',rfl⟩
   have f6:H6 dc=some (.frz ob (.dK (bN L))):=k6 _ _ (fun z hz c=>by
    have:=ar5.at_ z hz
    rw[c,s5 _ _ f4]at this;cases this) (s5 _ _ f4)
   have gq:∀ {x:Sq},x∈L→km H6 dc (sV x.z) (some (.int x.c)):=fun {x} hx=>.inl ⟨bN L,ky x.z,.inr ⟨ob,f6⟩,rfl,(bW hB hx).symm⟩;have lk:eJ (bN L) (q.z,r.z)=decide (V.int q.c=V.int r.c):=by
    unfold eJ;rw[bW hB hq,bW hB hr'];simp
   refine⟨p,_,rfl,SqT.of (k6 _ _ (notl hp) hp),rfl,_,_,rfl,_,_,rfl,rfl,?_⟩;have sl:∀ z,(gJ (eJ (bN L)) (jp (eJ (bN L)) ((iD L).take j)) (q.z,r.z) z).length≤2 * (j + 1):=fun z=>by
    have h1:=ya (eJ (bN L)) (jp (eJ (bN L)) ((iD L).take j)) (q.z,r.z) z;have h2:=len6 z
    lia
   rw[← j9,← et]at sl;refine⟨dc,.int q.c,rfl,gq hq,dc,.int r.c,rfl,gq hr',rfl,ap (bU (fun c =>?_) (fun c =>?_))⟩
   ·have c':eJ (bN L) (q.z,r.z)=true:=lk.trans c;have l1:=len6 q.z;refine⟨da,_,rfl,ar6.get zq,.inl ⟨rfl,_,SqL.of (ar6.at_ _ zq)⟩,lo q.z,_,_,rfl,rfl,ar6.at_ _ zq,?_,?_⟩
    ·rw[Gy];exact GK (by lia:_ < 5000000) (by decide)
    have ar7:=ar6.add zq r.z;have l2:=pS (jp (eJ (bN L)) ((iD L).take j)) q.z r.z r.z;have l3:=len6 r.z;refine⟨da,_,rfl,ar7.get zr,.inl ⟨rfl,_,SqL.of (ar7.at_ _ zr)⟩,lo r.z,_,_,rfl,rfl,ar7.at_ _ zr,?_,?_⟩
    ·rw[Gy];exact GK (by lia:_ < 5000000) (by decide)
    refine⟨hju,am.set (am.set s6 (nw _ zq) _) (nw _ zr) _,fun b o hb h5 =>?_,?_,sl,_,_,rfl⟩
    ·rw[aD (Ne.symm (hb _ zr)),aD (Ne.symm (hb _ zq))];exact k6 b o hb h5
    ·rw[et,j9];unfold gJ;rw[if_pos c'];exact ar7.add zr q.z
   ·have c':¬ eJ (bN L) (q.z,r.z)=true:=fun h=>c (lk.symm.trans h);refine⟨hju,s6,k6,?_,sl,_,_,rfl⟩;rw[et,j9];unfold gJ;rw[if_neg c'];exact ar6
  ·rintro σ H6 ⟨_,s6,k6,ar6,len6,o3,o4,rfl⟩;rw[GV (by lia)]at ar6 len6;refine (q' da lo _ H6 s6 nda ar6 (fun z =>?_) (fun z z'=>vY _ _ z z') fun z=>t_ (eJ (bN L)) (pF hB) (fun d hd=>xH hB hd) z)
   have:=len6 z
   lia
end
abbrev Mem:Type:=List Nat × Option (List Nat)
def add1 (c:List Nat)(M:List Mem)(o:List Nat):List Mem:=if o∈M.map (·.1) then M else M++[(o,some c)]
def pe (A:List Nat→List (List Nat))(M:List Mem)(c:List Nat):List Mem:=(A c).foldl (add1 c) M
def aH (A:List Nat→List (List Nat))(z:List Nat):Nat→List Mem
 | 0=>[(z,none)]
 | k + 1=>match (aH A z k)[k]? with
  | none=>aH A z k
  | some m=>pe A (aH A z k) m.1
theorem wK:∀ {l m:List (List Nat)},l.Nodup→(∀ x∈l,x∈m)→l.length≤m.length
 | [],_,_,_=>GF _
 | a::l,m,nd,h=>by
  obtain⟨h1,h2⟩:=HN.mp nd;have ha:=h a GO;have ih:=wK (l:=l) (m:=m.erase a) h2 fun x hx=>(Jm (fun e:x=a=>h1 (by rw[← e];exact hx))).mpr (h x (GG _ hx))
  have:=List.length_erase_of_mem ha
  have:=IX ha
  rw[G2]
  lia
structure BI (zs:List (List Nat))(M:List Mem):Prop where
 nd:(M.map (·.1)).Nodup
 sub:∀ m∈M,m.1∈zs
theorem BI.len {zs:List (List Nat)}{M:List Mem}(h:BI zs M):M.length≤zs.length:=by
 have:=wK h.nd (m:=zs) fun x hx=>by
  obtain⟨m,hm,rfl⟩:=GC.mp hx;exact h.sub m hm
 rwa [Gy]at this
theorem BI.add1 {zs:List (List Nat)}{M:List Mem}(h:BI zs M){c o:List Nat}(ho:o∈zs):BI zs (add1 c M o):=by
 unfold Qs.add1
 split
 ·exact h
 ·rename_i hn
  refine⟨?_,fun m hm =>?_⟩
  ·rw[G7];exact Iq.mpr ⟨h.nd,by simp,fun a ha b hb e=>hn (by
    have hb2:b=o:=GI.mp hb;rw[← hb2,← e];exact ha)⟩
  ·rcases GS.mp hm with hm|hm
   ·exact h.sub m hm
   ·rw[GI.mp hm];exact ho
theorem BI.fold {zs:List (List Nat)}{c:List Nat}:∀ {os:List (List Nat)} {M:List Mem},BI zs M→(∀ o∈os,o∈zs)→BI zs (os.foldl (Qs.add1 c) M)
 | [],_,h,_=>h
 | o::os,M,h,ho=>BI.fold (os:=os) (h.add1 (c:=c) (ho o GO)) fun x hx=>ho x (GG _ hx)
theorem BI.bfs {A:List Nat→List (List Nat)}{zs:List (List Nat)}(hA:∀ z∈zs,∀ y∈A z,y∈zs){z:List Nat}(hz:z∈zs):∀ k,BI zs (aH A z k)
 | 0=>⟨by simp[aH],fun m hm=>by rw[GI.mp hm];exact hz⟩
 | k + 1=>by
  have ih:=BI.bfs hA hz k;unfold aH
  split
  ·exact ih
  ·rename_i m hm
   exact ih.fold (hA _ (ih.sub m (GW hm)))
theorem Ag (c:List Nat)(M:List Mem)(o:List Nat):M <+: add1 c M o:=by
 unfold add1
 split
 ·exact JK
 ·exact List.prefix_append _ _
theorem AR (c:List Nat)(M:List Mem)(o:List Nat):o∈(add1 c M o).map (·.1):=by
 unfold add1
 split
 ·assumption
 ·simp
theorem oD (c:List Nat):∀ (os:List (List Nat)) (M:List Mem),M <+: os.foldl (add1 c) M
 | [],M=>JK
 | o::os,M=>(Ag c M o).trans (oD c os _)
theorem pB (c:List Nat):∀ (os:List (List Nat)) (M:List Mem),∀ o∈os,o∈(os.foldl (add1 c) M).map (·.1)
 | [],_,o,h=>by cases h
 | p::os,M,o,h=>by
  rcases GU.mp h with rfl|h
  ·exact (List.IsPrefix.subset ((oD c os (add1 c M o)).map _)) (AR c M o)
  ·exact pB c os _ o h
theorem sM (A:List Nat→List (List Nat))(z:List Nat)(k:Nat):aH A z k <+: aH A z (k + 1):=by
 show _ <+: match (aH A z k)[k]? with | none=>aH A z k | some m=>pe A (aH A z k) m.1
 split
 ·exact JK
 ·exact oD _ _ _
theorem pQ (A:List Nat→List (List Nat))(z:List Nat):∀ (k i:Nat) (m:Mem),i < k→(aH A z k)[i]? = some m→∀ y∈A m.1,y∈(aH A z k).map (·.1)
 | 0,i,m,h,_,_,_=>by lia
 | k + 1,i,m,h,hm,y,hy=>by
  have pre:=sM A z k;have sub:=List.IsPrefix.subset (pre.map (·.1));by_cases hi:i < k
  ·cases e:(aH A z k)[i]? with
   | some m' =>
    have:(aH A z (k + 1))[i]? = some m':=by
     obtain⟨t,ht⟩:=pre;rw[← ht,Hf (Gz.mp e).1];exact e
    rw[this]at hm;cases hm;exact sub (pQ A z k i m hi e y hy)
   | none =>
    have hlen:(aH A z k).length≤i:=Hz.mp e;have e2:(aH A z k)[k]? = none:=Hz.mpr (by lia);have e3:aH A z (k + 1)=aH A z k:=by
     show (match (aH A z k)[k]? with | none=>aH A z k | some m=>pe A (aH A z k) m.1)=_;rw[e2]
    rw[e3,e]at hm;cases hm
  ·have hik:i=k:=by lia
   subst hik;cases e:(aH A z i)[i]? with
   | none =>
    have e3:aH A z (i + 1)=aH A z i:=by
     show (match (aH A z i)[i]? with | none=>aH A z i | some m=>pe A (aH A z i) m.1)=_;rw[e]
    rw[e3,e]at hm;cases hm
   | some m' =>
    have e3:aH A z (i + 1)=pe A (aH A z i) m'.1:=by
     show (match (aH A z i)[i]? with | none=>aH A z i | some m=>pe A (aH A z i) m.1)=_;rw[e]
    have:(aH A z (i + 1))[i]? = some m':=by
     obtain⟨t,ht⟩:=pre;rw[← ht,Hf (Gz.mp e).1];exact e
    rw[this]at hm;cases hm;rw[e3];exact pB _ _ _ y hy
theorem qY (A:List Nat→List (List Nat))(z:List Nat)(S:List Nat→Prop)(h0:S z)(hs:∀ x y,S x→y∈A x→S y):∀ k,∀ m∈aH A z k,S m.1
 | 0,m,hm=>by rw[GI.mp hm];exact h0
 | k + 1,m,hm=>by
  have ih:=qY A z S h0 hs k;have hm':m∈match (aH A z k)[k]? with | none=>aH A z k | some m=>pe A (aH A z k) m.1:=hm
  cases e:(aH A z k)[k]? with
  | none=>rw[e]at hm';exact ih m hm'
  | some c =>
   rw[e]at hm';have hc:=ih c (GW e);have go:∀ (os:List (List Nat)) (M:List Mem),(∀ m∈M,S m.1)→(∀ o∈os,S o)→∀ m∈os.foldl (add1 c.1) M,S m.1:=by
    intro os
    induction os with
    | nil=>intro M hM _;exact hM
    | cons o os ihh =>
     intro M hM ho;refine ihh _ (fun m hm =>?_) fun x hx=>ho x (GG _ hx);unfold add1 at hm
     split at hm
     ·exact hM m hm
     ·rcases GS.mp hm with hm|hm
      ·exact hM m hm
      ·rw[GI.mp hm];exact ho o GO
   exact go (A c.1) _ ih (fun o ho=>hs _ _ hc ho) m hm'
theorem kZ (A:List Nat→List (List Nat))(z:List Nat):∀ k,(aH A z k)[0]? = some (z,none)
 | 0=>rfl
 | k + 1=>by
  obtain⟨t,ht⟩:=sM A z k;have ih:=kZ A z k;rw[← ht,Hf (Gz.mp ih).1];exact ih
def yE:Option (List Nat)→V
 | none=>.non
 | some c=>sV c
def Gs (H:Hp)(u:V)(m:Mem):Prop:=∃ p,u=.ref p∧H p=some (.tup [sV m.1,yE m.2])
abbrev mK (H:Hp):List V→List Mem→Prop:=Paired (Gs H)
theorem mK.up {H H':Hp}{us:List V}{M:List Mem}(h:mK H us M)(s:bO H H'):mK H' us M:=Paired.mapP h fun _ _ ⟨p,e,hp⟩=>⟨p,e,s _ _ hp⟩
theorem di {α β:Type}{F:α→β→Prop}:∀ {l:List α} {r:List β} {i:Nat} {x:α},Paired F l r→l[i]? = some x→∃ y,r[i]? = some y∧F x y
 | _::_,_::_,0,_,.cons h _,e=>⟨_,rfl,by cases e;exact h⟩
 | _::_,_::_,i + 1,_,.cons _ h,e=>di (i:=i) h e
 | [],[],i,_,.nil,e=>by simp at e
theorem fL {α β:Type}{F:α→β→Prop}{l1 l2:List α}{r1 r2:List β}(h:Paired F l1 r1)(k:Paired F l2 r2):Paired F (l1++l2) (r1++r2):=by
 induction h with
 | nil=>exact k
 | cons p _ ih=>exact .cons p ih
theorem gH {H:Hp}{a:Addr}{o o':HO}(h:H a=some o)(n:∀ xs,o≠.tup xs):bO H (upd H a o'):=fun b xs e=>by
 rw[aD fun q=>n xs (by rw[q,h]at e;exact Option.some.inj e)];exact e
def Met (H:Hp)(d:Addr)(S:List (List Nat)):Prop:=∃ kvs,H d=some (.dK kvs)∧kvs.length≤S.length∧∀ y,(bD kvs (ky y)).isSome=true↔y∈S
theorem Met.up {H H':Hp}{d:Addr}{S:List (List Nat)}(h:Met H d S)(s:am H H'):Met H' d S:=by
 obtain⟨kvs,h1,h2⟩:=h;exact⟨kvs,s _ _ h1,h2⟩
theorem Met.put {H:Hp}{d:Addr}{S:List (List Nat)}{kvs:List (Key × V)}(hl:kvs.length≤S.length)(h:∀ y,(bD kvs (ky y)).isSome=true↔y∈S)(z:List Nat)(v:V):Met (upd H d (.dK (dr kvs (ky z) v))) d (S++[z]):=by
 refine⟨_,ah,?_,fun y =>?_⟩
 ·have:=d8 kvs (ky z) v
  rw[GE,Hu]
  lia
 ·rw[nX,GS,GI];by_cases q:y=z
  ·rw[if_pos (by rw[q])];simp[q]
  ·rw[if_neg fun c=>q (l8 c),h y];simp[q]
section
variable {P:Program}{w:World}{K:PySem.W.Frag}{mg:Str→Option Value}{base:Heap}{CX:CXT}{f:Addr}{fd:FuncData}
abbrev fD:Stmt:=top 44
theorem bE:az ["around","first","members","met","at","code","other"] ["around","first"] (aj fD):={}
inductive hJ  (vs:List V)(H:Hp)(Q:VK):Prop
 | mk (d:Addr) (z:List Nat) (zs:List (List Nat)) (lo:List Nat→Addr) (A:List Nat→List (List Nat)) (h_0:vs=[.ref d,sV z]) (h_1:Aro H d zs lo A) (h_2:z∈zs) (h_3:zs.length≤1500) (h_4:(∀ z∈zs,∀ y∈A z,y∈zs)) (h_5:(∀ z,(A z).length≤4500000)) (h_6:∀ l us k H',am H H'→H l=none→H' l=some (.lst us)→mK H' us (aH A z k)→(aH A z k).length=k→Q (.ref l) H'):hJ  vs H Q
def cf:Sp:=fun vs H Q _=>hJ  vs H Q
theorem mV (T:Tx K mg)(F:aT K "members_from" "members_from" fD f fd .none):bd P w K mg base CX 1 f fd ["around","first"] cf:=by
 refine F.ok bE (fun vs H Q E h =>?_) (fun cdv A outer s H vs Q E hr h =>?_)
 ·obtain⟨_,_,_,_,_,rfl,_⟩:=h;rfl
 obtain⟨d,z,zs,lo,A,rfl,ar,hz,zl,hA,hAl,q'⟩:=h;refine⟨_,(ac (aq (i:=2) bE (bh (ay (aL (ay (pv 1) (ay lU aA))) aA))) (ac (aq (i:=3) bE (Ap (pv 1) gT)) (ac (aq (i:=4) bE ae) (ac (kE Hd (aG qA (pv 4) (aw bX rfl T.b_len dM (aa (pv 2) af))) (ac (aq (i:=5) bE (aB aF (aB bc (pv 2) (pv 4)) ae)) (ac (bg Hd rfl (cO (dQ hr.dic (pv 0) (pv 5) (fun _ _=>rfl))) (bj (i:=6) bE) (ag (aR (aG (qy hr.dic) (pv 6) (pv 3) (by with_unfolding_all rfl)) (ac (rF hr.dic (pv 3) (pv 6) gT (dS rfl)) (ag (bz (dL (pv 2) (aa (aL (ay (pv 6) (ay (pv 5) aA))) af))))) aE))) (ag (aq (i:=4) bE (ak aK (pv 4) ae)))))) (ag (av (pv 2))))))),?_⟩;refine⟨(leZ rfl),fun p0 hp0 =>?_⟩;generalize e1:upd H p0 _=H1;have s1:am H H1:=e1▸am.new hp0 _;have w1:H1 p0=some (.tup [sV z,.non]):=by rw[← e1];exact ah
 refine⟨(leZ rfl),fun ml hml =>?_⟩;generalize e2:upd H1 ml _=H2;have s2:am H1 H2:=e2▸am.new hml _;have w2:H2 ml=some (.lst [.ref p0]):=by rw[← e2];exact ah
 have nml:H ml=none:=s1.free hml;have s12:=s1.trans s2;refine fun dm hdm=>⟨ah,[(ky z,.bl true)],rfl,(by show 1≤15;decide),?_⟩;generalize e3:upd (upd H2 dm _) dm _=H3;have s3:am H2 H3:=e3▸am.set (am.new hdm _) hdm _;have w3:H3 dm=some (.dK [(ky z,.bl true)]):=by rw[← e3];exact ah
 have ndm:H dm=none:=s12.free hdm;have s13:=s12.trans s3;refine⟨fun m σ H4=>∃ (k:Nat) (us:List V) (o5 o6:Option V),m=1501 - k∧am H H4∧H4 ml=some (.lst us)∧mK H4 us (aH A z k)∧Met H4 dm ((aH A z k).map (·.1))∧k≤us.length∧σ=[some (.ref d),some (sV z),some (.ref ml),some (.ref dm),some (.int (k:Int)),o5,o6],⟨_,0,[.ref p0],none,none,rfl,s13,s3 _ _ w2,.cons ⟨p0,rfl,(s2.trans s3) _ _ w1⟩ .nil,⟨_,w3,GB _,fun y =>?_⟩,GF _,rfl⟩,?_⟩
 ·show (bD [(ky z,V.bl true)] (ky y)).isSome=true↔y∈[z];rw[GI];by_cases q:z=y
  ·rw[bP (by rw[q])];simp[q]
  ·rw[bM fun c=>q (l8 c),zy];simp[Ne.symm q]
 rintro m σ H4 ⟨k,us,o5,o6,rfl,s4,u4,hM,hm,hk,rfl⟩;have bi:=BI.bfs hA hz k;have lM:=Paired.length hM;have ll:=bi.len;refine⟨_,_,rfl,.inl ⟨_,SqL.of u4,rfl⟩,cq (ap (bU (fun c =>?_) (fun c =>?_)))⟩
 rotate_left
 ·have c':¬ (k:Int) < (us.length:Int):=fun h=>c (GH h);exact (q' ml us k H4 s4 nml u4 hM (by lia))
 have c':(k:Int) < (us.length:Int):=G6 c;have hku:k < us.length:=by lia
 obtain⟨u,hu⟩:∃ u,us[k]? = some u:=⟨us[k],G0 hku⟩;obtain⟨mm,em,p,rfl,hp⟩:=di hM hu;have hc:=bi.sub mm (GW em);have eb:aH A z (k + 1)=pe A (aH A z k) mm.1:=by
  show (match (aH A z k)[k]? with | none=>aH A z k | some m=>pe A (aH A z k) m.1)=_;rw[em]
 refine⟨fun σ' H5=>∃ (us:List V) (o5 o6:Option V),am H H5∧H5 ml=some (.lst us)∧mK H5 us (aH A z (k + 1))∧Met H5 dm ((aH A z (k + 1)).map (·.1))∧k + 1≤us.length∧σ'=[some (.ref d),some (sV z),some (.ref ml),some (.ref dm),some (.int ((k + 1:Nat):Int)),o5,o6],fun σ' H5 ⟨us',o5,o6,h1,h2,h3,h4,h5,h6⟩=>⟨1501 - (k + 1),by lia,k + 1,us',o5,o6,rfl,h1,h2,h3,h4,h5,h6⟩,?_⟩;refine⟨ml,us,_,_,rfl,rfl,SqL.of u4,dB hu,p,_,0,_,rfl,rfl,SqT.of hp,rfl,?_⟩;have nlo:∀ {H':Hp},am H H'→H' (lo mm.1)=some (.lst ((A mm.1).map sV)):=fun s=>s _ _ (ar.at_ _ hc);refine⟨d,_,rfl,(ar.up s4).get hc,lo mm.1,rfl,⟨_,SqL.of (nlo s4)⟩,cI (xs:=(A mm.1).map sV) (fun (j:Nat) σ H5=>j≤(A mm.1).length∧am H H5∧∃ (us5:List V) (o6:Option V),H5 ml=some (.lst us5)∧mK H5 us5 (((A mm.1).take j).foldl (add1 mm.1) (aH A z k))∧Met H5 dm ((((A mm.1).take j).foldl (add1 mm.1) (aH A z k)).map (·.1))∧us.length≤us5.length∧σ=[some (.ref d),some (sV z),some (.ref ml),some (.ref dm),some (.int (k:Int)),some (sV mm.1),o6])
  ⟨GF _,s4,us,_,u4,hM,hm,GB _,rfl⟩ (fun i σ H5 _ h=>SqL.of (nlo h.2.1)) ?_ ?_⟩
 ·rintro j x σ H5 hx ⟨_,s5,us5,o6,u5,hM5,⟨kvs,d5,l5,m5⟩,le5,rfl⟩;rw[Ha]at hx;obtain⟨o,eo,rfl⟩:=He.mp hx;obtain⟨hj,_⟩:=Gz.mp eo;have et:(A mm.1).take (j + 1)=(A mm.1).take j++[o]:=by rw[G_,eo];rfl
  have ef:((A mm.1).take (j + 1)).foldl (add1 mm.1) (aH A z k)=add1 mm.1 (((A mm.1).take j).foldl (add1 mm.1) (aH A z k)) o:=by rw[et,II];rfl
  have bi5:BI zs (((A mm.1).take j).foldl (add1 mm.1) (aH A z k)):=bi.fold fun o ho=>hA _ hc o (HR ho);have ll5:=bi5.len;have lM5:=Paired.length hM5;rw[Gy]at l5;rw[ef];generalize ((A mm.1).take j).foldl (add1 mm.1) (aH A z k)=M5 at *;refine⟨dm,_,rfl,km.k (k:=ky o) d5,ap (bU (fun c1 =>?_) (fun c1 =>?_))⟩
  ·have c1':(!(bD kvs (ky o)).isSome)=true:=c1;have hno:o∉M5.map (·.1):=fun h=>by
    rw[(m5 o).mpr h]at c1';cases c1'
   have ea:add1 mm.1 M5 o=M5++[(o,some mm.1)]:=by unfold add1;rw[if_neg hno]
   refine⟨dm,_,rfl,va.k (k:=ky o) d5 (GK (by lia:kvs.length < 5000) (by decide)),?_⟩;have hdl:ml≠dm:=fun q=>by rw[q,d5]at u5;cases u5
   have t6:bO H5 (upd H5 dm (.dK (dr kvs (ky o) (.bl true)))):=gH d5 (by intro xs q;cases q);have s6:am H (upd H5 dm (.dK (dr kvs (ky o) (.bl true)))):=am.set s5 ndm _;have u6:upd H5 dm (.dK (dr kvs (ky o) (.bl true))) ml=some (.lst us5):=by rw[aD hdl];exact u5
   have m6:Met (upd H5 dm (.dK (dr kvs (ky o) (.bl true)))) dm (M5.map (·.1)++[o]):=Met.put (by rw[Gy];exact l5) m5 o _;generalize upd H5 dm (.dK (dr kvs (ky o) (.bl true)))=H6 at *;refine⟨.inl ⟨rfl,_,SqL.of u6⟩,(leZ rfl),fun pn hpn =>?_⟩;generalize e7:upd H6 pn _=H7;have s7:am H6 H7:=e7▸am.new hpn _;have w7:H7 pn=some (.tup [sV o,sV mm.1]):=by rw[← e7];exact ah
   have u7:=s7 _ _ u6;have m7:=m6.up s7;refine⟨ml,us5,_,rfl,rfl,u7,GK (by lia:us5.length < 5000) (by decide),?_⟩;have t8:bO H7 (upd H7 ml (.lst (us5++[.ref pn]))):=gH u7 (by intro xs q;cases q);rw[ea];refine⟨hj,am.set (s6.trans s7) nml _,us5++[.ref pn],_,ah,fL (hM5.up (t6.trans (s7.tups.trans t8))) (.cons ⟨pn,rfl,t8 _ _ w7⟩ .nil),?_,by rw[GE];lia,rfl⟩;obtain⟨kv,g1,g2,g3⟩:=m7;refine⟨kv,by rw[aD (Ne.symm hdl)];exact g1,?_,fun y =>?_⟩
   ·rw[G7];exact g2
   ·rw[g3,G7];rfl
  ·have c1':¬ (!(bD kvs (ky o)).isSome)=true:=c1;have hin:o∈M5.map (·.1):=(m5 o).mp (by
    cases hh:(bD kvs (ky o)).isSome with
    | true=>rfl
    | false=>rw[hh]at c1';exact absurd rfl c1')
   have ea:add1 mm.1 M5 o=M5:=by unfold add1;rw[if_pos hin]
   rw[ea];exact⟨hj,s5,us5,_,u5,hM5,⟨kvs,d5,by rw[Gy];exact l5,m5⟩,le5,rfl⟩
 ·rintro σ H5 ⟨_,s5,us5,o6,u5,hM5,hm5,le5,rfl⟩;rw[Gy,Ig]at hM5 hm5;refine⟨us5,_,_,s5,u5,?_,?_,by lia,rfl⟩
  ·rw[eb];exact hM5
  ·rw[eb];exact hm5
theorem De {A:List Nat→List (List Nat)}{z:List Nat}{N:Nat}(h:∀ k,(aH A z k).length≤N):∃ k,k≤N∧(aH A z k).length=k:=by
 have go:∀ j,(∃ k,k≤j∧(aH A z k).length=k)∨j < (aH A z j).length:=by
  intro j
  induction j with
  | zero=>exact .inr Nat.zero_lt_one
  | succ j ih =>
   rcases ih with⟨k,hk,e⟩|ih
   ·exact .inl ⟨k,by lia,e⟩
   ·have:=(sM A z j).length_le
    by_cases e:(aH A z (j + 1)).length=j + 1
    ·exact .inl ⟨j + 1,GB _,e⟩
    ·exact .inr (by lia)
 rcases go N with h1|h1
 ·exact h1
 ·have:=h N
  lia
theorem uU {A:List Nat→List (List Nat)}{z:List Nat}{k:Nat}(h:(aH A z k).length=k):∀ j,aH A z (k + j)=aH A z k
 | 0=>rfl
 | j + 1=>by
  have ih:=uU h j;show (match (aH A z (k + j))[k + j]? with | none=>aH A z (k + j) | some m=>pe A (aH A z (k + j)) m.1)=_;rw[ih,Hz.mpr (by lia)]
@[irreducible] def jq (A:List Nat→List (List Nat)) (z:List Nat):List Mem:=aH A z 1500
theorem rT {A:List Nat→List (List Nat)}{z:List Nat}{k:Nat}(h:(aH A z k).length=k)(hk:k≤1500):jq A z=aH A z k:=by
 unfold jq
 have:=uU h (1500 - k)
 rwa [show k + (1500 - k)=1500 by lia]at this
end
theorem gF.up {K:PySem.W.Frag}{H H':Hp}{x:V}{t:Value}(sm:am H H')(h:gF K H x t):gF K H' x t:=by
 cases h with
 | non=>exact .non
 | bl x=>exact .bl x
 | int i=>exact .int i
 | str x=>exact .str x
 | flt x=>exact .flt x
 | lst e=>exact .lst (sm _ _ e)
 | frz e=>exact .frz (sm _ _ e)
 | tup e=>exact .tup (sm _ _ e)
 | dK e=>exact .dK (sm _ _ e)
 | dT e=>exact .dT (sm _ _ e)
 | ins e cl ha hn htk hm=>exact .ins (sm _ _ e) cl ha hn htk hm
def xU (K:PySem.W.Frag)(H:Hp)(x:V):Prop:=(∃ b,x=.bl b)∨∃ t,gF K H x t∧PySem.W.kitOne K t (.type "int")=some false
theorem xU.up {K:PySem.W.Frag}{H H':Hp}{x:V}(h:xU K H x)(s:am H H'):xU K H' x:=h.imp id fun⟨ty,h1,h2⟩=>⟨ty,gF.up s h1,h2⟩
def iX (n:Nat)(x:V):Prop:=∃ i:Int,x=.int i∧0≤i∧i < ((2 ^ n:Nat):Int)
def fg (K:PySem.W.Frag)(H:Hp)(n:Nat)(x:V):Prop:=(∃ i,x=.int i∧¬ (0≤i∧i < ((2 ^ n:Nat):Int)))∨xU K H x
theorem fg.up {K:PySem.W.Frag}{H H':Hp}{n:Nat}{x:V}(h:fg K H n x)(s:am H H'):fg K H' n x:=h.imp id fun h=>h.up s
theorem FD {c A R:Prop}[Decidable c](h:¬ c)(r:A):if (!decide c)=true then A else R:=by rw[Hb h];exact r
section
variable {P:Program}{w:World}{K:PySem.W.Frag}{mg:Str→Option Value}{base:Heap}{CX:CXT}{f:Addr}{fd:FuncData}
abbrev j6:Stmt:=top 18
theorem tF:az ["thing"] ["thing"] (aj j6):={}
def je (K:PySem.W.Frag):Sp:=fun vs H Q _=>∃ x,vs=[x]∧((∃ i,x=.int i∧Q (.bl true) H)∨(∃ b,x=.bl b∧Q (.bl false) H)∨∃ t,gF K H x t∧PySem.W.kitOne K t (.type "int")=some false∧Q (.bl false) H)
theorem tZ (T:Tx K mg)(F:aT K "is_whole" "is_whole" j6 f fd .none):bd P w K mg base CX 1 f fd ["thing"] (je K):=by
 refine F.ok tF (fun vs H Q E h =>?_) (fun cdv A outer s H vs Q E hr h =>?_)
 ·obtain⟨x,rfl,_⟩:=h;rfl
 obtain⟨x,rfl,h⟩:=h;refine⟨_,(ag (av (Au (aw (bq "int") rfl T.b_isinstance au (aa (pv 0) (aa (cQ T.b_int gE) af))) (Am (D5 (aw (bq "bool") rfl T.b_isinstance au (aa (pv 0) (aa (cQ T.b_bool xR) af)))))))),?_⟩
 rcases h with⟨i,rfl,q⟩|⟨b,rfl,q⟩|⟨t,ty,hk,q⟩
 ·refine⟨_,_,_,rfl,.int i,Bb,_,rfl,fR ?_⟩;exact⟨_,_,_,rfl,.int i,Bc,_,rfl,q⟩
 ·refine⟨_,_,_,rfl,.bl b,Eo,_,rfl,fR ?_⟩;exact⟨_,_,_,rfl,.bl b,Ep,_,rfl,q⟩
 ·exact⟨_,_,_,rfl,ty,hk,_,rfl,cH q⟩
abbrev j7:Stmt:=top 19
theorem tG:az ["thing"] ["thing"] (aj j7):={}
def mB (K:PySem.W.Frag):Sp:=fun vs H Q _=>∃ i,vs=[.int i]∧(0≤i∧i≤40→Q (.bl true) H)∧(¬ (0≤i∧i≤40)→Q (.bl false) H)
theorem t0 (T:Tx K mg)(q:br CX)(F:aT K "is_level" "is_level" j7 f fd .none)(C_is_whole:Fok P w K mg base CX 1 "is_whole" ["thing"] [] (je K)):bd P w K mg base CX 2 f fd ["thing"] (mB K):=by
 refine F.ok tG (fun vs H Q E h =>?_) (fun cdv A outer s H vs Q E hr h =>?_)
 ·obtain⟨x,rfl,_⟩:=h;rfl
 obtain⟨i,rfl,h1,h2⟩:=h;refine⟨_,(ag (av (Au (ai C_is_whole q hr (aa (pv 0) af)) (Am (Ar Az Az ae (pv 0) (xg T.c_MOST)))))),?_⟩;refine⟨_,rfl,.inl ⟨i,rfl,_,rfl,fR ?_⟩⟩;refine⟨_,rfl,bU (fun c =>?_) (fun c =>?_)⟩
 ·have c':(0:Int)≤i:=G6 c
  try dsimp only
  refine (cq ?_);show Q (.bl (decide (i≤40))) H;by_cases d:i≤40
  ·have e:decide (i≤40)=true:=GH d;rw[e];exact h1 ⟨c',d⟩
  ·have e:decide (i≤40)=false:=Hb d;rw[e];exact h2 fun z=>d z.2
 ·exact h2 fun z=>c (GH z.1)
abbrev cN:Stmt:=top 22
theorem qd:az ["level","least"] ["level","least"] (aj cN):={}
inductive ju  (vs:List V)(H:Hp)(Q:VK):Prop
 | mk (l m:Int) (h_0:vs=[.int l,.int m]) (h_1:0≤l) (h_2:l≤40) (h_3:m≤l) (h_4:Q .non H):ju  vs H Q
def cT:Sp:=fun vs H Q _=>ju  vs H Q
theorem jP {dV:Value}(T:Tx K mg)(q:br CX)(F:aT K "need_level" "need_level" cN f fd dV)(C_is_level:Fok P w K mg base CX 2 "is_level" ["thing"] [] (mB K)):bd P w K mg base CX 3 f fd ["level","least"] cT:=by
 refine F.ok qd (fun vs H Q E h =>?_) (fun cdv A outer s H vs Q E hr h =>?_)
 ·obtain⟨_,_,rfl,_⟩:=h;rfl
 obtain⟨l,m,rfl,h0,h1,h2,q'⟩:=h;refine⟨_,(ag (aR (PW.pt (oA (ck (bS (ai C_is_level q hr (aa (pv 0) af)))) (lS (aG qA (pv 0) (pv 1))))) (ag tK) aE)),?_⟩;refine⟨l,rfl,fun _ =>?_,fun z=>absurd ⟨h0,h1⟩ z⟩;refine (ap (cH ?_));refine (dj (dj (cq (ap (bU (fun c =>?_) (fun _=>q'))))));have c':l < m:=G6 c;exact absurd c' (by lia)
abbrev jX:Stmt:=top 27
theorem fV:az ["level","wide","step"] ["level"] (aj jX):={}
inductive k_  (vs:List V)(H:Hp)(Q:VK):Prop
 | mk (n:Nat) (h_0:vs=[.int n]) (h_1:n≤64) (h_2:Q (.int ((2 ^ n:Nat):Int)) H):k_  vs H Q
def fU:Sp:=fun vs H Q _=>k_  vs H Q
theorem tW (T:Tx K mg)(F:aT K "width_of" "width_of" jX f fd .none):bd P w K mg base CX 1 f fd ["level"] fU:=by
 refine F.ok fV (fun vs H Q E h =>?_) (fun cdv A outer s H vs Q E hr h =>?_)
 ·obtain⟨x,rfl,_⟩:=h;rfl
 obtain⟨n,rfl,hn,q'⟩:=h;refine⟨_,(ac (aq (i:=1) fV ae) (ac (bg Hd rfl (bT rfl T.b_range (aa (pv 0) af)) (bj (i:=2) fV) (ag (aq (i:=1) fV (ak bG (pv 1) ae)))) (ag (av (pv 1))))),?_⟩;refine⟨_,rfl,by simp,by lia,bV (fun i σ H2=>H2=H∧∃ x v,x=((2 ^ i:Nat):Int)∧σ=[some (.int n),some (.int x),v]) ⟨rfl,1,none,rfl,rfl⟩ ?_ ?_⟩
 ·rintro i σ H2 hi ⟨rfl,x,v,rfl,rfl⟩;refine⟨.inr ⟨by decide,by decide⟩,rfl,_,_,?_,rfl⟩;rw[HK,Iu];rfl
 ·rintro σ H2 ⟨rfl,x,v,rfl,rfl⟩;have e:((n:Int)).toNat=n:=HL n
  try dsimp only
  refine (dj ?_);rw[e];exact q'
end
theorem nU (x m:Nat):x / 2 ^ m / 2=x / 2 ^ (m + 1):=by rw[Nat.div_div_eq_div_mul,HK]
section
variable {P:Program}{w:World}{K:PySem.W.Frag}{mg:Str→Option Value}{base:Heap}{CX:CXT}{f:Addr}{fd:FuncData}
abbrev io:Stmt:=top 28
theorem gh:az ["x","y","level","wide","along"] ["x","y","level"] (aj io):={}
def zI (Y:Yx K mg):Sp:=fun vs H Q E=>∃ (x y:V) (n:Nat),vs=[x,y,.int n]∧n≤40∧((iX n x∧iX n y∧∀ H',am H H'→Q .non H')∨((fg K H n x∨(iX n x∧fg K H n y))∧∀ H',am H H'→E (.ref Y.c_NoPlace) none H'))
theorem qg (T:Tx K mg)(Y:Yx K mg)(q:br (CXe P w))(F:aT K "need_place" "need_place" io f fd .none)(C_width_of:Fok P w K mg base (CXe P w) 1 "width_of" ["level"] [] fU)(C_is_whole:Fok P w K mg base (CXe P w) 1 "is_whole" ["thing"] [] (je K)):
  bd P w K mg base (CXe P w) 2 f fd ["x","y","level"] (zI Y):=by
 refine F.okX gh (fun vs H Q E h =>?_) (fun cdv A outer s H vs Q E hr h =>?_)
 ·obtain⟨_,_,_,rfl,_⟩:=h;rfl
 obtain⟨x,y,n,rfl,hn,h⟩:=h;refine⟨_,(ac (aq (i:=3) gh (ai C_width_of q hr (aa (pv 2) af))) (ag (bg Hx rfl (vM (aL (ay (pv 0) (ay (pv 1) aA)))) (bj (i:=4) gh) (ag (aR (PW.pt (oA (ck (bS (ai C_is_whole q hr (aa (pv 4) af)))) (lS (ck (Ad Az qA ae (pv 4) (pv 3)))))) (ag (tJ Y.x_NoPlace wV cm)) aE))))),?_⟩;refine⟨n,rfl,by lia,?_⟩;rcases h with⟨gx,gy,q'⟩|⟨hx,q'⟩
 ·refine⟨(leZ rfl),fun p hp=>⟨p,rfl,⟨_,SqT.of ah⟩,nN (xs:=[x,y]) (fun i σ H2=>H2=upd H p (.tup [x,y])∧∃ v,σ=[some x,some y,some (.int n),some (.int ((2 ^ n:Nat):Int)),v]) ⟨rfl,none,rfl⟩ (fun i σ H2 _ h2=>by rw[h2.1];exact SqT.of ah) ?_ ?_⟩⟩
  ·rintro i u σ H2 hu ⟨rfl,v,rfl⟩;obtain⟨a,rfl,ha⟩:iX n u:=by
    rcases i with _|_|i
    ·rw[← Option.some.inj hu];exact gx
    ·rw[← Option.some.inj hu];exact gy
    ·cases hu
   refine⟨_,rfl,.inl ⟨a,rfl,ap (cH ?_)⟩⟩;refine⟨_,rfl,bU (fun _ =>?_) (fun c=>absurd (GH ha.1) c)⟩;exact (dj (cq (ap (xt ha.2 ⟨rfl,_,rfl⟩))))
  ·rintro σ H2 ⟨rfl,v,rfl⟩;exact q' _ (am.new hp _)
 refine⟨(leZ rfl),fun p hp=>⟨p,rfl,⟨_,SqT.of ah⟩,nN (xs:=[x,y]) (fun i σ H2=>(i=0∨(i=1∧iX n x∧fg K H n y))∧H2=upd H p (.tup [x,y])∧∃ v,σ=[some x,some y,some (.int n),some (.int ((2 ^ n:Nat):Int)),v]) ⟨.inl rfl,rfl,none,rfl⟩ (fun i σ H2 _ h2=>by rw[h2.2.1];exact SqT.of ah) ?_ ?_⟩⟩
 ·rintro i u σ H2 hu ⟨hi,rfl,v,rfl⟩;have sm:=am.new hp (.tup [x,y]);have bad:∀ u,fg K H n u→fg K (upd H p (.tup [x,y])) n u:=fun u h=>h.up sm;have key:(iX n u∧i=0∧iX n x∧fg K H n y)∨fg K H n u:=by
   rcases hi with rfl|⟨rfl,gx,by'⟩
   ·have e:x=u:=Option.some.inj hu;subst e;rcases hx with hx | ⟨hx,hy⟩
    ·exact .inr hx
    ·exact .inl ⟨hx,rfl,hx,hy⟩
   ·have e:y=u:=Option.some.inj hu;subst e;exact .inr by'
  rcases key with⟨⟨a,rfl,h0,h1⟩,rfl,gx,by'⟩|hb
  ·refine⟨_,rfl,.inl ⟨a,rfl,ap (cH ?_)⟩⟩;refine⟨_,rfl,bU (fun _ =>?_) (fun c=>absurd (GH h0) c)⟩;exact (dj (cq (ap (xt h1 ⟨.inr ⟨rfl,gx,by'⟩,rfl,_,rfl⟩))))
  ·rcases bad u hb with⟨a,rfl,ha⟩|⟨b,rfl⟩|⟨t,ty,hk⟩
   ·refine⟨_,rfl,.inl ⟨a,rfl,ap (cH ?_)⟩⟩;refine⟨_,rfl,bU (fun c =>?_) (fun c =>?_)⟩
    ·have c':(0:Int)≤a:=G6 c;exact (dj (cq (ap (FD (show ¬ a < ((2 ^ n:Nat):Int) by lia) (q' _ sm)))))
    ·exact (ap (fR (q' _ sm)))
   ·exact⟨_,rfl,.inr (.inl ⟨b,rfl,ap (fR (q' _ sm))⟩)⟩
   ·exact⟨_,rfl,.inr (.inr ⟨t,ty,hk,ap (fR (q' _ sm))⟩)⟩
 ·rintro σ H2 ⟨hi,rfl,v,rfl⟩;rcases hi with hi | ⟨hi,_⟩<;>cases hi
abbrev lN:Stmt:=top 30
theorem dI:az ["x","y","level","code","step"] ["x","y","level"] (aj lN):={}
def mC (Y:Yx K mg):Sp:=fun vs H Q E=>∃ (x y:V) (n:Nat),vs=[x,y,.int (n:Int)]∧n≤40∧((∃ i j:Nat,x=.int (i:Int)∧y=.int (j:Int)∧i < 2 ^ n∧j < 2 ^ n∧∀ H',am H H'→Q (.str (txt (low n i j))) H')∨((fg K H n x∨(iX n x∧fg K H n y))∧∀ H',am H H'→E (.ref Y.c_NoPlace) none H'))
theorem vX (T:Tx K mg)(Y:Yx K mg)(q:br (CXe P w))(F:aT K "code_at" "code_at" lN f fd .none)(C_need_level_1:Fok P w K mg base (CXe P w) 3 "need_level" ["level","least"] [.int 0] cT)(C_need_place:Fok P w K mg base (CXe P w) 2 "need_place" ["x","y","level"] [] (zI Y)):
  bd P w K mg base (CXe P w) 4 f fd ["x","y","level"] (mC Y):=by
 refine F.okX dI (fun vs H Q E h =>?_) (fun cdv A outer s H vs Q E hr h =>?_)
 ·obtain⟨_,_,_,rfl,_⟩:=h;rfl
 obtain⟨xv,yv,n,rfl,hn,h⟩:=h;refine⟨_,(ac (bz (ai C_need_level_1 q hr (aa (pv 2) af))) (ac (bz (bI C_need_place hr fX (aa (pv 0) (aa (pv 1) (aa (pv 2) af))))) (ac (aq (i:=3) dI cm) (ac (bg Hx rfl (bT rfl T.b_range (aa (pv 2) af)) (bj (i:=4) dI) (ac (aq (i:=3) dI (ak cG (bA kY rfl T.b_str ww (aa (ak aK (ak bG (ak aM (pv 1) ae) ae) (ak aM (pv 0) ae)) af)) (pv 3))) (ac (aq (i:=0) dI (ak a_ (pv 0) ae)) (ag (aq (i:=1) dI (ak a_ (pv 1) ae)))))) (ag (av (pv 3))))))),?_⟩;refine⟨_,0,rfl,by simp,by lia,by simp,?_⟩;rcases h with⟨x,y,rfl,rfl,hx,hy,q'⟩|⟨bp,q'⟩
 rotate_left
 ·exact⟨xv,yv,n,rfl,hn,.inr ⟨bp,q'⟩⟩
 refine⟨_,_,n,rfl,hn,.inl ⟨⟨(x:Int),rfl,by simp,by lia⟩,⟨(y:Int),rfl,by simp,by lia⟩,fun H1 s1 =>?_⟩⟩;refine⟨_,rfl,by simp,by lia,bV (fun i σ H2=>H2=H1∧∃ z a b v,z=txt (low i x y)∧a=((x / 2 ^ i:Nat):Int)∧b=((y / 2 ^ i:Nat):Int)∧σ=[some (.int a),some (.int b),some (.int n),some (.str z),v]) ⟨rfl,_,_,_,none,gX,by simp,by simp,rfl⟩ ?_ ?_⟩
 ·rintro i σ H2 hi ⟨rfl,z,a,b,v,rfl,rfl,rfl,rfl⟩;have hi':i < n:=by assumption
  have ed:((y / 2 ^ i:Nat):Int) % 2 * 2 + ((x / 2 ^ i:Nat):Int) % 2=((dgt x y i:Nat):Int):=by
   unfold dgt;generalize x / 2 ^ i=a;generalize y / 2 ^ i=b
   lia
  have hd:=sC x y i;have lg:((dgt x y i:Nat):Int).natAbs.log2 < 1920:=by
   rw[Int.natAbs_natCast];exact four (P:=fun d=>d.log2 < 1920) (by decide +kernel) (by decide +kernel) (by decide +kernel) (by decide +kernel) hd
  refine⟨(by show (0:Int) < 2;decide),.inr ⟨by decide,by decide⟩,(by show (0:Int) < 2;decide),((dgt x y i:Nat):Int),(by show [V.int _]=[V.int _];rw[ed]),lg,?_⟩;rw[wL hd];refine⟨_,_,rfl,rfl,small (by rw[eP,rV];show 1 + i≤1000;lia),?_⟩;refine⟨cK (by decide) (by decide),cK (by decide) (by decide),rfl,_,_,_,_,?_,?_,?_,rfl⟩
  ·rw[xi,AS]
  ·rw[← nU];rfl
  ·rw[← nU];rfl
 ·rintro σ H2 ⟨rfl,z,a,b,v,rfl,rfl,rfl,rfl⟩;have e:((n:Int)).toNat=n:=HL n
  try dsimp only
  refine (dj ?_);rw[e];exact q' _ s1
abbrev oo:Stmt:=top 29
theorem dh:az ["code","level","x","y","sign","quarter","wide"] ["code","level"] (aj oo):={}
inductive pY  (vs:List V)(H:Hp)(Q:VK):Prop
 | mk (z:Str) (n:Nat) (h_0:vs=[.str z,.int n]) (h_1:IsC z) (h_2:z.length≤n) (h_3:n≤40) (h_4:∀ p H',am H H'→H' p=some (.tup [.int ((cxs (dig z) * 2 ^ (n - z.length):Nat):Int),.int ((cys (dig z) * 2 ^ (n - z.length):Nat):Int),.int ((2 ^ (n - z.length):Nat):Int)])→Q (.ref p) H'):pY  vs H Q
def jB:Sp:=fun vs H Q _=>pY  vs H Q
theorem yJ (T:Tx K mg)(q:br CX)(F:aT K "corner" "corner" oo f fd .none)(C_need_code:Fok P w K mg base CX 2 "need_code" ["code"] [] eQ)(C_need_level:Fok P w K mg base CX 3 "need_level" ["level","least"] [] cT)
  (C_width_of:Fok P w K mg base CX 1 "width_of" ["level"] [] fU):bd P w K mg base CX 4 f fd ["code","level"] jB:=by
 refine F.ok dh (fun vs H Q E h =>?_) (fun cdv A outer s H vs Q E hr h =>?_)
 ·obtain⟨_,_,rfl,_⟩:=h;rfl
 obtain⟨z,n,rfl,hz,hl,hn,q'⟩:=h;refine⟨_,(ac (bz (ai C_need_code q hr (aa (pv 0) af))) (ac (bz (ai C_need_level q hr (aa (pv 1) (aa (aw bX rfl T.b_len dM (aa (pv 0) af)) af)))) (ac (aq (i:=2) dh ae) (ac (aq (i:=3) dh ae) (ac (bg Hd rfl (vN (pv 0)) (bj (i:=4) dh) (ac (aq (i:=5) dh (bA dA rfl T.b_int gE (aa (pv 4) af))) (ac (aq (i:=2) dh (ak aK (ak bG (pv 2) ae) (ak aM (pv 5) ae))) (ag (aq (i:=3) dh (ak aK (ak bG (pv 3) ae) (ak a_ (pv 5) ae))))))) (ac (aq (i:=6) dh (ai C_width_of q hr (aa (ak gB (pv 1) (aw bX rfl T.b_len dM (aa (pv 0) af))) af))) (ag (av (aL (ay (ak bG (pv 2) (pv 6)) (ay (ak bG (pv 3) (pv 6)) (ay (pv 6) aA)))))))))))),?_⟩;have hs:z.length≤sizeLine:=small (by lia);refine⟨z,rfl,hz,by lia,fun H1 s1 =>?_⟩;refine⟨_,_,rfl,⟨hs,rfl⟩,(n:Int),(z.length:Int),rfl,by simp,by lia,by lia,?_⟩;refine⟨z,rfl,ss (fun i σ H2=>H2=H1∧∃ x y v4 v5,x=((cxs ((dig z).take i):Nat):Int)∧y=((cys ((dig z).take i):Nat):Int)∧σ=[some (.str z),some (.int n),some (.int x),some (.int y),v4,v5,none]) ⟨rfl,0,0,none,none,rfl,rfl,rfl⟩ ?_ ?_⟩
 ·rintro i σ H2 hi ⟨rfl,x,y,v4,v5,rfl,rfl,rfl⟩;obtain⟨d,hd,e1,e2⟩:=kB hz hi;refine⟨_,(d:Int),rfl,by rw[e1];exact kN hd,by rw[e1];show 1≤640;decide,?_⟩;refine⟨.inr ⟨by decide,by decide⟩,(by show (0:Int) < 2;decide),?_⟩;refine⟨.inr ⟨by decide,by decide⟩,cK (by decide) (by decide),?_⟩;refine⟨rfl,_,_,_,_,?_,?_,rfl⟩
  ·rw[uH hi,uL,e2];rfl
  ·rw[uH hi,uK,e2];rfl
 ·rintro σ H2 ⟨rfl,x,y,v4,v5,rfl,rfl,rfl⟩;have et:(dig z).take z.length=dig z:=GV (by rw[cP];exact GB _);rw[et];have e:(n:Int) - (z.length:Int)=((n - z.length:Nat):Int):=by lia
  refine⟨_,_,rfl,⟨hs,rfl⟩,n - z.length,(by show [V.int _]=[V.int _];rw[e]),by lia,?_⟩;have hw:=Ge (k:=n - z.length) (by lia);refine⟨.inr hw,.inr hw,(leZ rfl),fun p hp =>?_⟩;refine q' p _ (s1.trans (am.new hp _)) ?_;rw[ah,Iu,Iu]
end
theorem oX {n x y k:Nat}(h:k < n):(low n x y).take (k + 1)=(low n x y).take k++[dgt x y (n - 1 - k)]:=by
 rw[G_]
 congr 1
 simp[low,h]
theorem Cr (ds:List Nat)(k:Nat):pre (txt ds) k=txt (ds.take k):=by
 unfold pre txt;simp[List.map_take]
theorem xM {n x y:Nat}(hx:x < 2 ^ n):∀ k,k≤n→cxs ((low n x y).take k)=x / 2 ^ (n - k)
 | 0,_=>by rw[JH,Nat.div_eq_of_lt hx];rfl
 | k + 1,h=>by
  rw[oX (by assumption),uL,xM hx k (by lia)];have e:n - k=(n - (k + 1)) + 1:=by lia
  have e1:n - 1 - k=n - (k + 1):=by lia
  rw[e,← nU,e1];unfold dgt
  lia
theorem xL {n x y:Nat}(hy:y < 2 ^ n):∀ k,k≤n→cys ((low n x y).take k)=y / 2 ^ (n - k)
 | 0,_=>by rw[JH,Nat.div_eq_of_lt hy];rfl
 | k + 1,h=>by
  rw[oX (by assumption),uK,xL hy k (by lia)];have e:n - k=(n - (k + 1)) + 1:=by lia
  have e1:n - 1 - k=n - (k + 1):=by lia
  rw[e,← nU,e1];unfold dgt
  lia
section
variable {P:Program}{w:World}{K:PySem.W.Frag}{mg:Str→Option Value}{base:Heap}{CX:CXT}{f:Addr}{fd:FuncData}
abbrev lF:Stmt:=top 37
theorem dH:az ["sheet","x","y","code","tree","signs"] ["sheet","x","y"] (aj lF):={}
inductive mO  (vs:List V)(H:Hp)(Q:VK):Prop
 | mk (v:V) (t:Tr) (n x y:Nat) (h_0:vs=[v,.int x,.int y]) (h_1:EW H v n t) (h_2:aP n t) (h_3:n≤40) (h_4:x < 2 ^ n) (h_5:y < 2 ^ n) (h_6:∀ (i:Nat) (c:Int) H',am H H'→i≤n→iZ t ((low n x y).take i)=some (.col c)→Q (.str (txt ((low n x y).take i))) H'):mO  vs H Q
def vo:Sp:=fun vs H Q _=>mO  vs H Q
def jC (Y:Yx K mg)(vs:List V)(H:Hp)(E:XK):Prop:=∃ (v x y:V) (n:Nat) (t:Tr),vs=[v,x,y]∧EW H v n t∧n≤40∧(fg K H n x∨(iX n x∧fg K H n y))∧∀ H',am H H'→E (.ref Y.c_NoPlace) none H'
def dU (Y:Yx K mg):Sp:=fun vs H Q E=>vo vs H Q E∨jC Y vs H E
theorem vT (T:Tx K mg)(Y:Yx K mg)(q:br (CXe P w))(F:aT K "leaf_at" "leaf_at" lF f fd .none)(C_code_at:Fok P w K mg base (CXe P w) 4 "code_at" ["x","y","level"] [] (mC Y)):bd P w K mg base (CXe P w) 5 f fd ["sheet","x","y"] (dU Y):=by
 refine F.okX dH (fun vs H Q E h =>?_) (fun cdv A outer s H vs Q E hr h =>?_)
 ·rcases h with h|h<;>
  ·obtain⟨_,_,_,_,_,rfl,_⟩:=h;rfl
 refine⟨_,(ac (aq (i:=3) dH (bI C_code_at hr fX (aa (pv 1) (aa (pv 2) (aa (aB aF (pv 0) ae) af))))) (ac (aq (i:=4) dH (aB aF (pv 0) ae)) (ac (aq (i:=5) dH ae) (ac (kE Hx (bS (aw (bq "tuple") rfl T.b_isinstance au (aa (pv 4) (aa (cQ T.b_tuple eA) af)))) (ac (aq (i:=4) dH (aB aF (pv 4) (bA dA rfl T.b_int gE (aa (aB js (pv 3) (pv 5)) af)))) (ag (aq (i:=5) dH (ak aK (pv 5) ae))))) (ag (av (fK jV (pv 3) iu (ir (pv 5))))))))),?_⟩
 rcases h with h|⟨v,x,y,n,t,rfl,⟨p,vt,rfl,hp,ht⟩,hn,bp,e'⟩
 rotate_left
 ·exact⟨p,_,_,_,rfl,rfl,SqT.of hp,rfl,x,y,n,rfl,hn,.inr ⟨bp,e'⟩⟩
 obtain⟨v,t,n,x,y,rfl,⟨p,vt,rfl,hp,ht⟩,gt,hn,hx,hy,q'⟩:=h;have zs:(txt (low n x y)).length≤sizeLine:=by rw[eP,rV];exact small (by lia)
 refine⟨p,_,_,_,rfl,rfl,SqT.of hp,rfl,_,_,n,rfl,hn,.inl ⟨x,y,rfl,rfl,hx,hy,fun H1 s1 =>?_⟩⟩;refine⟨p,_,_,_,rfl,rfl,SqT.of (s1 _ _ hp),rfl,?_⟩;refine zw (fun σ H2=>H2=H1∧∃ (i:Nat) (v':V) (t':Tr),i≤n∧bu H1 v' t'∧iZ t ((low n x y).take i)=some t'∧aP (n - i) t'∧σ=[some (.ref p),some (.int x),some (.int y),some (.str (txt (low n x y))),some v',some (.int (i:Int))]) (fun σ H2=>match σ with | [_,_,_,_,_,some (.int i)]=>n - i.toNat | _=>0) ⟨rfl,0,vt,t,GF _,ht.up s1.tups,rfl,gt,rfl⟩ ?_ ?_
 ·rintro σ H2 ⟨rfl,i,v',t',hi,ht',hnd,gt',rfl⟩;cases ht' with
  | col j =>
   refine⟨_,_,_,rfl,.int j,kh,ap (cH ?_)⟩;refine⟨_,rfl,_,rfl,zs,?_⟩;rw[gM,Cr];exact q' i j H2 s1 hi hnd
  | @four r xa xb xc xd ta tb tc td e ja jb jc jd =>
   have hi1:i < n:=by
    rcases Je i n with z|z
    ·exact z
    ·rw[show n - i=0 by lia]at gt';exact gt'.elim
   have ed:(low n x y).take (i + 1)=(low n x y).take i++[dgt x y (n - 1 - i)]:=oX hi1;have hd:dgt x y (n - 1 - i) < 4:=sC ..;have ga:(low n x y)[i]? = some (dgt x y (n - 1 - i)):=by simp[low,hi1]
   generalize dgt x y (n - 1 - i)=d at *;rw[show n - i=(n - (i + 1)) + 1 by lia]at gt';obtain⟨g1,g2,g3,g4,_⟩:=gt';have key:∃ x',atI [xa,xb,xc,xd] (d:Int)=some x'∧bu H2 x' (qk (.four ta tb tc td) d)∧aP (n - (i + 1)) (qk (.four ta tb tc td) d):=by
    rcases d with _|_|_|_|d
    ·exact⟨xa,rfl,ja,g1⟩
    ·exact⟨xb,rfl,jb,g2⟩
    ·exact⟨xc,rfl,jc,g3⟩
    ·exact⟨xd,rfl,jd,g4⟩
    ·lia
   obtain⟨x',ex,kx,gx⟩:=key;have at':atI (txt (low n x y)).cps.toList (i:Int)=some (48 + d):=dB (by show (((low n x y).map (48 + ·)).toArray).toList[i]? = _;simp[ga]);refine⟨_,_,_,rfl,.tup e,kg,ap (fR ?_)⟩;refine⟨_,i,48 + d,rfl,rfl,zs,at',_,(d:Int),rfl,kN hd,by show (1:Nat)≤640;decide,r,_,_,x',rfl,rfl,SqT.of e,ex,?_⟩;refine⟨⟨rfl,i + 1,x',_,by assumption,kx,?_,gx,by simp⟩,?_⟩
   ·rw[ed,oR,hnd];rfl
   ·show n - ((i:Int) + 1).toNat < n - ((i:Int)).toNat
    lia
 ·rintro σ H2 Q1 Q2 k h;obtain⟨_,e1,h_⟩:=ce h;obtain⟨b,c,d,e2,e3,e4,h_⟩:=h_;obtain⟨_,f1,f2⟩:=kH h_;exact (cX e1 ⟨b,c,d,e2,e3,e4,AG f1 (k _ _ f2)⟩)
end
abbrev Pt:Type:=Int × Int
def ux (d:Nat):Int:=if d=0 then 1 else if d=2 then -1 else 0
def uy (d:Nat):Int:=if d=1 then 1 else if d=3 then -1 else 0
def rtx (d:Nat):Int:=if d=1∨d=2 then -1 else 0
def rty (d:Nat):Int:=if d=2∨d=3 then -1 else 0
def go (a:Pt)(k:Nat)(d:Nat):Pt:=(a.1 + k * ux d,a.2 + k * uy d)
def cl (C:Int→Int→Prop)(p:Pt)(d:Nat):Prop:=C (p.1 + rtx d) (p.2 + rty d)
def Bd (C:Int→Int→Prop)(p:Pt)(d:Nat):Prop:=cl C p d∧¬ cl C p ((d + 3) % 4)
theorem dR {d:Nat}(h:d < 4):d=0∨d=1∨d=2∨d=3:=by lia
theorem si (a:Pt)(d:Nat):go a 0 d=a:=by simp[go]
theorem Bj (a:Pt)(k j d:Nat):go (go a k d) j d=go a (k + j) d:=by
 refine Prod.ext ?_ ?_<;>simp only[go,IV,Int.add_mul]<;>lia
theorem pi {a:Pt}{k j d:Nat}(h4:d < 4)(h:go a k d=go a j d):k=j:=by
 have h1:=Hn Prod.fst h;have h2:=Hn Prod.snd h;rcases dR h4 with rfl | rfl | rfl | rfl<;>simp[go,ux,uy]at h1 h2<;>lia
theorem qK {a b:Pt}{k d:Nat}(h:go a k d=go b k d):a=b:=by
 have h1:=Hn Prod.fst h;have h2:=Hn Prod.snd h;simp only[go]at h1 h2;exact Prod.ext (by lia) (by lia)
theorem FE {C:Int→Int→Prop}{a p:Pt}{d:Nat}(h4:d < 4)(h:go a 1 d=p):Bd C a d↔cl C p ((d + 1) % 4)∧¬ cl C p ((d + 2) % 4):=by
 subst h;unfold Bd cl;rcases dR h4 with rfl | rfl | rfl | rfl<;>simp[go,ux,uy,rtx,rty,Int.add_assoc]
structure Pcs (C:Int→Int→Prop)(D:Pt→Nat→Option Pt):Prop where
 way:∀ {a d e},D a d=some e→d < 4
 len:∀ {a d e},D a d=some e→∃ l:Nat,0 < l∧e=go a l d∧∀ k < l,Bd C (go a k d) d
 all:∀ {p d},d < 4→Bd C p d→∃ a l k,D a d=some (go a l d)∧k < l∧p=go a k d
 one:∀ {a b d l m k j},D a d=some (go a l d)→D b d=some (go b m d)→k < l→j < m→go a k d=go b j d→a=b
def turn (C:Int→Int→Prop)(p:Pt)(d:Nat)(e:Nat):Prop:=(¬ cl C p d∧e=(d + 1) % 4)∨(cl C p d∧¬ cl C p ((d + 3) % 4)∧e=d)∨(cl C p d∧cl C p ((d + 3) % 4)∧e=(d + 3) % 4)
section
variable {C:Int→Int→Prop}{D:Pt→Nat→Option Pt}
theorem Pcs.last (h:Pcs C D){a p:Pt}{d:Nat}(e:D a d=some p):∃ l b,p=go a (l + 1) d∧b=go a l d∧go b 1 d=p∧(cl C p ((d + 1) % 4)∧¬ cl C p ((d + 2) % 4)):=by
 obtain⟨l,hl,ep,hb⟩:=h.len e;obtain⟨m,rfl⟩:∃ m,l=m + 1:=⟨l - 1,by lia⟩;have e1:go (go a m d) 1 d=p:=by rw[Bj];exact ep.symm
 exact⟨m,_,ep,rfl,e1,(FE (h.way e) e1).mp (hb m (by simp))⟩
theorem Pcs.begins (h:Pcs C D){p:Pt}{d:Nat}(h4:d < 4)(hb:Bd C p d)(hw:¬ (cl C p ((d + 1) % 4)∧¬ cl C p ((d + 2) % 4))∨∃ a,D a d=some p):(D p d).isSome=true:=by
 obtain⟨a,l,k,e,hk,ep⟩:=h.all h4 hb;by_cases k0:k=0
 ·subst k0;rw[ep,si,e];rfl
 exfalso
 obtain⟨j,rfl⟩:∃ j,k=j + 1:=⟨k - 1,by lia⟩;have e1:go (go a j d) 1 d=p:=by rw[Bj];exact ep.symm
 rcases hw with hw|⟨b,eb⟩
 ·obtain⟨l',_,e2,hB⟩:=h.len e;have e3:=pi h4 e2;exact hw ((FE h4 e1).mp (hB j (by lia)))
 ·obtain⟨m,b',e4,e5,e6,_⟩:=h.last eb;have e7:go a j d=go b m d:=by rw[← e5];exact qK (e1.trans e6.symm)
  have e8:=h.one e (by rw[← e4];exact eb) (show j < l by lia) (show m < m + 1 by simp) e7;subst e8;rw[eb]at e;have e9:=pi h4 (e4.symm.trans (Option.some.inj e));have e10:=pi h4 e7
  lia
theorem Pcs.first (h:Pcs C D){p:Pt}{d:Nat}(e:(D p d).isSome=true):d < 4∧Bd C p d:=by
 obtain⟨q,e⟩:=G9.mp e;obtain⟨l,hl,_,hb⟩:=h.len e
 have:=hb 0 hl
 rw[si]at this;exact⟨h.way e,this⟩
def nx (D:Pt→Nat→Option Pt)(x:Pt × Nat):Pt × Nat:=match D x.1 x.2 with
 | none=>x
 | some p=>if (D p ((x.2 + 1) % 4)).isSome=true then (p,(x.2 + 1) % 4) else if (D p x.2).isSome=true then (p,x.2) else (p,(x.2 + 3) % 4)
theorem nH {a p:Pt}{d:Nat}(e:D a d=some p):nx D (a,d)=if (D p ((d + 1) % 4)).isSome=true then (p,(d + 1) % 4) else if (D p d).isSome=true then (p,d) else (p,(d + 3) % 4):=by
 unfold nx;dsimp only;rw[e]
theorem rR (h:Pcs C D){a p:Pt}{d:Nat}(e:D a d=some p):∃ e',nx D (a,d)=(p,e')∧(D p e').isSome=true∧turn C p d e'∧e' < 4:=by
 have h4:=h.way e;obtain⟨l,b,e1,e2,e3,c1,c2⟩:=h.last e;rw[nH e];have m1:((d + 1) % 4 + 3) % 4=d:=by omega
 have m2:((d + 1) % 4 + 1) % 4=(d + 2) % 4:=by simp
 have m3:((d + 3) % 4 + 3) % 4=(d + 2) % 4:=by lia
 have m4:((d + 3) % 4 + 1) % 4=d:=by omega
 have m5:((d + 3) % 4 + 2) % 4=(d + 1) % 4:=by lia
 by_cases q1:(D p ((d + 1) % 4)).isSome=true
 ·rw[if_pos q1]
  have:=(h.first q1).2.2
  rw[m1]at this;exact⟨_,rfl,q1,.inl ⟨this,rfl⟩,by lia⟩
 rw[if_neg q1];have cd:cl C p d:=Classical.byContradiction fun n=>q1 (h.begins (by lia) ⟨c1,by rw[m1];exact n⟩ (.inl fun k=>c2 (by rw[m2]at k;exact k.1)));by_cases q2:(D p d).isSome=true
 ·rw[if_pos q2];exact⟨_,rfl,q2,.inr (.inl ⟨cd,(h.first q2).2.2,rfl⟩),h4⟩
 rw[if_neg q2];have c3:cl C p ((d + 3) % 4):=Classical.byContradiction fun n=>q2 (h.begins h4 ⟨cd,n⟩ (.inr ⟨a,e⟩));refine⟨_,rfl,h.begins (by lia) ⟨c3,by rw[m3];exact c2⟩ (.inl fun k=>k.2 (by rw[m5];exact c1)),.inr (.inr ⟨cd,c3,rfl⟩),by lia⟩
theorem xZ {p:Pt}{d d' e:Nat}(h:d < 4)(h':d' < 4)(a1:cl C p ((d + 1) % 4))(a2:¬ cl C p ((d + 2) % 4))(b1:cl C p ((d' + 1) % 4))(b2:¬ cl C p ((d' + 2) % 4))(t:turn C p d e)(t':turn C p d' e):d=d':=by
 unfold turn at t t';rcases dR h with rfl | rfl | rfl | rfl<;>rcases dR h' with rfl | rfl | rfl | rfl<;>first
  | rfl
  | (exfalso
     simp only[Nat.reduceAdd,Nat.reduceMod]at a1 a2 b1 b2 t t';generalize cl C p 0=c0 at *;generalize cl C p 1=c1 at *;generalize cl C p 2=c2 at *;generalize cl C p 3=c3 at *;rcases t with⟨t1,t2⟩ | ⟨t1,t3,t2⟩ | ⟨t1,t3,t2⟩<;>rcases t' with⟨u1,u2⟩ | ⟨u1,u3,u2⟩ | ⟨u1,u3,u2⟩<;>first | contradiction | lia)
theorem Ee (h:Pcs C D){x y:Pt × Nat}(hx:(D x.1 x.2).isSome=true)(hy:(D y.1 y.2).isSome=true)(e:nx D x=nx D y):x=y:=by
 obtain⟨a,d⟩:=x;obtain⟨b,d'⟩:=y;obtain⟨p,ep⟩:=G9.mp hx;obtain⟨q,eq⟩:=G9.mp hy;dsimp only at ep eq;obtain⟨e1,n1,_,t1,_⟩:=rR h ep;obtain⟨e2,n2,_,t2,_⟩:=rR h eq;rw[n1,n2]at e;injection e with k1 k2;subst k1 k2;obtain⟨l,b1,f1,f2,f3,c1,c2⟩:=h.last ep;obtain⟨m,b2,g1,g2,g3,c3,c4⟩:=h.last eq;have dd:=xZ (h.way ep) (h.way eq) c1 c2 c3 c4 t1 t2;subst dd;have e7:go a l d=go b m d:=by rw[← f2,← g2];exact qK (f3.trans g3.symm)
 have:=h.one (by rw[← f1];exact ep) (by rw[← g1];exact eq) (Jg l) (Jg m) e7
 rw[this]
end
def it {α:Type}(f:α→α):Nat→α→α
 | 0,a=>a
 | n + 1,a=>f (it f n a)
theorem Bg {α:Type}(f:α→α)(a:α)(i:Nat):∀ j,it f j (it f i a)=it f (i + j) a
 | 0=>rfl
 | j + 1=>by
  show f (it f j (it f i a))=f (it f (i + j) a);rw[Bg f a i j]
theorem o_ {α:Type}{f:α→α}{S:α→Prop}(hS:∀ a,S a→S (f a)){a:α}(h:S a):∀ n,S (it f n a)
 | 0=>h
 | n + 1=>hS _ (o_ hS h n)
theorem Be {α:Type}{f:α→α}{S:α→Prop}(hS:∀ a,S a→S (f a))(hi:∀ a b,S a→S b→f a=f b→a=b){a b:α}(ha:S a)(hb:S b):∀ n,it f n a=it f n b→a=b
 | 0,e=>e
 | n + 1,e=>Be hS hi ha hb n (hi _ _ (o_ hS ha n) (o_ hS hb n) e)
theorem lX {α:Type}[DecidableEq α]:∀ {l S:List α},l.Nodup→(∀ x∈l,x∈S)→l.length≤S.length
 | [],_,_,_=>GF _
 | x::l,S,nd,h=>by
  obtain⟨n1,n2⟩:=HN.mp nd;have hx:=h x GO
  have:=lX (l:=l) (S:=S.erase x) n2 fun y hy=>(Jm (fun (e:y=x)=>n1 (by rw[← e];exact hy))).mpr (h y (GG _ hy))
  rw[List.length_erase_of_mem hx]at this
  have:=IX hx
  simp only[G2]
  lia
theorem FA {P:Nat→Prop}{n:Nat}(h:P n):∃ m,P m∧m≤n∧∀ k < m,¬ P k:=by
 induction n using Nat.strongRecOn with
 | ind n ih =>
  by_cases c:∃ k,k < n∧P k
  ·obtain⟨k,hk,pk⟩:=c;obtain⟨m,h1,h2,h3⟩:=ih k hk pk;exact⟨m,h1,by lia,h3⟩
  ·exact⟨n,h,GB _,fun k hk pk=>c ⟨k,hk,pk⟩⟩
theorem Fq {α:Type}[DecidableEq α]{f:α→α}{S:List α}(hS:∀ a∈S,f a∈S)(hi:∀ a b,a∈S→b∈S→f a=f b→a=b){a:α}(ha:a∈S):
  ∃ N,0 < N∧N≤S.length∧(it f N a=a∧∀ i j,i < j→j < N→it f i a≠it f j a):=by
 have mem:∀ n,it f n a∈S:=o_ (S:=(· ∈ S)) hS ha;have uV:∀ i j,i < j→it f i a=it f j a→it f (j - i) a=a:=fun i j hij e=>by
  have:it f i (it f (j - i) a)=it f i a:=by rw[Bg,show j - i + i=j by lia];exact e.symm
  exact Be (S:=(· ∈ S)) hS hi (mem _) ha i this
 have ex:∃ i j,i < j∧j≤S.length∧it f i a=it f j a:=Classical.byContradiction fun no=>by
  have nd:((List.range (S.length + 1)).map fun k=>it f k a).Nodup:=by
   unfold List.Nodup;rw[Hg]
   have:(List.range (S.length + 1)).Pairwise fun x y=>x < y∧y≤S.length:=by
    rw[HH];intro i j hi hj hij;simp at hi hj ⊢
    lia
   exact this.imp fun {x y} h e=>no ⟨x,y,h.1,h.2,e⟩
  have:=lX (S:=S) nd fun x hx=>by
   obtain⟨k,_,rfl⟩:=GC.mp hx;exact mem k
  simp at this
  lia
 obtain⟨i,j,hij,hj,e⟩:=ex;have hP:0 < j - i∧it f (j - i) a=a:=⟨by lia,uV i j hij e⟩;obtain⟨N,⟨h1,h2⟩,h3,h4⟩:=FA (P:=fun n=>0 < n∧it f n a=a) hP;refine⟨N,h1,by lia,h2,fun i j hij hjN e =>?_⟩;exact h4 (j - i) (by lia) ⟨by lia,uV i j hij e⟩
def axd (d:Nat):Bool:=decide (d=0∨d=2)
def sgd (d:Nat):Bool:=decide (d=0∨d=3)
def InS (q:Sq)(x y:Int):Prop:=(q.x:Int)≤x∧x < q.x + q.w∧(q.y:Int)≤y∧y < q.y + q.w
def tlo (q:Sq)(d:Nat):Int:=if axd d then q.x else q.y
def gA (L:List Sq)(q:Sq)(d:Nat):List Sq:=L.filter fun r=>dZ (axd d) (sgd d) q r.x r.y r.w
def cj (L:List Sq)(q:Sq)(d:Nat):List (Int × Int):=if gA L q d=[] then [(tlo q d,tlo q d + q.w)] else ((gA L q d).filter fun r=>decide (r.c≠q.c)).map fun r=>(max (tlo q d) (tlo r d),min (tlo q d + q.w) (tlo r d + r.w))
def bY (q:Sq)(d:Nat)(be:Int × Int):Pt × Pt :=
 if d=0 then ((be.1,q.y),(be.2,q.y)) else if d=1 then ((q.x + q.w,be.1),(q.x + q.w,be.2)) else if d=2 then ((be.2,q.y + q.w),(be.1,q.y + q.w)) else ((q.x,be.2),(q.x,be.1))
def gen (q:Sq)(d:Nat)(be:Int × Int):NK × Pt:=(((bY q d be).1,(d:Int)),(bY q d be).2)
def G1 (L:List Sq)(q:Sq)(d:Nat):List (NK × Pt):=(cj L q d).map (gen q d)
def GL (L M:List Sq):List (NK × Pt):=M.flatMap fun q=>(List.range 4).flatMap fun d=>G1 L q d
theorem mr {L M:List Sq}{p:NK × Pt}:p∈GL L M↔∃ q∈M,∃ d,d < 4∧∃ be∈cj L q d,p=gen q d be:=by
 unfold GL G1;simp only[List.mem_flatMap,GC,Jb];constructor
 ·rintro⟨q,hq,d,hd,be,hb,rfl⟩;exact⟨q,hq,d,hd,be,hb,rfl⟩
 ·rintro⟨q,hq,d,hd,be,hb,rfl⟩;exact⟨q,hq,d,hd,be,hb,rfl⟩
def rcx (q:Sq)(d:Nat)(t:Int):Int:=if d=0∨d=2 then t else if d=1 then q.x + q.w - 1 else q.x
def rcy (q:Sq)(d:Nat)(t:Int):Int:=if d=1∨d=3 then t else if d=2 then q.y + q.w - 1 else q.y
def lcx (q:Sq)(d:Nat)(t:Int):Int:=if d=0∨d=2 then t else if d=1 then q.x + q.w else q.x - 1
def lcy (q:Sq)(d:Nat)(t:Int):Int:=if d=1∨d=3 then t else if d=2 then q.y + q.w else q.y - 1
structure Lnd (L M:List Sq)(W:Int)(col:Int):Prop where
 pos:∀ q∈L,0 < q.w
 apart:∀ q∈L,∀ r∈L,∀ x y,InS q x y→InS r x y→q=r
 cover:∀ x y,0≤x→x < W→0≤y→y < W→∃ q∈L,InS q x y
 inside:∀ q∈L,(q.x:Int) + q.w≤W∧(q.y:Int) + q.w≤W
 sub:∀ q∈M,q∈L
 colour:∀ q∈M,q.c=col
 closed:∀ q∈M,∀ r∈L,∀ d,d < 4→dZ (axd d) (sgd d) q r.x r.y r.w=true→r.c=col→r∈M
def CM (M:List Sq)(x y:Int):Prop:=∃ q∈M,InS q x y
theorem lZ {q r:Sq}{d:Nat}(h4:d < 4):dZ (axd d) (sgd d) q r.x r.y r.w=true ↔
  (if d=0 then r.y + r.w=q.y else if d=1 then r.x=q.x + q.w else if d=2 then r.y=q.y + q.w else r.x + r.w=q.x)∧tlo q d < tlo r d + r.w∧tlo r d < tlo q d + q.w:=by
 unfold dZ;rw[HF];unfold eK;rcases dR h4 with rfl | rfl | rfl | rfl<;>simp[axd,sgd,nC,tC',tlo]<;>omega
section
variable {L M:List Sq}{W col:Int}
theorem Lnd.lies (h:Lnd L M W col){q r:Sq}(hq:q∈L)(hr:r∈L){d:Nat}(h4:d < 4){t:Int}(ht:tlo q d≤t∧t < tlo q d + q.w)(hi:InS r (lcx q d t) (lcy q d t)):r∈gA L q d∧tlo r d≤t∧t < tlo r d + r.w:=by
 have hw:=h.pos q hq;have hqi:InS q (rcx q d t) (rcy q d t):=by
  unfold InS;rcases dR h4 with rfl | rfl | rfl | rfl<;>simp[rcx,rcy,tlo,axd]at ht ⊢<;>lia
 have hne:¬ InS r (rcx q d t) (rcy q d t):=fun c=>by
  have e:=h.apart q hq r hr _ _ hqi c;subst e;unfold InS at hi;rcases dR h4 with rfl | rfl | rfl | rfl<;>simp[lcx,lcy]at hi<;>omega
 have hne2:∀ x y,InS q x y→¬ InS r x y:=fun x y hx c=>by
  have e:=h.apart q hq r hr _ _ hx c;subst e;exact hne hqi
 have rw':=h.pos r hr;unfold gA;rw[Hq,lZ h4];unfold InS at hi hne hqi;rcases dR h4 with rfl | rfl | rfl | rfl<;>simp[lcx,lcy,rcx,rcy,tlo,axd]at hi hne ht ⊢<;>refine⟨⟨hr,?_⟩,?_⟩<;>lia
theorem Lnd.bare (h:Lnd L M W col){q:Sq}(hq:q∈M){d:Nat}(h4:d < 4){be:Int × Int}(hb:be∈cj L q d):be.1 < be.2∧∀ t,be.1≤t→t < be.2→tlo q d≤t∧t < tlo q d + q.w∧CM M (rcx q d t) (rcy q d t)∧¬ CM M (lcx q d t) (lcy q d t):=by
 have hL:=h.sub q hq;have hw:=h.pos q hL;have rc:∀ t,tlo q d≤t→t < tlo q d + q.w→CM M (rcx q d t) (rcy q d t):=fun t h1 h2=>⟨q,hq,by
  unfold InS;rcases dR h4 with rfl | rfl | rfl | rfl<;>simp[rcx,rcy,tlo,axd]at h1 h2 ⊢<;>lia⟩
 unfold cj at hb
 split at hb
 ·rename_i e
  have:=GI.mp hb
  subst this;refine⟨by dsimp only;lia,fun t h1 h2=>⟨h1,h2,rc t h1 h2,?_⟩⟩;rintro⟨r,hr,hi⟩
  have:=(h.lies hL (h.sub r hr) h4 ⟨h1,h2⟩ hi).1
  rw[e]at this;cases this
 ·obtain⟨r,hr,rfl⟩:=GC.mp hb;obtain⟨hr1,hr2⟩:=Hq.mp hr;have hrL:r∈L:=(Hq.mp hr1).1;have hl:=(lZ h4).mp (Hq.mp hr1).2;have hrc:r.c≠q.c:=G6 hr2;have hrw:=h.pos r hrL;refine⟨by dsimp only;omega,fun t h1 h2 =>?_⟩;dsimp only at h1 h2;have k1:tlo q d≤t:=by lia
  have k2:t < tlo q d + q.w:=by lia
  refine⟨k1,k2,rc t k1 k2,?_⟩;rintro⟨r',hr',hi⟩;have hi2:InS r (lcx q d t) (lcy q d t):=by
   unfold InS;rcases dR h4 with rfl | rfl | rfl | rfl<;>simp[lcx,lcy,tlo,axd]at hl h1 h2 ⊢<;>lia
  have e:=h.apart r' (h.sub r' hr') r hrL _ _ hi hi2;subst e;exact hrc ((h.colour r' hr').trans (h.colour q hq).symm)
theorem Lnd.part_one (h:Lnd L M W col){q:Sq}(hq:q∈M){d:Nat}(h4:d < 4){be be':Int × Int}(hb:be∈cj L q d)(hb':be'∈cj L q d){t:Int}(ht:be.1≤t∧t < be.2)(ht':be'.1≤t∧t < be'.2):be=be':=by
 have hL:=h.sub q hq;unfold cj at hb hb'
 split at hb
 ·rename_i e
  rw[if_pos e]at hb';rw[GI.mp hb,GI.mp hb']
 ·rename_i e
  rw[if_neg e]at hb';obtain⟨r,hr,rfl⟩:=GC.mp hb;obtain⟨r',hr',rfl⟩:=GC.mp hb';have go:∀ r,r∈(gA L q d).filter (fun r=>decide (r.c≠q.c))→max (tlo q d) (tlo r d)≤t→t < min (tlo q d + q.w) (tlo r d + r.w)→r∈L∧InS r (lcx q d t) (lcy q d t):=fun r hr h1 h2=>by
   have hr1:=(Hq.mp hr).1;have hl:=(lZ h4).mp (Hq.mp hr1).2;have hrL:r∈L:=(Hq.mp hr1).1;have hrw:=h.pos r hrL;refine⟨hrL,?_⟩;unfold InS;rcases dR h4 with rfl | rfl | rfl | rfl<;>simp[lcx,lcy,tlo,axd]at hl h1 h2 ⊢<;>lia
  obtain⟨a1,a2⟩:=go r hr ht.1 ht.2;obtain⟨b1,b2⟩:=go r' hr' ht'.1 ht'.2;rw[h.apart r a1 r' b1 _ _ a2 b2]
theorem Lnd.part_of (h:Lnd L M W col){q:Sq}(hq:q∈M){d:Nat}(h4:d < 4){t:Int}(h1:tlo q d≤t)(h2:t < tlo q d + q.w)(hn:¬ CM M (lcx q d t) (lcy q d t)):∃ be∈cj L q d,be.1≤t∧t < be.2:=by
 have hL:=h.sub q hq;have hw:=h.pos q hL;obtain⟨i1,i2⟩:=h.inside q hL;unfold cj;by_cases e:gA L q d=[]
 ·rw[if_pos e];exact⟨_,GI.mpr rfl,h1,h2⟩
 ·rw[if_neg e];obtain⟨o,ho⟩:=List.exists_mem_of_ne_nil _ e;obtain⟨o1,o2⟩:=Hq.mp ho;have ol:=(lZ h4).mp o2;obtain⟨j1,j2⟩:=h.inside o o1;have ow:=h.pos o o1;obtain⟨r,hr,hi⟩:∃ r∈L,InS r (lcx q d t) (lcy q d t):=by
   refine h.cover _ _ ?_ ?_ ?_ ?_<;>rcases dR h4 with rfl | rfl | rfl | rfl<;>simp[lcx,lcy,tlo,axd]at ol h1 h2 ⊢<;>lia
  obtain⟨k1,k2,k3⟩:=h.lies hL hr h4 ⟨h1,h2⟩ hi;have hc:r.c≠q.c:=fun c=>hn ⟨r,h.closed q hq r hr d h4 (Hq.mp k1).2 (c.trans (h.colour q hq)),hi⟩;exact⟨_,GC.mpr ⟨r,Hq.mpr ⟨k1,GH hc⟩,rfl⟩,by dsimp only;lia,by dsimp only;lia⟩
def iY (d:Nat)(be:Int × Int)(k:Nat):Int:=if d=0∨d=1 then be.1 + k else be.2 - 1 - k
theorem pr {q:Sq}{d:Nat}(h4:d < 4)(be:Int × Int)(k:Nat):(go (bY q d be).1 k d).1 + rtx d=rcx q d (iY d be k)∧(go (bY q d be).1 k d).2 + rty d=rcy q d (iY d be k)∧(go (bY q d be).1 k d).1 + rtx ((d + 3) % 4)=lcx q d (iY d be k)∧(go (bY q d be).1 k d).2 + rty ((d + 3) % 4)=lcy q d (iY d be k):=by
 rcases dR h4 with rfl|rfl|rfl|rfl<;>simp[go,ux,uy,rtx,rty,bY,rcx,rcy,lcx,lcy,iY]<;>lia
theorem nK {q:Sq}{d:Nat}(h4:d < 4){be:Int × Int}(h:be.1 < be.2):(bY q d be).2=go (bY q d be).1 (be.2 - be.1).toNat d:=by
 have e:((be.2 - be.1).toNat:Int)=be.2 - be.1:=by lia
 rcases dR h4 with rfl|rfl|rfl|rfl<;>refine Prod.ext ?_ ?_<;>simp[go,ux,uy,bY,e]<;>lia
theorem q_ {d:Nat}{be:Int × Int}{k:Nat}(h:k < (be.2 - be.1).toNat):be.1≤iY d be k∧iY d be k < be.2:=by
 unfold iY
 split<;>lia
theorem Ez (h:Lnd L M W col){q:Sq}(hq:q∈M){d:Nat}(h4:d < 4){be:Int × Int}(hb:be∈cj L q d){k:Nat}(hk:k < (be.2 - be.1).toNat):Bd (CM M) (go (bY q d be).1 k d) d:=by
 obtain⟨e1,e2,e3,e4⟩:=pr (q:=q) h4 be k;obtain⟨u1,u2⟩:=q_ (d:=d) hk;obtain⟨_,_,c1,c2⟩:=(h.bare hq h4 hb).2 _ u1 u2;unfold Bd cl;rw[e1,e2,e3,e4];exact⟨c1,c2⟩
theorem xB (h:Lnd L M W col){q q':Sq}(hq:q∈M)(hq':q'∈M){d:Nat}(h4:d < 4){be be':Int × Int}(hb:be∈cj L q d)(hb':be'∈cj L q' d){k j:Nat}(hk:k < (be.2 - be.1).toNat)(hj:j < (be'.2 - be'.1).toNat)(e:go (bY q d be).1 k d=go (bY q' d be').1 j d):q=q'∧be=be':=by
 obtain⟨e1,e2,_,_⟩:=pr (q:=q) h4 be k;obtain⟨f1,f2,_,_⟩:=pr (q:=q') h4 be' j;rw[e]at e1 e2;have g1:rcx q d (iY d be k)=rcx q' d (iY d be' j):=e1.symm.trans f1;have g2:rcy q d (iY d be k)=rcy q' d (iY d be' j):=e2.symm.trans f2;obtain⟨u1,u2⟩:=q_ (d:=d) hk;obtain⟨v1,v2⟩:=q_ (d:=d) hj;have w1:=h.pos q (h.sub q hq);have w2:=h.pos q' (h.sub q' hq');obtain⟨a1,a2,_,_⟩:=(h.bare hq h4 hb).2 _ u1 u2;obtain⟨b1,b2,_,_⟩:=(h.bare hq' h4 hb').2 _ v1 v2;have i1:InS q (rcx q d (iY d be k)) (rcy q d (iY d be k)):=by
  unfold InS;rcases dR h4 with rfl | rfl | rfl | rfl<;>simp[rcx,rcy,tlo,axd]at a1 a2 ⊢<;>lia
 have i2:InS q' (rcx q d (iY d be k)) (rcy q d (iY d be k)):=by
  rw[g1,g2];unfold InS;rcases dR h4 with rfl | rfl | rfl | rfl<;>simp[rcx,rcy,tlo,axd]at b1 b2 ⊢<;>lia
 have eq:=h.apart q (h.sub q hq) q' (h.sub q' hq') _ _ i1 i2;subst eq;have et:iY d be k=iY d be' j:=by
  rcases dR h4 with rfl|rfl|rfl|rfl<;>simp[rcx,rcy]at g1 g2<;>omega
 exact⟨rfl,h.part_one hq h4 hb hb' ⟨u1,u2⟩ (et▸⟨v1,v2⟩)⟩
def DG (L M:List Sq)(a:Pt)(d:Nat):Option Pt:=((GL L M).find? fun p=>decide (p.1=(a,(d:Int)))).map (·.2)
theorem qb {a e:Pt}{d:Nat}(h:DG L M a d=some e):((a,(d:Int)),e)∈GL L M:=by
 obtain⟨p,h1,rfl⟩:=He.mp h;have h2:=JM h1;have h3:p.1=(a,(d:Int)):=G6 h2;rw[← h3];exact IK h1
theorem sQ {a e:Pt}{d:Nat}(h:DG L M a d=some e):d < 4∧∃ q∈M,∃ be∈cj L q d,a=(bY q d be).1∧e=(bY q d be).2:=by
 obtain⟨q,hq,d',h4,be,hb,e1⟩:=mr.mp (qb h);unfold gen at e1;simp only[Prod.mk.injEq]at e1
 have:d=d':=by lia
 subst this;exact⟨h4,q,hq,be,hb,e1.1.1,e1.2⟩
theorem go0 (a:Pt)(d:Nat):go a 0 d=a:=si a d
theorem BR (h:Lnd L M W col){k:NK}{e e':Pt}(h1:(k,e)∈GL L M)(h2:(k,e')∈GL L M):e=e':=by
 obtain⟨q,hq,d,h4,be,hb,e1⟩:=mr.mp h1;obtain⟨q',hq',d',h4',be',hb',e2⟩:=mr.mp h2;unfold gen at e1 e2;simp only[Prod.mk.injEq]at e1 e2;obtain⟨rfl,rfl⟩:=e1;obtain⟨e3,rfl⟩:=e2;simp only[Prod.mk.injEq]at e3
 have:d=d':=by lia
 subst this;have l1:=(h.bare hq h4 hb).1;have l2:=(h.bare hq' h4 hb').1;obtain⟨rfl,rfl⟩:=xB h hq hq' h4 hb hb' (k:=0) (j:=0) (by lia) (by lia) (by rw[go0,go0];exact e3.1);rfl
theorem FY (h:Lnd L M W col){q:Sq}(hq:q∈M){d:Nat}(h4:d < 4){be:Int × Int}(hb:be∈cj L q d):DG L M (bY q d be).1 d=some (bY q d be).2:=by
 have hm:gen q d be∈GL L M:=mr.mpr ⟨q,hq,d,h4,be,hb,rfl⟩;cases e:DG L M (bY q d be).1 d with
 | none =>
  have:=(Option.map_eq_none_iff.mp e)
  have:=List.find?_eq_none.mp this _ hm
  exact absurd (GH rfl) this
 | some p=>rw[BR h (qb e) hm]
theorem Di {q:Sq}{p:Pt}{d:Nat}(h4:d < 4){t:Int}(et:t=if d=0 then p.1 else if d=1 then p.2 else if d=2 then p.1 - 1 else p.2 - 1)(hs:if d=0 then p.2=q.y else if d=1 then p.1=q.x + q.w else if d=2 then p.2=q.y + q.w else p.1=q.x){be:Int × Int}(h1:be.1≤t)(h2:t < be.2):∃ k,k < (be.2 - be.1).toNat∧p=go (bY q d be).1 k d:=by
 obtain⟨k,ek⟩:∃ k:Nat,k=(if d=0∨d=1 then t - be.1 else be.2 - 1 - t).toNat:=⟨_,rfl⟩;refine⟨k,?_,Prod.ext ?_ ?_⟩
 ·rcases dR h4 with rfl|rfl|rfl|rfl<;>simp at ek ⊢<;>lia
 ·rcases dR h4 with rfl|rfl|rfl|rfl<;>simp[go,ux,bY]at ek et hs ⊢<;>lia
 ·rcases dR h4 with rfl|rfl|rfl|rfl<;>simp[go,uy,bY]at ek et hs ⊢<;>lia
theorem pcs (h:Lnd L M W col):Pcs (CM M) (DG L M) where
 way:=fun e=>(sQ e).1
 len:=fun {a d e} he=>by
  obtain⟨h4,q,hq,be,hb,rfl,rfl⟩:=sQ he;have l1:=(h.bare hq h4 hb).1;exact⟨(be.2 - be.1).toNat,by lia,nK h4 l1,fun k hk=>Ez h hq h4 hb hk⟩
 all:=fun {p d} h4 hb=>by
  obtain⟨⟨q,hq,hi⟩,hn⟩:=hb;have hL:=h.sub q hq;have hw:=h.pos q hL;have hnq:¬ InS q (p.1 + rtx ((d + 3) % 4)) (p.2 + rty ((d + 3) % 4)):=fun c=>hn ⟨q,hq,c⟩;unfold cl CM at hn;obtain⟨t,et⟩:∃ t,t=if d=0 then p.1 else if d=1 then p.2 else if d=2 then p.1 - 1 else p.2 - 1:=⟨_,rfl⟩
  have key:tlo q d≤t∧t < tlo q d + q.w∧p.1 + rtx ((d + 3) % 4)=lcx q d t∧p.2 + rty ((d + 3) % 4)=lcy q d t∧(if d=0 then p.2=q.y else if d=1 then p.1=q.x + q.w else if d=2 then p.2=q.y + q.w else p.1=q.x):=by
   unfold InS at hi hnq;subst et;rcases dR h4 with rfl | rfl | rfl | rfl<;>simp[rtx,rty,tlo,axd,lcx,lcy]at hi hnq ⊢<;>lia
  obtain⟨t1,t2,t3,t4,t6⟩:=key;have t5:∀ be:Int × Int,be.1≤t→t < be.2→∃ k,k < (be.2 - be.1).toNat∧p=go (bY q d be).1 k d:=fun be h1 h2=>Di h4 et t6 h1 h2;rw[t3,t4]at hn;obtain⟨be,hb,b1,b2⟩:=h.part_of hq h4 t1 t2 hn;obtain⟨k,hk,ep⟩:=t5 be b1 b2;have l1:=(h.bare hq h4 hb).1;exact⟨_,_,k,(FY h hq h4 hb).trans (by rw[nK h4 l1]),hk,ep⟩
 one:=fun {a b d l m k j} ha hb hk hj e=>by
  obtain⟨h4,q,hq,be,hbe,rfl,e1⟩:=sQ ha;obtain⟨_,q',hq',be',hbe',rfl,e2⟩:=sQ hb;have l1:=(h.bare hq h4 hbe).1;have l2:=(h.bare hq' h4 hbe').1;rw[nK h4 l1]at e1;rw[nK h4 l2]at e2;have n1:=pi h4 e1;have n2:=pi h4 e2;obtain⟨rfl,rfl⟩:=xB h hq hq' h4 hbe hbe' (k:=k) (j:=j) (by lia) (by lia) e;rfl
end
def Gq (L:List Sq)(z z':List Nat):Prop:=zo (eJ (bN L)) (iD L) z z'
structure bF (L:List Sq)(A:List Nat→List (List Nat))(zs:List (List Nat)):Prop where
 ez:zs=L.map (·.z)
 hB:L.Pairwise dP
 len:zs.length≤1500
 near:∀ z z',z'∈A z↔Gq L z z'
section
variable {L:List Sq}{A:List Nat→List (List Nat)}{zs:List (List Nat)}
theorem bF.cl (C:bF L A zs):∀ z∈zs,∀ y∈A z,y∈zs:=fun z _ y hy=>by
 obtain⟨dd,hdd,_,h⟩:=(C.near z y).mp hy;obtain⟨q1,h1,r1,h2,rfl,_⟩:=l_ hdd;rw[C.ez];rcases h with⟨_,e⟩|⟨_,e⟩
 ·rw[e];exact GC.mpr ⟨r1,h2,rfl⟩
 ·rw[e];exact GC.mpr ⟨q1,h1,rfl⟩
theorem bF.col (C:bF L A zs){z y:List Nat}(h:y∈A z):bD (bN L) (ky y)=bD (bN L) (ky z):=by
 obtain⟨d,_,hb,h⟩:=(C.near z y).mp h;have e:bD (bN L) (ky d.1)=bD (bN L) (ky d.2):=G6 hb;rcases h with⟨rfl,rfl⟩|⟨rfl,rfl⟩
 ·exact e.symm
 ·exact e
theorem bF.end_ (C:bF L A zs){z:List Nat}(hz:z∈zs):∃ k,(aH A z k).length=k∧jq A z=aH A z k:=by
 obtain⟨k,hk,e⟩:=De (A:=A) (z:=z) (N:=1500) fun k=>G8 (BI.bfs C.cl hz k).len C.len;exact⟨k,e,rT e hk⟩
theorem bF.bi (C:bF L A zs){z:List Nat}(hz:z∈zs):BI zs (jq A z):=by
 obtain⟨k,_,e⟩:=C.end_ hz;rw[e];exact BI.bfs C.cl hz k
theorem bF.closed (C:bF L A zs){z:List Nat}(hz:z∈zs):∀ m∈jq A z,∀ y∈A m.1,y∈(jq A z).map (·.1):=by
 obtain⟨k,hk,e⟩:=C.end_ hz;rw[e];intro m hm y hy;obtain⟨i,hi⟩:=HS hm;exact pQ A z k i m (by have:=(Gz.mp hi).1;lia) hi y hy
theorem bF.first (C:bF L A zs){z:List Nat}(hz:z∈zs):z∈(jq A z).map (·.1):=by
 obtain⟨k,_,e⟩:=C.end_ hz;rw[e];exact GC.mpr ⟨_,GW (kZ A z k),rfl⟩
theorem bF.reach (C:bF L A zs){z:List Nat}(hz:z∈zs)(S:List Nat→Prop)(h0:S z)(hs:∀ x y,S x→y∈A x→S y):∀ m∈jq A z,S m.1:=by
 obtain⟨k,_,e⟩:=C.end_ hz;rw[e];exact qY A z S h0 hs k
end
theorem qq (q r:Sq):cA q r=cA r q:=by
 rw[HQ,dG,dG];unfold jL;rw[gD,gD,gD,gD,gC,gC,gC,gC];omega
def cC (L:List Sq)(z:List Nat):Sq:=(L.find? fun q=>decide (q.z=z)).getD ⟨[],0,0,0,0⟩
theorem jx {L:List Sq}(h:L.Pairwise dP){q:Sq}(hq:q∈L):cC L q.z=q:=by
 unfold cC;cases e:L.find? fun r=>decide (r.z=q.z) with
 | none=>exact absurd (GH rfl) (List.find?_eq_none.mp e q hq)
 | some r =>
  have e2:=JM e;have e3:r.z=q.z:=by simpa using e2
  exact E4 h (IK e) hq e3
theorem gK:∀ (t:Tr) (p:List Nat) (x y k:Nat),aP k t→∀ i j:Nat,x≤i→i < x + 2 ^ k→y≤j→j < y + 2 ^ k→∃ q∈sqs p t x y k,q.x≤i∧i < q.x + q.w∧q.y≤j∧j < q.y + q.w
 | .col c,p,x,y,k,_,i,j,h1,h2,h3,h4=>⟨⟨p,c,x,y,2 ^ k⟩,GI.mpr rfl,h1,h2,h3,h4⟩
 | .four a b c d,p,x,y,0,g,_,_,_,_,_,_=>g.elim
 | .four a b c d,p,x,y,k + 1,⟨ga,gb,gc,gd,_⟩,i,j,h1,h2,h3,h4=>by
  have e2:2 ^ (k + 1)=2 ^ k + 2 ^ k:=by rw[HK];lia
  rw[e2]at h2 h4;have A:=gK a (p++[0]) x y k ga i j;have B:=gK b (p++[1]) (x + 2 ^ k) y k gb i j;have C:=gK c (p++[2]) x (y + 2 ^ k) k gc i j;have D:=gK d (p++[3]) (x + 2 ^ k) (y + 2 ^ k) k gd i j;show ∃ q∈sqs (p++[0]) a x y k++(sqs (p++[1]) b (x + 2 ^ k) y k++(sqs (p++[2]) c x (y + 2 ^ k) k++sqs (p++[3]) d (x + 2 ^ k) (y + 2 ^ k) k)),_;simp only[GS];generalize 2 ^ k=K at *;rcases Je i (x + K) with c1 | c1<;>rcases Je j (y + K) with c2 | c2
  ·obtain⟨q,hq,h⟩:=A h1 c1 h3 c2;exact⟨q,.inl hq,h⟩
  ·obtain⟨q,hq,h⟩:=C h1 c1 c2 (by lia);exact⟨q,.inr (.inr (.inl hq)),h⟩
  ·obtain⟨q,hq,h⟩:=B c1 (by lia) h3 c2;exact⟨q,.inr (.inl hq),h⟩
  ·obtain⟨q,hq,h⟩:=D c1 (by lia) c2 (by lia);exact⟨q,.inr (.inr (.inr hq)),h⟩
theorem mo {L:List Sq}(h:L.Pairwise dP){q r:Sq}(hq:q∈L)(hr:r∈L):q=r∨Sep q r∨Sep r q:=by
 induction L with
 | nil=>cases hq
 | cons p L ih =>
  obtain⟨h1,h2⟩:=HY.mp h;rcases GU.mp hq with eq|hq'
  ·rcases GU.mp hr with er|hr'
   ·exact .inl (eq.trans er.symm)
   ·exact .inr (.inl (eq▸(h1 r hr').1))
  ·rcases GU.mp hr with er|hr'
   ·exact .inr (.inr (er▸(h1 q hq').1))
   ·exact ih h2 hq' hr'
theorem v7 {q r:Sq}{d:Nat}(h4:d < 4)(hq:0 < q.w)(hr:0 < r.w)(h:dZ (axd d) (sgd d) q r.x r.y r.w=true):cA q r=true∧cA r q=true:=by
 have h':=(lZ h4).mp h;have t:cA q r=true:=by
  rw[dG];unfold jL;rw[gD,gD,gC,gC];rcases dR h4 with rfl | rfl | rfl | rfl<;>simp[tlo,axd]at h'<;>lia
 exact⟨t,by rw[qq];exact t⟩
def ci (L:List Sq)(A:List Nat→List (List Nat))(z:List Nat):List Sq:=(jq A z).map fun m=>cC L m.1
theorem AW {L:List Sq}{A:List Nat→List (List Nat)}{zs:List (List Nat)}(C:bF L A zs){q0:Sq}(h0:q0∈L)(q:Sq):q∈ci L A q0.z↔q∈L∧q.z∈(jq A q0.z).map (·.1):=by
 have hB:=C.hB;have z0:q0.z∈zs:=by rw[C.ez];exact GC.mpr ⟨q0,h0,rfl⟩
 unfold ci;constructor
 ·intro hq;obtain⟨m,hm,rfl⟩:=GC.mp hq;have mz:=(C.bi z0).sub m hm;rw[C.ez]at mz;obtain⟨r,hr,er⟩:=GC.mp mz;rw[← er,jx hB hr];exact⟨hr,er▸GC.mpr ⟨m,hm,rfl⟩⟩
 ·rintro⟨hq,hz⟩;obtain⟨m,hm,em⟩:=GC.mp hz;exact GC.mpr ⟨m,hm,by rw[em,jx hB hq]⟩
theorem v6 {t:Tr}{n:Nat}(gt:aP n t){A:List Nat→List (List Nat)}{zs:List (List Nat)}(C:bF (sqs [] t 0 0 n) A zs){q0:Sq}(h0:q0∈sqs [] t 0 0 n):Lnd (sqs [] t 0 0 n) (ci (sqs [] t 0 0 n) A q0.z) ((2 ^ n:Nat):Int) q0.c∧q0∈ci (sqs [] t 0 0 n) A q0.z:=by
 have hin:=dk t [] 0 0 n gt;have hcov:=gK t [] 0 0 n gt;obtain⟨L,eL⟩:∃ L,L=sqs [] t 0 0 n:=⟨_,rfl⟩;rw[← eL]at C h0 hin hcov ⊢;have hB:=C.hB;have z0:q0.z∈zs:=by rw[C.ez];exact GC.mpr ⟨q0,h0,rfl⟩
 have inM:∀ q,q∈ci L A q0.z↔q∈L∧q.z∈(jq A q0.z).map (·.1):=AW C h0;refine⟨⟨fun q hq=>(hin q hq).2.2.2.2,fun q hq r hr x y i j =>?_,fun x y h1 h2 h3 h4 =>?_,fun q hq =>?_,fun q hq=>((inM q).mp hq).1,fun q hq =>?_,fun q hq r hr d h4 hl hc =>?_⟩,(inM q0).mpr ⟨h0,C.first z0⟩⟩
 ·rcases mo hB hq hr with e|e|e
  ·exact e
  ·unfold Sep at e;unfold InS at i j
   lia
  ·unfold Sep at e;unfold InS at i j
   lia
 ·obtain⟨q,hq,k1,k2,k3,k4⟩:=hcov x.toNat y.toNat (GF _) (by lia) (GF _) (by lia);exact⟨q,hq,by unfold InS;lia⟩
 ·obtain⟨_,i2,_,i4,_⟩:=hin q hq;omega
 ·obtain⟨hq1,hq2⟩:=(inM q).mp hq;obtain⟨m,hm,em⟩:=GC.mp hq2
  have:=C.reach z0 (fun y=>bD (bN L) (ky y)=bD (bN L) (ky q0.z)) rfl (fun x y h1 h2=>(C.col h2).trans h1) m hm
  rw[em,bW hB hq1,bW hB h0]at this;injection this with this;injection this
 ·obtain⟨hq1,hq2⟩:=(inM q).mp hq;obtain⟨m,hm,em⟩:=GC.mp hq2;refine (inM r).mpr ⟨hr,C.closed z0 m hm r.z ?_⟩;rw[em];have qc:q.c=q0.c:=by
   have:=C.reach z0 (fun y=>bD (bN L) (ky y)=bD (bN L) (ky q0.z)) rfl (fun x y h1 h2=>(C.col h2).trans h1) m hm
   rw[em,bW hB hq1,bW hB h0]at this;injection this with this;injection this
  have cc:bD (bN L) (ky q.z)=bD (bN L) (ky r.z):=by rw[bW hB hq1,bW hB hr,hc,qc]
  obtain⟨t1,t2⟩:=v7 h4 (hin q hq1).2.2.2.2 (hin r hr).2.2.2.2 hl;obtain⟨i,hi⟩:=HS hq1;obtain⟨j,hj⟩:=HS hr;rw[C.near];rcases JE i j with c|c|c
  ·exact⟨_,kU hi hj c t1,GH cc,.inl ⟨rfl,rfl⟩⟩
  ·subst c;rw[hi]at hj;cases hj
   have:=(lZ h4).mp hl
   have w:=(hin q hq1).2.2.2.2
   exfalso
   rcases dR h4 with rfl|rfl|rfl|rfl<;>simp at this<;>lia
  ·exact⟨_,kU hj hi c t2,GH cc.symm,.inr ⟨rfl,rfl⟩⟩
def PtV (H:Hp)(u:V)(p:Int × Int):Prop:=∃ a,u=.ref a∧H a=some (.tup [.int p.1,.int p.2])
theorem PtV.up {H H':Hp}{u:V}{p:Int × Int}(h:PtV H u p)(s:bO H H'):PtV H' u p:=by
 obtain⟨a,e,k⟩:=h;exact⟨a,e,s _ _ k⟩
abbrev mJ (H:Hp):List V→List (Int × Int)→Prop:=Paired (PtV H)
theorem mJ.up {H H':Hp}{us:List V}{ps:List (Int × Int)}(h:mJ H us ps)(s:bO H H'):mJ H' us ps:=Paired.mapP h fun _ _ k=>k.up s
theorem de {q:Sq}{t:Tr}{n:Nat}(ok:ni q [] t 0 0 n):IsC (txt q.z)∧(txt q.z).length≤n∧cxs (dig (txt q.z)) * 2 ^ (n - (txt q.z).length)=q.x∧cys (dig (txt q.z)) * 2 ^ (n - (txt q.z).length)=q.y∧2 ^ (n - (txt q.z).length)=q.w:=by
 obtain⟨w,e1,h4,_,hl,ex,ey,ew⟩:=ok;rw[HJ]at e1;subst e1;rw[fe,eP];exact⟨wE h4,hl,by rw[ex];simp,by rw[ey];simp,ew.symm⟩
def zL (d:Nat):Str:=if d=0 then "up" else if d=1 then "right" else if d=2 then "down" else "left"
theorem Ca {d:Nat}(h4:d < 4):∃ (s1 s2:Str) (dx dy:Int),Fd[d]? = some (.str (zL d))∧Dir (zL d) s1 s2 dx dy∧dig s2=du (axd d) (sgd d)∧dx=(if axd d then 0 else if sgd d then -1 else 1)∧dy=(if axd d then (if sgd d then -1 else 1) else 0):=by
 rcases dR h4 with rfl|rfl|rfl|rfl
 ·exact⟨_,_,_,_,rfl,.inl ⟨rfl,rfl,rfl,rfl,rfl⟩,by decide +kernel,rfl,rfl⟩
 ·exact⟨_,_,_,_,rfl,.inr (.inl ⟨rfl,rfl,rfl,rfl,rfl⟩),by decide +kernel,rfl,rfl⟩
 ·exact⟨_,_,_,_,rfl,.inr (.inr (.inl ⟨rfl,rfl,rfl,rfl,rfl⟩)),by decide +kernel,rfl,rfl⟩
 ·exact⟨_,_,_,_,rfl,.inr (.inr (.inr ⟨rfl,rfl,rfl,rfl,rfl⟩)),by decide +kernel,rfl,rfl⟩
theorem zC {d:Nat}(h4:d < 4)(q:Sq):atI [V.int (q.x:Int),V.int (q.y:Int),V.int (q.w:Int)] ((d:Int) % 2)=some (V.int (tlo q d)):=by
 rcases dR h4 with rfl|rfl|rfl|rfl<;>rfl
section
variable {P:Program}{w:World}{K:PySem.W.Frag}{mg:Str→Option Value}{base:Heap}{CX:CXT}{f:Addr}{fd:FuncData}
abbrev ip:Stmt:=top 50
theorem bt:az ["sheet","code","way","colours","square","begin","end","others","parts","other","near","start"] ["sheet","code","way","colours"] (aj ip):={}
inductive jv  (vs:List V)(H:Hp)(Q:VK):Prop
 | mk (ps cd:Addr) (n:Nat) (v:V) (t:Tr) (q:Sq) (d:Nat) (h_0:vs=[.ref ps,sV q.z,.int (d:Int),.ref cd]) (h_1:H ps=some (.tup [.int (n:Int),v])) (h_2:bu H v t) (h_3:aP n t) (h_4:n≤40) (h_5:cnt t≤1500) (h_6:q∈sqs [] t 0 0 n) (h_7:d < 4) (h_8:H cd=some (.dK (bN (sqs [] t 0 0 n)))) (h_9:∀ l us H',am H H'→H l=none→H' l=some (.lst us)→mJ H' us (cj (sqs [] t 0 0 n) q d)→Q (.ref l) H'):jv  vs H Q
def jN:Sp:=fun vs H Q _=>jv  vs H Q
theorem qh (T:Tx K mg)(Y:Yx K mg)(U:Ty P w K mg)(q:br (CXe P w))(F:aT K "bare_parts" "bare_parts" ip f fd .none)(C_corner:Fok P w K mg base (CXe P w) 4 "corner" ["code","level"] [] jB)(C_beyond_leaf:Fok P w K mg base (CXe P w) 43 "beyond_leaf" ["sheet","code","side"] [] (fw Y)):
  bd P w K mg base (CXe P w) 44 f fd ["sheet","code","way","colours"] jN:=by
 refine F.ok bt (fun vs H Q E h =>?_) (fun cdv A outer s H vs Q E hr h =>?_)
 ·obtain⟨_,_,_,_,_,_,_,rfl,_⟩:=h;rfl
 obtain⟨ps,cd,n,v,t,sq,d,rfl,hps,ht,gt,hn,hc,hq,h4,hcd,q'⟩:=h;obtain⟨aS,g_SIDES,kS⟩:=U.sides;refine⟨_,(ac (aq (i:=4) bt (ai C_corner q hr (aa (pv 1) (aa (aB aF (pv 0) ae) af)))) (ac (aq (i:=5) bt (aB aF (pv 4) (ak aM (pv 2) ae))) (ac (aq (i:=6) bt (ak aK (pv 5) (aB aF (pv 4) ae))) (ac (aq (i:=7) bt (ai C_beyond_leaf q hr (aa (pv 0) (aa (pv 1) (aa (aB aF (bJ (v:=.ref _) rfl g_SIDES rfl) (pv 2)) af))))) (ac (aR (aG dE (aw bX rfl T.b_len dM (aa (pv 7) af)) ae) (ag (av (bh (ay (aL (ay (pv 5) (ay (pv 6) aA))) aA)))) aE) (ac (aq (i:=8) bt (bh aA)) (ac (bg Hd rfl (cO (pv 7)) (bj (i:=9) bt) (ag (aR (aG qz (dQ hr.dic (pv 3) (pv 9) (fun _ _=>rfl)) (dQ hr.dic (pv 3) (pv 1) (fun _ _=>rfl))) (ac (aq (i:=10) bt (ai C_corner q hr (aa (pv 9) (aa (aB aF (pv 0) ae) af)))) (ac (aq (i:=11) bt (aB aF (pv 10) (ak aM (pv 2) ae))) (ag (bz (dL (pv 8) (aa (aL (ay (aw (md rfl) rfl T.b_max wy (aa (pv 5) (aa (pv 11) af))) (ay (aw (gZ rfl) rfl T.b_min pR (aa (pv 6) (aa (ak aK (pv 11) (aB aF (pv 10) ae)) af))) aA))) af)))))) aE))) (ag (av (pv 8)))))))))),?_⟩;obtain⟨L,eL⟩:∃ L,L=sqs [] t 0 0 n:=⟨_,rfl⟩;have hB:L.Pairwise dP:=by rw[eL];exact cM t [] 0 0 n gt
 have lc:L.length=cnt t:=by rw[eL];exact b_ t [] 0 0 n
 have ok:=eE t [] 0 0 n gt sq hq;obtain⟨ic,il,cx,cy,cw⟩:=de ok;refine⟨ps,_,_,_,rfl,rfl,SqT.of hps,rfl,txt sq.z,n,rfl,ic,il,hn,fun p1 H1 s1 w1 =>?_⟩;rw[cx,cy,cw]at w1;refine⟨(by show (0:Int) < 2;decide),p1,_,_,_,rfl,rfl,SqT.of w1,zC h4 sq,?_⟩;refine⟨p1,_,_,_,rfl,rfl,SqT.of w1,rfl,cq ?_⟩;obtain⟨b1,b2,dx,dy,hsv,hd,e2,ex,ey⟩:=Ca h4;refine⟨aS,_,_,_,rfl,rfl,kS.sq,dB hsv,ps,n,v,.str (zL d),t,txt sq.z,rfl,s1 _ _ hps,ht.up s1.tups,gt,hn,by lia,ic,by lia,BJ (K:=K) gt ok hd e2 ex ey fun lo H2 s2 hlo u2 =>?_⟩;rw[l9,← eL]at u2;obtain⟨O,eO⟩:∃ O,O=gA L sq d:=⟨_,rfl⟩;have u2':H2 lo=some (.lst (O.map fun r=>sV r.z)):=by rw[u2,eO,Hj];rfl
 have lO:O.length≤1500:=by
  have h1:=Ik (fun r:Sq=>dZ (axd d) (sgd d) sq r.x r.y r.w) L;rw[eO];unfold gA
  lia
 have s12:=s1.trans s2;have hps2:=s12 _ _ hps;have hcd2:=s12 _ _ hcd;rw[← eL]at hcd2 q';have hql:sq∈L:=by rw[eL];exact hq
 refine⟨_,_,rfl,.inl ⟨_,SqL.of u2',rfl⟩,rfl,ap (bU (fun c0 =>?_) (fun c0 =>?_))⟩
 ·have e0:O=[]:=by
   have:=G6 c0
   injection this with this;rw[Gy]at this;exact Hl (by lia)
  refine⟨(leZ rfl),fun pt hpt=>⟨(leZ rfl),fun l hl =>?_⟩⟩;have s3:=am.new hpt (.tup [.int (tlo sq d),.int (tlo sq d + (sq.w:Int))]);have w3:upd H2 pt (.tup [.int (tlo sq d),.int (tlo sq d + (sq.w:Int))]) pt=some (.tup [.int (tlo sq d),.int (tlo sq d + (sq.w:Int))]):=ah;generalize upd H2 pt (.tup [.int (tlo sq d),.int (tlo sq d + (sq.w:Int))])=H3 at *;have s4:=am.new hl (.lst [.ref pt]);refine q' l _ _ ((s12.trans s3).trans s4) ((s12.trans s3).free hl) ah ?_;unfold cj;rw[if_pos (by rw[← eO];exact e0)];exact .cons ⟨pt,rfl,s4 _ _ w3⟩ .nil
 have n0:¬ gA L sq d=[]:=fun e=>c0 (by
  rw[eO,e];exact GH rfl)
 refine⟨(leZ rfl),nw fun lp H3 hlp s3 w3 =>?_⟩;have u3:=s3 _ _ u2';have nlp:H lp=none:=s12.free hlp;have hlo':lo≠lp:=fun z=>by rw[z,hlp]at u2';cases u2'
 have s13:=s12.trans s3;have Od:∀ i r,O[i]? = some r→r∈L:=fun i r h=>by
  rw[eO]at h;exact (Hq.mp (GW h)).1
 refine⟨lo,rfl,⟨_,SqL.of u3⟩,cI (xs:=O.map fun r=>sV r.z) (fun (i:Nat) σ H4=>am H H4∧(∀ b o,b≠lp→H3 b=some o→H4 b=some o)∧(∃ us,H4 lp=some (.lst us)∧mJ H4 us (((O.take i).filter fun r=>decide (r.c≠sq.c)).map fun r=>(max (tlo sq d) (tlo r d),min (tlo sq d + sq.w) (tlo r d + r.w)))∧us.length≤i∧i≤O.length)∧∃ o9 o10 o11:Option V,σ=[some (.ref ps),some (sV sq.z),some (.int (d:Int)),some (.ref cd),some (.ref p1),some (.int (tlo sq d)),some (.int (tlo sq d + (sq.w:Int))),some (.ref lo),some (.ref lp),o9,o10,o11])
  ⟨s13,fun _ _ _ e=>e,⟨[],w3,.nil,GB _,GF _⟩,_,_,_,rfl⟩ (fun i σ H4 _ h=>SqL.of (h.2.1 _ _ hlo' u3)) ?_ ?_⟩
 ·rintro i u σ H4 hu ⟨s4,k4,⟨us,w4,hP,l4,li⟩,o9,o10,o11,rfl⟩;rw[Ha]at hu;obtain⟨r,er,rfl⟩:=He.mp hu;have hi:=(Gz.mp er).1;have hrL:=Od i r er;have et:O.take (i + 1)=O.take i++[r]:=by rw[G_,er];rfl
  rw[et,IB];have hcd4:=s4 _ _ hcd;rw[← eL]at hcd4;refine⟨cd,_,rfl,bW hB hrL▸km.k (k:=ky r.z) hcd4,cd,_,rfl,bW hB hql▸km.k (k:=ky sq.z) hcd4,rfl,ap (bU (fun c1 =>?_) (fun c1 =>?_))⟩
  rotate_left
  ·have c1':r.c=sq.c:=Classical.byContradiction fun n=>c1 (by
    show (!decide (V.int r.c=V.int sq.c))=true;rw[Hb (fun e=>n (V.int.inj e))];rfl)
   rw[show [r].filter (fun r=>decide (r.c≠sq.c))=[] by simp[c1'],Hw];exact⟨s4,k4,⟨us,w4,hP,by lia,by assumption⟩,_,_,_,rfl⟩
  have c1':r.c≠sq.c:=fun e=>by
   have c2:(!decide (V.int r.c=V.int sq.c))=true:=c1;rw[e,GH rfl]at c2;cases c2
  rw[show [r].filter (fun r=>decide (r.c≠sq.c))=[r] by simp[c1'],G7];have okr:=eE t [] 0 0 n gt r (by rw[← eL];exact hrL);obtain⟨jc,jl,dx',dy',dw'⟩:=de okr;refine⟨ps,_,_,_,rfl,rfl,SqT.of (s4 _ _ hps),rfl,txt r.z,n,rfl,jc,jl,hn,fun p5 H5 s5 w5 =>?_⟩;rw[dx',dy',dw']at w5;have w45:=s5 _ _ w4;refine⟨(by show (0:Int) < 2;decide),p5,_,_,_,rfl,rfl,SqT.of w5,zC h4 r,?_⟩;refine⟨.inl ⟨rfl,_,SqL.of w45⟩,_,_,rfl,p5,_,_,_,rfl,rfl,SqT.of w5,rfl,_,_,rfl,(leZ rfl),fun p6 hp6 =>?_⟩;generalize e6:upd H5 p6 _=H6;have s6:am H5 H6:=e6▸am.new hp6 _;have w6:H6 p6=some (.tup [.int (max (tlo sq d) (tlo r d)),.int (min (tlo sq d + sq.w) (tlo r d + r.w))]):=by
   rw[← e6,ah,← gC,← gD];rfl
  have w46:=s6 _ _ w45;refine⟨lp,us,_,rfl,rfl,w46,GK (by lia:us.length < 5000) (by decide),?_⟩;have t7:bO H6 (upd H6 lp (.lst (us++[.ref p6]))):=gH w46 (by intro xs q;cases q);refine⟨am.set ((s4.trans s5).trans s6) nlp _,fun b o hb e=>by rw[aD hb];exact (s5.trans s6) _ _ (k4 b o hb e),⟨us++[.ref p6],ah,fL (hP.up ((s5.trans s6).tups.trans t7)) (.cons ⟨p6,rfl,t7 _ _ w6⟩ .nil),by rw[GE,Hu];lia,by assumption⟩,_,_,_,rfl⟩
 ·rintro σ H4 ⟨s4,k4,⟨us,w4,hP,l4,li⟩,o9,o10,o11,rfl⟩;rw[GV (by rw[Gy];exact GB _)]at hP;refine (q' lp us H4 s4 nlp w4 ?_);unfold cj;rw[if_neg n0,← eO];exact hP
abbrev fI:Stmt:=top 51
theorem c9:az ["square","way","begin","end","x","y","wide"] ["square","way","begin","end"] (aj fI):={}
inductive ig  (vs:List V)(H:Hp)(Q:VK):Prop
 | mk (p:Addr) (q:Sq) (d:Nat) (b e:Int) (h_0:vs=[.ref p,.int (d:Int),.int b,.int e]) (h_1:H p=some (.tup [.int (q.x:Int),.int (q.y:Int),.int (q.w:Int)])) (h_2:d < 4) (h_3:∀ r p1 p2 H',am H H'→H' r=some (.tup [.ref p1,.ref p2])→H' p1=some (.tup [.int (bY q d (b,e)).1.1,.int (bY q d (b,e)).1.2])→H' p2=some (.tup [.int (bY q d (b,e)).2.1,.int (bY q d (b,e)).2.2])→Q (.ref r) H'):ig  vs H Q
def iN:Sp:=fun vs H Q _=>ig  vs H Q
theorem kn {H:Hp}{Q:VK}{a b c e:Int}(h:∀ r p1 p2 H',am H H'→H' r=some (.tup [.ref p1,.ref p2])→H' p1=some (.tup [.int a,.int b])→H' p2=some (.tup [.int c,.int e])→Q (.ref r) H')(p1 p2 r:Addr)(h1:H p1=none)(h2:upd H p1 (.tup [.int a,.int b]) p2=none)(h3:upd (upd H p1 (.tup [.int a,.int b])) p2 (.tup [.int c,.int e]) r=none):
  Q (.ref r) (upd (upd (upd H p1 (.tup [.int a,.int b])) p2 (.tup [.int c,.int e])) r (.tup [.ref p1,.ref p2])):=by
 have s1:=am.new h1 (.tup [.int a,.int b]);have s2:=am.new h2 (.tup [.int c,.int e]);have s3:=am.new h3 (.tup [.ref p1,.ref p2]);exact h r p1 p2 _ ((s1.trans s2).trans s3) ah (s3 _ _ (s2 _ _ ah)) (s3 _ _ ah)
theorem mY (T:Tx K mg)(F:aT K "ends_of_part" "ends_of_part" fI f fd .none):bd P w K mg base CX 1 f fd ["square","way","begin","end"] iN:=by
 refine F.ok c9 (fun vs H Q E h =>?_) (fun cdv A outer s H vs Q E hr h =>?_)
 ·obtain⟨_,_,_,_,_,rfl,_⟩:=h;rfl
 obtain⟨p,q,d,b,e,rfl,hp,h4,q'⟩:=h;refine⟨_,(ac (aq (i:=4) c9 (aB aF (pv 0) ae)) (ac (aq (i:=5) c9 (aB aF (pv 0) ae)) (ac (aq (i:=6) c9 (aB aF (pv 0) ae)) (ac (aR (aG dE (pv 1) ae) (ag (av (aL (ay (aL (ay (pv 2) (ay (pv 5) aA))) (ay (aL (ay (pv 3) (ay (pv 5) aA))) aA))))) aE) (ac (aR (aG dE (pv 1) ae) (ag (av (aL (ay (aL (ay (ak aK (pv 4) (pv 6)) (ay (pv 2) aA))) (ay (aL (ay (ak aK (pv 4) (pv 6)) (ay (pv 3) aA))) aA))))) aE) (ac (aR (aG dE (pv 1) ae) (ag (av (aL (ay (aL (ay (pv 3) (ay (ak aK (pv 5) (pv 6)) aA))) (ay (aL (ay (pv 2) (ay (ak aK (pv 5) (pv 6)) aA))) aA))))) aE) (ag (av (aL (ay (aL (ay (pv 4) (ay (pv 3) aA))) (ay (aL (ay (pv 4) (ay (pv 2) aA))) aA))))))))))),?_⟩;refine⟨p,_,_,_,rfl,rfl,SqT.of hp,rfl,p,_,_,_,rfl,rfl,SqT.of hp,rfl,p,_,_,_,rfl,rfl,SqT.of hp,rfl,?_⟩;have z2:2≤sizeLine:=by decide
 refine⟨rfl,ap (bU (fun c0 =>?_) (fun c0=>⟨rfl,ap (bU (fun c1 =>?_) (fun c1=>⟨rfl,ap (bU (fun c2 =>?_) (fun c2 =>?_))⟩))⟩))⟩
 ·have e0:d=0:=by have:=V.int.inj (G6 c0);lia
  subst e0;exact⟨z2,fun p1 h1=>⟨z2,fun p2 h2=>⟨z2,fun r h3=>kn (fun r p1 p2 H'=>q' r p1 p2 H') p1 p2 r h1 h2 h3⟩⟩⟩
 ·have e0:d=1:=by have:=V.int.inj (G6 c1);lia
  subst e0;exact⟨z2,fun p1 h1=>⟨z2,fun p2 h2=>⟨z2,fun r h3=>kn (fun r p1 p2 H'=>q' r p1 p2 H') p1 p2 r h1 h2 h3⟩⟩⟩
 ·have e0:d=2:=by have:=V.int.inj (G6 c2);lia
  subst e0;exact⟨z2,fun p1 h1=>⟨z2,fun p2 h2=>⟨z2,fun r h3=>kn (fun r p1 p2 H'=>q' r p1 p2 H') p1 p2 r h1 h2 h3⟩⟩⟩
 ·have n0:d≠0:=fun e=>c0 (by rw[e];exact GH rfl);have n1:d≠1:=fun e=>c1 (by rw[e];exact GH rfl);have n2:d≠2:=fun e=>c2 (by rw[e];exact GH rfl);have e0:d=3:=by lia
  subst e0;exact⟨z2,fun p1 h1=>⟨z2,fun p2 h2=>⟨z2,fun r h3=>kn (fun r p1 p2 H'=>q' r p1 p2 H') p1 p2 r h1 h2 h3⟩⟩⟩
def PN (H:Hp)(G:List (NK × Pt))(e:NE):Prop:=∃ p∈G,p.1=e.1∧PtV H e.2.2 p.2
structure Pcd (P:Program)(w:World)(H:Hp)(a:Addr)(xs:List NE)(G:List (NK × Pt)):Prop where
 dn:DN P w H a xs
 ent:∀ e∈xs,PN H G e
 all:∀ p∈G,(nkV xs p.1).isSome=true
 len:xs.length≤G.length
theorem PN.up {H H':Hp}{G G':List (NK × Pt)}{e:NE}(h:PN H G e)(s:bO H H')(g:∀ p∈G,p∈G'):PN H' G' e:=by
 obtain⟨p,h1,h2,h3⟩:=h;exact⟨p,g p h1,h2,h3.up s⟩
theorem Pcd.up {H H':Hp}{a:Addr}{xs:List NE}{G:List (NK × Pt)}(h:Pcd P w H a xs G)(s:am H H'):Pcd P w H' a xs G:=⟨h.dn.up s,fun e he=>(h.ent e he).up s.tups fun _ h=>h,h.all,h.len⟩
theorem xj {xs:List NE}{k k':NK}{a:Addr}{v:V}:(nkV (cu xs k a v) k').isSome=(decide (k=k') || (nkV xs k').isSome):=by
 unfold cu
 split
 ·rename_i h
  by_cases e:k=k'
  ·subst e;rw[GH rfl,Bool.true_or];obtain⟨u,hu⟩:=G9.mp h;obtain⟨b,hb⟩:=kJ hu;unfold nkV;rw[Hy,I8];exact⟨(k,b,v),GC.mpr ⟨(k,b,u),hb,by simp⟩,by simp⟩
  ·rw[Hb e,Bool.false_or];unfold nkV;rw[Hy,Hy,List.find?_map,Hy]
   congr 2
   funext x
   by_cases c:x.1=k<;>simp[c]
 ·unfold nkV;rw[Hy,Hy,List.find?_append];by_cases e:k=k'<;>simp[e,HX]
theorem Pcd.put {H H':Hp}{a b c:Addr}{xs:List NE}{G:List (NK × Pt)}(h:Pcd P w H a xs G){p:NK × Pt}(hv:H c=some (.tup [.int p.2.1,.int p.2.2]))(hH:H'=upd H a (dN P w a (cu xs p.1 b (.ref c))))(D:DN P w H' a (cu xs p.1 b (.ref c))):Pcd P w H' a (cu xs p.1 b (.ref c)) (G++[p]):=by
 have tp:bO H H':=fun d ys e=>by
  rw[hH,aD fun z=>by rw[z,h.dn.at_]at e;exact nomatch e];exact e
 refine⟨D,fun e he =>?_,fun p' hp' =>?_,?_⟩
 ·have me:PN H' (G++[p]) (p.1,b,.ref c):=⟨p,by simp,rfl,c,rfl,tp _ _ hv⟩;unfold cu at he
  split at he
  ·obtain⟨e',he',rfl⟩:=GC.mp he;by_cases c1:e'.1=p.1
   ·rw[if_pos c1];exact⟨p,by simp,c1.symm,c,rfl,tp _ _ hv⟩
   ·rw[if_neg c1];exact (h.ent e' he').up tp fun _ h=>Hv _ h
  ·rcases GS.mp he with he|he
   ·exact (h.ent e he).up tp fun _ h=>Hv _ h
   ·rw[GI.mp he];exact me
 ·rw[xj];rcases GS.mp hp' with hp' | hp'
  ·rw[h.all p' hp',Bool.or_true]
  ·rw[GI.mp hp',GH rfl,Bool.true_or]
 ·have:=wY xs p.1 b (.ref c)
  have:=h.len
  rw[GE,Hu]
  lia
end
theorem BU {L:List Sq}{q:Sq}{d:Nat}(h:q∈L):(G1 L q d).length≤L.length:=by
 unfold G1 cj gA;rw[Gy]
 split
 ·have:=IX h
  simp only[Hu]
  assumption
 ·rw[Gy];exact G8 (Ik _ _) (Ik _ _)
theorem pC {α β:Type}{f:α→List β}{c:Nat}:∀ {l:List α},(∀ x∈l,(f x).length≤c)→(l.flatMap f).length≤l.length * c
 | [],_=>by simp
 | x::l,h=>by
  have h1:=h x GO;have h2:=pC (f:=f) (l:=l) fun y hy=>h y (GG _ hy);rw[List.flatMap_cons,GE,G2,HB]
  lia
theorem BS {L:List Sq}{q:Sq}(h:q∈L)(j:Nat):((List.range j).flatMap (G1 L q)).length≤j * L.length:=by
 have:=pC (f:=G1 L q) (c:=L.length) (l:=List.range j) fun d _=>BU h
 rwa [I0]at this
theorem wA {L M:List Sq}(h:∀ q∈M,q∈L):(GL L M).length≤M.length * (4 * L.length):=pC fun q hq=>BS (h q hq) 4
theorem Dl (L M:List Sq)(q:Sq):GL L (M++[q])=GL L M++(List.range 4).flatMap (G1 L q):=by
 unfold GL;rw[Ib];simp
theorem vH {α:Type}(f:Nat→List α)(k:Nat):(List.range (k + 1)).flatMap f=(List.range k).flatMap f++f k:=by
 rw[Ip,Ib];simp
section
variable {P:Program}{w:World}{K:PySem.W.Frag}{mg:Str→Option Value}{base:Heap}{CX:CXT}{f:Addr}{fd:FuncData}
abbrev fB:Stmt:=top 52
theorem aX:az ["sheet","codes","colours","pieces","code","square","way","begin","end","ends"] ["sheet","codes"] (aj fB):={}
inductive g7  (P:Program)(w:World)(vs:List V)(H:Hp)(Q:VK):Prop
 | mk (ps lc:Addr) (n:Nat) (v:V) (t:Tr) (M:List Sq) (h_0:vs=[.ref ps,.ref lc]) (h_1:H ps=some (.tup [.int (n:Int),v])) (h_2:bu H v t) (h_3:aP n t) (h_4:n≤40) (h_5:cnt t≤1500) (h_6:H lc=some (.lst (M.map fun q=>sV q.z))) (h_7:(∀ q∈M,q∈sqs [] t 0 0 n)) (h_8:M.length≤1500) (h_9:∀ d xs H',am H H'→H d=none→Pcd P w H' d xs (GL (sqs [] t 0 0 n) M)→Q (.ref d) H'):g7 P w vs H Q
def iJ  (P:Program)(w:World):Sp:=fun vs H Q _=>g7 P w vs H Q
theorem mT (T:Tx K mg)(q:br (CXe P w))(F:aT K "pieces_round" "pieces_round" fB f fd .none)(C_leaves:Fok P w K mg base (CXe P w) 43 "leaves" ["sheet"] [] jz)(C_corner:Fok P w K mg base (CXe P w) 4 "corner" ["code","level"] [] jB)(C_bare_parts:Fok P w K mg base (CXe P w) 44 "bare_parts" ["sheet","code","way","colours"] [] jN)(C_ends_of_part:Fok P w K mg base (CXe P w) 1 "ends_of_part" ["square","way","begin","end"] [] iN):
  bd P w K mg base (CXe P w) 45 f fd ["sheet","codes"] (iJ P w):=by
 refine F.ok aX (fun vs H Q E h =>?_) (fun cdv A outer s H vs Q E hr h =>?_)
 ·obtain⟨_,_,_,_,_,_,rfl,_⟩:=h;rfl
 obtain⟨ps,lc,n,v,t,M,rfl,hps,ht,gt,hn,hc,hlc,hM,lM,q'⟩:=h;refine⟨_,(ac (aq (i:=2) aX (bA (kl rfl) rfl T.b_dict sL (aa (ai C_leaves q hr (aa (pv 0) af)) af))) (ac (aq (i:=3) aX tP) (ac (bg Hd rfl (cO (pv 1)) (bj (i:=4) aX) (ac (aq (i:=5) aX (ai C_corner q hr (aa (pv 4) (aa (aB aF (pv 0) ae) af)))) (ag (bg Hd rfl (bT rfl T.b_range (aa ae af)) (bj (i:=6) aX) (ag (bg Hd rfl (cO (ai C_bare_parts q hr (aa (pv 0) (aa (pv 4) (aa (pv 6) (aa (pv 2) af)))))) (j8 rfl (bw (bj (i:=7) aX) (bw (bj (i:=8) aX) iw))) (ac (aq (i:=9) aX (ai C_ends_of_part q hr (aa (pv 5) (aa (pv 6) (aa (pv 7) (aa (pv 8) af)))))) (ag (tL hr.nest (pv 3) (aL (ay (aB aF (pv 9) ae) (ay (pv 6) aA))) (aB aF (pv 9) ae) (dS rfl)))))))))) (ag (av (pv 3)))))),?_⟩;obtain⟨L,eL⟩:∃ L,L=sqs [] t 0 0 n:=⟨_,rfl⟩;have hB:L.Pairwise dP:=by rw[eL];exact cM t [] 0 0 n gt
 have lL:L.length=cnt t:=by rw[eL];exact b_ t [] 0 0 n
 have eS:lvs [] t=L.map fun q=>(q.z,q.c):=by rw[eL];exact iC t [] 0 0 n
 have okL:∀ q∈L,ni q [] t 0 0 n:=by rw[eL];exact eE t [] 0 0 n gt
 rw[← eL]at hM q';refine⟨.ref ps,t,n,rfl,⟨ps,v,rfl,hps,ht⟩,gt,hn,by lia,fun l us H1 s1 hl u1 hus =>?_⟩;rw[eS]at hus;obtain⟨as,eas,hpr⟩:=lV hus;have hpr':jK H1 as (bN L):=by
  unfold bN;rw[Hj]at hpr;exact hpr
 refine⟨l,as,bN L,rfl,SqL.of (by rw[u1,eas]),hpr',kj hB,nw fun dc H2 hdc s2 u2 =>?_⟩;refine fun dp hdp =>?_;have s3:=am.new hdp (dN P w dp []);have u3:upd H2 dp (dN P w dp []) dp=some (dN P w dp []):=ah;have u2':=s3 _ _ u2;have hdd:dc≠dp:=fun z=>by rw[z,hdp]at u2;cases u2
 have s12:=s1.trans s2;have ndp:H dp=none:=s12.free hdp
 change x6 _ _ _ _ (upd H2 dp (dN P w dp []))
 generalize upd H2 dp (dN P w dp [])=H3 at *;have s13:=s12.trans s3;refine⟨lc,rfl,⟨_,SqL.of (s13 _ _ hlc)⟩,cI (xs:=M.map fun q=>sV q.z) (fun (i:Nat) σ H4=>i≤M.length∧am H H4∧H4 dc=some (.dK (bN L))∧(∃ xs,Pcd P w H4 dp xs (GL L (M.take i)))∧∃ o4 o5 o6 o7 o8 o9:Option V,σ=[some (.ref ps),some (.ref lc),some (.ref dc),some (.ref dp),o4,o5,o6,o7,o8,o9])
  ⟨GF _,s13,u2',⟨[],⟨u3,fun e he=>absurd he (by simp)⟩,fun e he=>absurd he (by simp),fun p hp=>absurd hp (by simp[GL]),GF _⟩,_,_,_,_,_,_,rfl⟩ (fun i σ H4 _ h=>SqL.of (h.2.1 _ _ hlc)) ?_ ?_⟩
 ·rintro i u σ H4 hu ⟨_,s4,d4,⟨xs,c4⟩,o4,o5,o6,o7,o8,o9,rfl⟩;rw[Ha]at hu;obtain⟨sq,er,rfl⟩:=He.mp hu;have hi:=(Gz.mp er).1;have hsM:=GW er;have hsL:=hM sq hsM;have et:M.take (i + 1)=M.take i++[sq]:=by rw[G_,er];rfl
  have lG:(GL L (M.take i)).length≤1500 * 6000:=by
   have h1:=wA (L:=L) (M:=M.take i) fun q hq=>hM q (HR hq);have h2:(M.take i).length≤1499:=by rw[Ht];lia
   have h3:(M.take i).length * (4 * L.length)≤1499 * (4 * 1500):=Ja h2 (by lia)
   lia
  have lG':(GL L (M.take i)).length + 4 * 1500≤9000000:=by
   have h1:=wA (L:=L) (M:=M.take i) fun q hq=>hM q (HR hq);have h2:(M.take i).length≤1499:=by rw[Ht];lia
   have h3:(M.take i).length * (4 * L.length)≤1499 * (4 * 1500):=Ja h2 (by lia)
   lia
  obtain⟨jc,jl,dx',dy',dw'⟩:=de (okL sq hsL);refine⟨ps,_,_,_,rfl,rfl,SqT.of (s4 _ _ hps),rfl,txt sq.z,n,rfl,jc,jl,hn,fun p5 H5 s5 w5 =>?_⟩;rw[dx',dy',dw']at w5;refine⟨4,rfl,by decide,by decide,bV (n:=4) (fun (k:Nat) σ H6=>k≤4∧am H H6∧H6 dc=some (.dK (bN L))∧H6 p5=some (.tup [.int (sq.x:Int),.int (sq.y:Int),.int (sq.w:Int)])∧(∃ xs,Pcd P w H6 dp xs (GL L (M.take i)++(List.range k).flatMap (G1 L sq)))∧∃ o6 o7 o8 o9:Option V,σ=[some (.ref ps),some (.ref lc),some (.ref dc),some (.ref dp),some (sV sq.z),some (.ref p5),o6,o7,o8,o9])
   ⟨GF _,s4.trans s5,s5 _ _ d4,w5,⟨xs,by simpa using c4.up s5⟩,_,_,_,_,rfl⟩ ?_ ?_⟩
  ·rintro k σ H6 hk ⟨_,s6,d6,w6,⟨xs6,c6⟩,o6,o7,o8,o9,rfl⟩;rw[show (0:Int) + (k:Int)=k from Jf _];refine⟨ps,dc,n,v,t,sq,k,rfl,s6 _ _ hps,ht.up s6.tups,gt,hn,hc,by rw[← eL];exact hsL,hk,by rw[← eL];exact d6,fun lb ub H7 s7 hlb u7 hP7 =>?_⟩;rw[← eL]at hP7;have lb7:ub.length=(cj L sq k).length:=Paired.length hP7;have lb8:(cj L sq k).length≤1500:=by
    have:=BU (d:=k) hsL
    unfold G1 at this;rw[Gy]at this
    lia
   have l6:=BS hsL k;have hlbd:lb≠dp:=fun z=>by rw[z,c6.dn.at_]at hlb;cases hlb
   refine⟨lb,rfl,⟨_,SqL.of u7⟩,cI (xs:=ub) (fun (j:Nat) σ H8=>j≤ub.length∧am H H8∧(∀ b o,b≠dp→H7 b=some o→H8 b=some o)∧(∃ xs,Pcd P w H8 dp xs (GL L (M.take i)++(List.range k).flatMap (G1 L sq)++((cj L sq k).take j).map (gen sq k)))∧∃ o7 o8 o9:Option V,σ=[some (.ref ps),some (.ref lc),some (.ref dc),some (.ref dp),some (sV sq.z),some (.ref p5),some (.int (k:Int)),o7,o8,o9])
    ⟨GF _,s6.trans s7,fun _ _ _ e=>e,⟨xs6,by simpa using c6.up s7⟩,_,_,_,rfl⟩ (fun j σ H8 _ h=>SqL.of (h.2.2.1 _ _ hlbd u7)) ?_ ?_⟩
   ·rintro j u8 σ H8 hu8 ⟨_,s8,k8,⟨xs8,c8⟩,o7,o8,o9,rfl⟩;have hj:=(Gz.mp hu8).1;obtain⟨be,ebe,pb,rfl,hpb⟩:=di hP7 hu8;have npb:pb≠dp:=fun z=>by
     have:=s7 _ _ c6.dn.at_
     rw[z,this]at hpb;exact nomatch hpb
    have et8:(cj L sq k).take (j + 1)=(cj L sq k).take j++[be]:=by rw[G_,ebe];rfl
    refine⟨pb,_,rfl,SqT.of (k8 _ _ npb hpb),rfl,_,_,rfl,_,_,rfl,rfl,?_⟩;have np5:p5≠dp:=fun z=>by rw[z,c6.dn.at_]at w6;exact nomatch w6
    refine⟨p5,sq,k,be.1,be.2,rfl,k8 _ _ np5 (s7 _ _ w6),hk,fun r p1 p2 H9 s9 wr w1 w2 =>?_⟩;refine⟨r,_,_,_,rfl,rfl,SqT.of wr,rfl,r,_,_,_,rfl,rfl,SqT.of wr,rfl,(leZ rfl),fun pk hpk =>?_⟩;generalize e10:upd H9 pk _=H10;have s10:am H9 H10:=e10▸am.new hpk _;have w10:H10 pk=some (.tup [.ref p1,.int (k:Int)]):=by rw[← e10];exact ah
    have c10:=c8.up (s9.trans s10);have l10:=c10.len;rw[GE,GE,Gy,Ht]at l10;refine⟨dp,pk,(gen sq k be).1,xs8,rfl,rfl,c10.dn,⟨p1,w10,s10 _ _ w1⟩,rfl,GK (by
     have h1:k * L.length≤3 * 1500:=Ja (by lia) (by lia)
     lia:xs8.length < 9000001) (by decide),fun D11 =>?_⟩
    refine⟨hj,am.set ((s8.trans s9).trans s10) ndp _,fun b o hb e=>by rw[aD hb];exact (s9.trans s10) _ _ (k8 b o hb e),⟨cu xs8 (gen sq k be).1 pk (.ref p2),?_⟩,_,_,_,rfl⟩;rw[et8,G7,← GT];exact c10.put (p:=gen sq k be) (s10 _ _ w2) rfl D11
   ·rintro σ H8 ⟨_,s8,k8,⟨xs8,c8⟩,o7,o8,o9,rfl⟩;rw[show (cj L sq k).take ub.length=cj L sq k from GV (by lia)]at c8;have np5:p5≠dp:=fun z=>by rw[z,c6.dn.at_]at w6;exact nomatch w6
    refine⟨hk,s8,k8 _ _ hdd (s7 _ _ d6),k8 _ _ np5 (s7 _ _ w6),⟨xs8,?_⟩,_,_,_,_,rfl⟩;rw[vH,← GT];exact c8
  ·rintro σ H6 ⟨_,s6,d6,w6,⟨xs6,c6⟩,o6,o7,o8,o9,rfl⟩;refine⟨hi,s6,d6,⟨xs6,?_⟩,_,_,_,_,_,_,rfl⟩;rw[et,Dl];exact c6
 ·rintro σ H4 ⟨_,s4,d4,⟨xs,c4⟩,o4,o5,o6,o7,o8,o9,rfl⟩;rw[Gy,Ig]at c4;exact (q' dp xs H4 s4 ndp c4)
end
def cS (x:Pt × Nat):NK:=(x.1,(x.2:Int))
theorem sZ {x y:Pt × Nat}(h:cS x=cS y):x=y:=by
 have h1:=Hn Prod.fst h;have h2:=Hn Prod.snd h;simp only[cS]at h1 h2;exact Prod.ext h1 (by lia)
section
variable {P:Program}{w:World}{H:Hp}{a:Addr}{xs:List NE}{L M:List Sq}{W col:Int}
theorem Pcd.get (h:Pcd P w H a xs (GL L M))(hl:Lnd L M W col){x:Pt × Nat}{e:Pt}(he:DG L M x.1 x.2=some e):∃ c,nkV xs (cS x)=some (.ref c)∧H c=some (.tup [.int e.1,.int e.2]):=by
 have hm:=qb he;obtain⟨v,hv⟩:=G9.mp (h.all _ hm);obtain⟨b,hb⟩:=kJ hv;obtain⟨p,hp,ep,c,ec,hc⟩:=h.ent _ hb;have e1:p.2=e:=BR hl (k:=p.1) hp (by rw[ep];exact hm);subst e1;exact⟨c,by rw[← ec];exact hv,hc⟩
theorem Pcd.has (h:Pcd P w H a xs (GL L M))(x:Pt × Nat):(nkV xs (cS x)).isSome=(DG L M x.1 x.2).isSome:=by
 rw[HQ];constructor
 ·intro hs;obtain⟨v,hv⟩:=G9.mp hs;obtain⟨b,hb⟩:=kJ hv;obtain⟨p,hp,ep,_⟩:=h.ent _ hb;unfold DG;rw[Hy,I8];exact⟨p,hp,GH ep⟩
 ·intro hs;obtain⟨e,he⟩:=G9.mp hs;exact h.all _ (qb he)
end
def m_ (L M:List Sq):List (Pt × Nat):=(GL L M).map fun p=>(p.1.1,p.1.2.toNat)
theorem fc {L M:List Sq}{x:Pt × Nat}:x∈m_ L M↔(DG L M x.1 x.2).isSome=true:=by
 constructor
 ·intro h;obtain⟨p,hp,rfl⟩:=GC.mp h;obtain⟨q,hq,d,h4,be,hb,rfl⟩:=mr.mp hp;unfold DG;rw[Hy,I8];exact⟨gen q d be,hp,GH (by simp[gen])⟩
 ·intro h;obtain⟨e,he⟩:=G9.mp h;exact GC.mpr ⟨_,qb he,by simp⟩
theorem AH {L M:List Sq}{W col:Int}(h:Lnd L M W col){x:Pt × Nat}(hx:(DG L M x.1 x.2).isSome=true):(DG L M (nx (DG L M) x).1 (nx (DG L M) x).2).isSome=true:=by
 obtain⟨p,ep⟩:=G9.mp hx;obtain⟨e',h1,h2,_⟩:=rR (pcs h) (a:=x.1) (d:=x.2) ep;have h1':nx (DG L M) x=(p,e'):=h1;rw[h1'];exact h2
theorem yk {L M:List Sq}{W col:Int}(h:Lnd L M W col){x:Pt × Nat}(hx:(DG L M x.1 x.2).isSome=true):∃ N,0 < N∧N≤(GL L M).length∧(it (nx (DG L M)) N x=x∧∀ i j,i < j→j < N→it (nx (DG L M)) i x≠it (nx (DG L M)) j x):=by
 obtain⟨N,h1,h2,h3⟩:=Fq (f:=nx (DG L M)) (S:=m_ L M) (fun a ha=>fc.mpr (AH h (fc.mp ha))) (fun a b ha hb e=>Ee (pcs h) (fc.mp ha) (fc.mp hb) e) (fc.mpr hx);unfold m_ at h2;rw[Gy]at h2;exact⟨N,h1,h2,h3⟩
theorem Bf {L M:List Sq}{W col:Int}(h:Lnd L M W col){x:Pt × Nat}(hx:(DG L M x.1 x.2).isSome=true)(i:Nat):(DG L M (it (nx (DG L M)) i x).1 (it (nx (DG L M)) i x).2).isSome=true :=
 o_ (S:=fun y:Pt × Nat=>(DG L M y.1 y.2).isSome=true) (fun _ h'=>AH h h') hx i
theorem AM {H:Hp}{k:NK}{a:Addr}(h:gG H k a):Dat H (.ref a) (.tuple [.tuple [.int k.1.1,.int k.1.2],.int k.2]):=by
 obtain⟨b,h1,h2⟩:=h;exact .tup h1 (.cons (.tup h2 (.cons (.int _) (.cons (.int _) .nil))) (.cons (.int _) .nil))
theorem AL (k l:NK):PyData.eqv (.tuple [.tuple [.int k.1.1,.int k.1.2],.int k.2]) (.tuple [.tuple [.int l.1.1,.int l.1.2],.int l.2])=decide (k=l):=by
 rw[HQ,HF];simp[PyData.eqv,PyData.eqvAll,Prod.ext_iff]
theorem qE (k:NK):SeqAt.shaped (.tuple [.tuple [.int k.1.1,.int k.1.2],.int k.2])=true:=by
 rfl
section
variable {P:Program}{w:World}{K:PySem.W.Frag}{mg:Str→Option Value}{base:Heap}{CX:CXT}{f:Addr}{fd:FuncData}
abbrev fC:Stmt:=top 53
theorem cY:az ["pieces","piece","point","way","onward"] ["pieces","piece"] (aj fC):={}
inductive g_  (P:Program)(w:World)(vs:List V)(H:Hp)(Q:VK):Prop
 | mk (dp a:Addr) (xs:List NE) (L M:List Sq) (W col:Int) (x:Pt × Nat) (h_0:vs=[.ref dp,.ref a]) (h_1:Pcd P w H dp xs (GL L M)) (h_2:Lnd L M W col) (h_3:gG H (cS x) a) (h_4:(DG L M x.1 x.2).isSome=true) (h_5:∀ r H',am H H'→gG H' (cS (nx (DG L M) x)) r→Q (.ref r) H'):g_ P w vs H Q
def iK  (P:Program)(w:World):Sp:=fun vs H Q _=>g_ P w vs H Q
theorem mU (T:Tx K mg)(F:aT K "piece_behind" "piece_behind" fC f fd .none):bd P w K mg base CX 1 f fd ["pieces","piece"] (iK P w):=by
 refine F.ok cY (fun vs H Q E h =>?_) (fun cdv A outer s H vs Q E hr h =>?_)
 ·obtain⟨_,_,_,_,_,_,_,_,rfl,_⟩:=h;rfl
 obtain⟨dp,a,xs,L,M,W,col,⟨b,d⟩,rfl,hc,hl,hk,hx,q'⟩:=h;refine⟨_,(ac (aq (i:=2) cY (Aq hr.nest (pv 0) (pv 1) (fun _ _=>rfl))) (ac (aq (i:=3) cY (aB aF (pv 1) ae)) (ac (bg Hd rfl (vM (aL (ay (ak aM (ak aK (pv 3) ae) ae) (ay (pv 3) aA)))) (bj (i:=4) cY) (ag (aR (aG (D9 hr.nest) (aL (ay (pv 2) (ay (pv 4) aA))) (pv 0) (by with_unfolding_all rfl)) (ag (av (aL (ay (pv 2) (ay (pv 4) aA))))) aE))) (ag (av (aL (ay (pv 2) (ay (ak aM (ak aK (pv 3) ae) ae) aA)))))))),?_⟩;obtain⟨e,he⟩:=G9.mp hx;obtain⟨c,hv,hcv⟩:=hc.get hl (x:=(b,d)) he;have h4:=(pcs hl).way he;obtain⟨bb,k1,k2⟩:=id hk;refine⟨dp,a,cS (b,d),xs,.ref c,rfl,rfl,hc.dn,hk,hv,?_⟩;refine⟨a,_,_,_,rfl,rfl,SqT.of k1,rfl,?_⟩;have m1:((d:Int) + 1) % 4=(((d + 1) % 4:Nat):Int):=by rfl
 have m3:((d:Int) + 3) % 4=(((d + 3) % 4:Nat):Int):=by rfl
 have z2:2≤sizeLine:=by decide
 refine⟨(by show (0:Int) < 4;decide),z2,fun pt hpt =>?_⟩;have w1:upd H pt (.tup [.int (((d:Int) + 1) % 4),.int (d:Int)]) pt=some (.tup [.int (((d:Int) + 1) % 4),.int (d:Int)]):=ah;have s1:=am.new hpt (.tup [.int (((d:Int) + 1) % 4),.int (d:Int)]);refine⟨pt,rfl,⟨_,SqT.of w1⟩,nN (xs:=[.int (((d:Int) + 1) % 4),.int (d:Int)]) (fun (i:Nat) σ H2=>i≤2∧am (upd H pt (.tup [.int (((d:Int) + 1) % 4),.int (d:Int)])) H2∧(0 < i→¬ (DG L M e ((d + 1) % 4)).isSome=true)∧(1 < i→¬ (DG L M e d).isSome=true)∧∃ o4:Option V,σ=[some (.ref dp),some (.ref a),some (.ref c),some (.int (d:Int)),o4])
  ⟨GF _,am.refl _,fun h=>absurd h (H_ _),fun h=>absurd h (by decide),none,rfl⟩ (fun i σ H2 _ h=>SqT.of (h.2.1 _ _ w1)) ?_ ?_⟩
 ·rintro i u σ H2 hu ⟨_,s2,n0,n1,o4,rfl⟩;have s02:=s1.trans s2;have hc2:=hc.up s02;obtain⟨g,hg1,hg2,hg3,hg4⟩:∃ g:Nat,u=.int (g:Int)∧(g=if i=0 then (d + 1) % 4 else d)∧i < 2∧((DG L M e g).isSome=true→nx (DG L M) (b,d)=(e,g)):=by
   rcases i with _|_|i
   ·refine⟨(d + 1) % 4,?_,rfl,by decide,fun h =>?_⟩
    ·rw[← m1];exact (Option.some.inj hu).symm
    ·rw[nH he,if_pos h]
   ·refine⟨d,(Option.some.inj hu).symm,rfl,by decide,fun h =>?_⟩;rw[nH he,if_neg (n0 (by decide)),if_pos h]
   ·exact absurd hu (by simp)
  subst hg1;refine⟨z2,nw fun p3 H3 hp3 s3 w3 =>?_⟩;have s03:=s02.trans s3;have hc3:=hc.up s03;have has:=hc3.has (e,g);refine⟨dp,p3,cS (e,g),xs,rfl,rfl,hc3.dn,⟨c,w3,s03 _ _ hcv⟩,ap (bU (fun c1 =>?_) (fun c1 =>?_))⟩
  ·have c1':(nkV xs (cS (e,g))).isSome=true:=c1;rw[has]at c1';refine⟨z2,fun p4 hp4 =>?_⟩;have s4:=am.new hp4 (.tup [.ref c,.int (g:Int)]);refine q' p4 _ (s03.trans s4) ?_;rw[hg4 c1'];exact⟨c,ah,(s03.trans s4) _ _ hcv⟩
  ·have c1':¬ (nkV xs (cS (e,g))).isSome=true:=c1;rw[has]at c1';have c2:¬ (DG L M e g).isSome=true:=c1';refine⟨by assumption,s2.trans s3,fun _ =>?_,fun h1 =>?_,_,rfl⟩
   ·rcases i with _|i
    ·rw[if_pos rfl]at hg2;rw[← hg2];exact c2
    ·exact n0 (JG _)
   ·have i1:i=1:=by lia
    rw[i1]at hg2;rw[if_neg (by decide)]at hg2;rw[← hg2];exact c2
 ·rintro σ H2 ⟨_,s2,n0,n1,o4,rfl⟩;have s02:=s1.trans s2;refine⟨(by show (0:Int) < 4;decide),z2,fun p4 hp4 =>?_⟩;show Q (.ref p4) (upd H2 p4 (.tup [.ref c,.int (((d:Int) + 3) % 4)]));rw[m3];have s4:=am.new hp4 (.tup [.ref c,.int (((d + 3) % 4:Nat):Int)]);refine q' p4 _ (s02.trans s4) ?_;rw[nH he,if_neg (n0 (JG 1)),if_neg (n1 (Jg 1))];exact⟨c,ah,(s02.trans s4) _ _ hcv⟩
def RkV (H:Hp)(u:V)(x:Pt × Nat):Prop:=∃ a,u=.ref a∧gG H (cS x) a
theorem RkV.up {H H':Hp}{u:V}{x:Pt × Nat}(h:RkV H u x)(s:bO H H'):RkV H' u x:=by
 obtain⟨a,e,k⟩:=h;exact⟨a,e,k.up s⟩
def iQ (D:Pt→Nat→Option Pt)(x:Pt × Nat)(N:Nat):List (Pt × Nat):=(List.range N).map fun i=>it (nx D) i x
theorem vF (D:Pt→Nat→Option Pt)(x:Pt × Nat)(N:Nat):iQ D x (N + 1)=iQ D x N++[it (nx D) N x]:=by
 unfold iQ;rw[Ip,G7];rfl
def Per (D:Pt→Nat→Option Pt)(x:Pt × Nat)(N:Nat):Prop:=0 < N∧it (nx D) N x=x∧∀ i j,i < j→j < N→it (nx D) i x≠it (nx D) j x
abbrev jg:Stmt:=top 54
theorem eU:az ["pieces","first","ring","piece"] ["pieces","first"] (aj jg):={}
inductive jU  (P:Program)(w:World)(vs:List V)(H:Hp)(Q:VK):Prop
 | mk (dp a:Addr) (xs:List NE) (L M:List Sq) (W col:Int) (x:Pt × Nat) (h_0:vs=[.ref dp,.ref a]) (h_1:Pcd P w H dp xs (GL L M)) (h_2:Lnd L M W col) (h_3:gG H (cS x) a) (h_4:(DG L M x.1 x.2).isSome=true) (h_5:(GL L M).length≤9000000) (h_6:∀ N l us H',Per (DG L M) x N→N≤(GL L M).length→am H H'→H l=none→H' l=some (.lst us)→Paired (RkV H') us (iQ (DG L M) x N)→Q (.ref l) H'):jU P w vs H Q
def kr  (P:Program)(w:World):Sp:=fun vs H Q _=>jU P w vs H Q
theorem rN (T:Tx K mg)(q:br CX)(F:aT K "ring_from" "ring_from" jg f fd .none)(C_piece_behind:Fok P w K mg base CX 1 "piece_behind" ["pieces","piece"] [] (iK P w)):bd P w K mg base CX 2 f fd ["pieces","first"] (kr P w):=by
 refine F.ok eU (fun vs H Q E h =>?_) (fun cdv A outer s H vs Q E hr h =>?_)
 ·obtain⟨_,_,_,_,_,_,_,_,rfl,_⟩:=h;rfl
 obtain⟨dp,a,xs,L,M,W,col,x,rfl,hc,hl,hk,hx,hG,q'⟩:=h;refine⟨_,(ac (aq (i:=2) eU (bh (ay (pv 1) aA))) (ac (aq (i:=3) eU (ai C_piece_behind q hr (aa (pv 0) (aa (pv 1) af)))) (ac (kE Hd (aG (D7 hr) (pv 3) (pv 1)) (ac (bz (dL (pv 2) (aa (pv 3) af))) (ag (aq (i:=3) eU (ai C_piece_behind q hr (aa (pv 0) (aa (pv 3) af))))))) (ag (av (pv 2)))))),?_⟩;obtain⟨N,hN,hN2,hper⟩:=yk hl hx;refine⟨(leZ rfl),fun l hlN =>?_⟩;have s1:=am.new hlN (.lst [.ref a]);have w1:upd H l (.lst [.ref a]) l=some (.lst [.ref a]):=ah
 change x6 _ _ _ _ (upd H l (.lst [.ref a]))
 generalize upd H l (.lst [.ref a])=H1 at *;have hld:dp≠l:=fun z=>by
  have:=hc.dn.at_
  rw[z,hlN]at this;cases this
 refine⟨dp,a,xs,L,M,W,col,x,rfl,hc.up s1,hl,hk.up fun b ys e=>s1 _ _ e,hx,fun r H2 s2 hr2 =>?_⟩;refine⟨fun m σ H3=>∃ (k:Nat) (us:List V) (r:Addr),m + k=N∧0 < k∧k≤N∧am H H3∧H3 l=some (.lst us)∧Paired (RkV H3) us (iQ (DG L M) x k)∧gG H3 (cS (it (nx (DG L M)) k x)) r∧σ=[some (.ref dp),some (.ref a),some (.ref l),some (.ref r)],⟨N - 1,1,[.ref a],r,by lia,by decide,hN,s1.trans s2,s2 _ _ w1,.cons ⟨a,rfl,hk.up fun b ys e=>(s1.trans s2) _ _ e⟩ .nil,hr2,rfl⟩,?_⟩;rintro m σ H3 ⟨k,us,r3,hm,hk0,hkN,s3,w3,hP,hr3,rfl⟩;have lus:=Paired.length hP;unfold iQ at lus;rw[Gy,I0]at lus;have hk3:=hk.up fun b ys e=>s3 _ _ e;refine⟨_,_,AM hr3,AM hk3,qE _,qE _,ap (bU (fun c =>?_) (fun c =>?_))⟩
 rotate_left
 ·have e1:it (nx (DG L M)) k x=x:=by
   have c':¬ (!PyData.eqv _ _)=true:=c;rw[AL]at c';cases hh:decide (cS (it (nx (DG L M)) k x)=cS x) with
   | true=>exact sZ (G6 hh)
   | false=>rw[hh]at c';exact absurd rfl c'
  have ek:k=N:=by
   rcases Je k N with h|h
   ·exact absurd e1.symm (hper.2 0 k hk0 h)
   ·lia
  subst ek;exact (q' k l us H3 ⟨hN,hper.1,hper.2⟩ hN2 s3 hlN w3 hP)
 have ne:it (nx (DG L M)) k x≠x:=fun e=>by
  have c':(!PyData.eqv _ _)=true:=c;rw[AL,e,GH rfl]at c';cases c'
 have hlt:k < N:=by
  rcases Je k N with h|h
  ·exact h
  ·exact absurd (show it (nx (DG L M)) k x=x by rw[show k=N by lia];exact hper.1) ne
 refine⟨fun σ' H4=>∃ (us:List V) (r:Addr),am H H4∧H4 l=some (.lst us)∧Paired (RkV H4) us (iQ (DG L M) x (k + 1))∧gG H4 (cS (it (nx (DG L M)) (k + 1) x)) r∧σ'=[some (.ref dp),some (.ref a),some (.ref l),some (.ref r)],fun σ' H4 ⟨us,r,h1,h2,h3,h4,h5⟩=>⟨m - 1,by lia,k + 1,us,r,by lia,JG _,hlt,h1,h2,h3,h4,h5⟩,?_⟩;refine⟨.inl ⟨rfl,_,SqL.of w3⟩,l,us,_,rfl,rfl,w3,GK (by lia:us.length < 9000001) (by decide),?_⟩;have t4:bO H3 (upd H3 l (.lst (us++[.ref r3]))):=gH w3 (by intro xs q;cases q);have s4:am H (upd H3 l (.lst (us++[.ref r3]))):=am.set s3 hlN _;have w4:upd H3 l (.lst (us++[.ref r3])) l=some (.lst (us++[.ref r3])):=ah;have hP4:Paired (RkV (upd H3 l (.lst (us++[.ref r3])))) (us++[.ref r3]) (iQ (DG L M) x (k + 1)):=by
  rw[vF];exact fL (Paired.mapP hP fun _ _ h=>h.up t4) (.cons ⟨r3,rfl,hr3.up t4⟩ .nil)
 have hr4:=hr3.up t4;generalize upd H3 l (.lst (us++[.ref r3]))=H4 at *;refine⟨dp,r3,xs,L,M,W,col,it (nx (DG L M)) k x,rfl,hc.up s4,hl,hr4,Bf hl hx k,fun r5 H5 s5 hr5 =>?_⟩;exact⟨us++[.ref r3],r5,s4.trans s5,s5 _ _ w4,Paired.mapP hP4 fun _ _ h=>h.up s5.tups,hr5,rfl⟩
end
theorem xo {t:Tr}{n:Nat}(gt:aP n t){z:List Nat}{c:Int}(h4:∀ d∈z,d < 4)(h:iZ t z=some (.col c)):∃ q∈sqs [] t 0 0 n,q.z=z∧q.c=c:=by
 have go:∀ (z:List Nat) (t:Tr) (p:List Nat) (x y k:Nat),aP k t→(∀ d∈z,d < 4)→iZ t z=some (.col c)→∃ q∈sqs p t x y k,q.z=p++z∧q.c=c:=by
  intro z
  induction z with
  | nil =>
   intro t p x y k _ _ h;have e:t=.col c:=Option.some.inj h;subst e;exact⟨⟨p,c,x,y,2 ^ k⟩,GI.mpr rfl,by simp,rfl⟩
  | cons d z ih =>
   intro t p x y k g h4 h;cases t with
   | col i=>cases h
   | four a b cc dd =>
    rcases k with _|k
    ·exact g.elim
    have hd:=h4 d GO;have h4':∀ e∈z,e < 4:=fun e he=>h4 e (GG _ he);have gq:=g.q d;have app:∀ e,p++[e]++z=p++e::z:=fun e=>by simp
    show ∃ q∈sqs (p++[0]) a x y k++(sqs (p++[1]) b (x + 2 ^ k) y k++(sqs (p++[2]) cc x (y + 2 ^ k) k++sqs (p++[3]) dd (x + 2 ^ k) (y + 2 ^ k) k)),_;rcases d with _ | _ | _ | _ | d
    ·obtain⟨q,h1,h2,h3⟩:=ih a (p++[0]) x y k gq h4' h;exact⟨q,Hv _ h1,by rw[h2,app],h3⟩
    ·obtain⟨q,h1,h2,h3⟩:=ih b (p++[1]) (x + 2 ^ k) y k gq h4' h;exact⟨q,GZ _ (Hv _ h1),by rw[h2,app],h3⟩
    ·obtain⟨q,h1,h2,h3⟩:=ih cc (p++[2]) x (y + 2 ^ k) k gq h4' h;exact⟨q,GZ _ (GZ _ (Hv _ h1)),by rw[h2,app],h3⟩
    ·obtain⟨q,h1,h2,h3⟩:=ih dd (p++[3]) (x + 2 ^ k) (y + 2 ^ k) k gq h4' h;exact⟨q,GZ _ (GZ _ (GZ _ h1)),by rw[h2,app],h3⟩
    ·lia
 obtain⟨q,h1,h2,h3⟩:=go z t [] 0 0 n gt h4 h;exact⟨q,h1,by rw[h2];rfl,h3⟩
theorem AC {L:List Sq}(h:L.Pairwise dP){q r:Sq}(hq:q∈L)(hr:r∈L){x y:Nat}(a:q.x≤x∧x < q.x + q.w∧q.y≤y∧y < q.y + q.w)(b:r.x≤x∧x < r.x + r.w∧r.y≤y∧y < r.y + r.w):q=r:=by
 rcases mo h hq hr with e|e|e
 ·exact e
 ·unfold Sep at e
  lia
 ·unfold Sep at e
  lia
theorem nI {t:Tr}{n X Y:Nat}(gt:aP n t)(xn:X < 2 ^ n)(yn:Y < 2 ^ n){L:List Sq}(eL:L=sqs [] t 0 0 n){q0:Sq}(hq0:q0∈L)(ins:q0.x≤X∧X < q0.x + q0.w∧q0.y≤Y∧Y < q0.y + q0.w){i:Nat}{c:Int}(hi:i≤n)(hnd:iZ t ((low n X Y).take i)=some (.col c)):(low n X Y).take i=q0.z:=by
 obtain⟨z,ez⟩:∃ z,z=(low n X Y).take i:=⟨_,rfl⟩;rw[← ez]at hnd ⊢;have z4:∀ e∈z,e < 4:=fun e he=>by
  rw[ez]at he;have he':=HR he;unfold low at he';obtain⟨i',_,rfl⟩:=GC.mp he';exact sC _ _ _
 have hB:L.Pairwise dP:=by rw[eL];exact cM t [] 0 0 n gt
 obtain⟨q1,hq1,e1,_⟩:=xo gt z4 hnd;obtain⟨w1,e2,_,_,hl,ex,ey,ew⟩:=eE t [] 0 0 n gt q1 hq1;rw[HJ]at e2;have ew1:w1=z:=by rw[← e2,e1]
 have lz:z.length=i:=by rw[ez,Ht,rV];lia
 have cx:cxs z=X / 2 ^ (n - i):=by rw[ez];exact xM xn i hi
 have cy:cys z=Y / 2 ^ (n - i):=by rw[ez];exact xL yn i hi
 rw[ew1,lz,Ii]at ex ey;rw[ew1,lz]at ew;rw[cx]at ex;rw[cy]at ey;have pp:=HG (n - i);have m1:=Nat.div_add_mod X (2 ^ (n - i));have m2:=JO X pp;have m3:=Nat.div_add_mod Y (2 ^ (n - i));have m4:=JO Y pp;rw[Jd]at m1 m3
 have:q1=q0:=AC hB (by rw[eL];exact hq1) hq0 (x:=X) (y:=Y) ⟨by lia,by lia,by lia,by lia⟩ ins
 rw[← e1,this]
theorem Cw {D:Pt→Nat→Option Pt}{x:Pt × Nat}{N N':Nat}(h:Per D x N)(h':Per D x N'):N=N':=by
 rcases JE N N' with c|c|c
 ·exact absurd (h.2.1).symm (h'.2.2 0 N h.1 c)
 ·exact c
 ·exact absurd (h'.2.1).symm (h.2.2 0 N' h'.1 c)
noncomputable def per (D:Pt→Nat→Option Pt)(x:Pt × Nat):Nat:=open Classical in if h:∃ N,Per D x N then Classical.choose h else 0
theorem D3 {D:Pt→Nat→Option Pt}{x:Pt × Nat}{N:Nat}(h:Per D x N):per D x=N:=by
 have hh:∃ N,Per D x N:=⟨N,h⟩;unfold per;rw[dif_pos hh];exact Cw (Classical.choose_spec hh) h
noncomputable def rC (D:Pt→Nat→Option Pt)(x:Pt × Nat):List (Pt × Nat):=iQ D x (per D x)
def prv (N i:Nat):Nat:=if i=0 then N - 1 else i - 1
def lR (R:List (Pt × Nat))(i:Nat):Pt × Nat:=(R[i]?).getD ((0,0),0)
def pd (R:List (Pt × Nat))(i:Nat):Bool:=decide ((lR R i).2≠(lR R (prv R.length i)).2)
def pJ (R:List (Pt × Nat))(j:Nat):List Pt:=((List.range j).filter (pd R)).map fun i=>(lR R i).1
def EL (R:List (Pt × Nat)):List Pt:=pJ R R.length
noncomputable def qw (D:Pt→Nat→Option Pt)(x:List (List Pt) × List (Pt × Nat))(k:Pt × Nat):List (List Pt) × List (Pt × Nat):=open Classical in if k∈x.2 then x else (x.1++[EL (rC D k)],x.2++rC D k)
noncomputable def fW (D:Pt→Nat→Option Pt)(ys:List (Pt × Nat)):List (List Pt) × List (Pt × Nat):=ys.foldl (qw D) ([],[])
theorem rB (D:Pt→Nat→Option Pt)(ys:List (Pt × Nat))(k:Pt × Nat):fW D (ys++[k])=qw D (fW D ys) k:=by
 unfold fW;rw[II];rfl
def RgV (H0:Hp)(lt:Addr)(H:Hp)(u:V)(ps:List Pt):Prop:=∃ l us,u=.ref l∧l≠lt∧H0 l=none∧H l=some (.lst us)∧mJ H us ps
theorem RgV.keep {H0:Hp}{lt:Addr}{H H':Hp}{u:V}{ps:List Pt}(h:RgV H0 lt H u ps)(h1:∀ b xs,b≠lt→H b=some (.lst xs)→H' b=some (.lst xs))(t:bO H H'):RgV H0 lt H' u ps:=by
 obtain⟨l,us,e,n1,n2,hl,hp⟩:=h;exact⟨l,us,e,n1,n2,h1 l us n1 hl,hp.up t⟩
structure Gon (P:Program)(w:World)(H:Hp)(dg:Addr)(L M:List Sq)(gs:List (Pt × Nat))(xs:List NE):Prop where
 dn:DN P w H dg xs
 nd:(xs.map (·.1)).Nodup
 sub:∀ e∈xs,∃ x∈m_ L M,e.1=cS x
 has:∀ x,(nkV xs (cS x)).isSome=true↔x∈gs
theorem wZ (xs:List NE)(k:NK)(a:Addr)(v:V):(cu xs k a v).map (·.1)=if (nkV xs k).isSome=true then xs.map (·.1) else xs.map (·.1)++[k]:=by
 unfold cu
 split
 ·rw[Hj];refine Hc fun e _ =>?_;by_cases c:e.1=k<;>simp[c]
 ·simp
theorem AN {xs:List NE}{k:NK}(h:¬ (nkV xs k).isSome=true):k∉xs.map (·.1):=fun hm=>by
 obtain⟨e,he,ek⟩:=GC.mp hm;apply h
 unfold nkV;rw[Hy,I8];exact⟨e,he,GH ek⟩
section
variable {P:Program}{w:World}{H H':Hp}{dg b:Addr}{L M:List Sq}{gs:List (Pt × Nat)}{xs:List NE}
theorem Gon.len (h:Gon P w H dg L M gs xs):xs.length≤(GL L M).length:=by
 have:=lX (S:=(m_ L M).map cS) h.nd fun k hk=>by
  obtain⟨e,he,rfl⟩:=GC.mp hk;obtain⟨x,hx,ex⟩:=h.sub e he;rw[ex];exact GC.mpr ⟨x,hx,rfl⟩
 unfold m_ at this
 rwa [Gy,Gy,Gy]at this
theorem Gon.up (h:Gon P w H dg L M gs xs)(s:am H H'):Gon P w H' dg L M gs xs:=⟨h.dn.up s,h.nd,h.sub,h.has⟩
theorem Gon.keep (h:Gon P w H dg L M gs xs)(h1:H' dg=H dg)(t:bO H H'):Gon P w H' dg L M gs xs:=⟨h.dn.keep h1 t,h.nd,h.sub,h.has⟩
theorem Gon.put (h:Gon P w H dg L M gs xs){x:Pt × Nat}(hx:x∈m_ L M){v:V}(D:DN P w H' dg (cu xs (cS x) b v)):Gon P w H' dg L M (gs++[x]) (cu xs (cS x) b v):=by
 refine⟨D,?_,fun e he =>?_,fun y =>?_⟩
 ·rw[wZ]
  split
  ·exact h.nd
  ·rename_i c
   rw[Iq];refine⟨h.nd,by simp,fun a ha b hb e =>?_⟩;rw[e,GI.mp hb]at ha;exact AN c ha
 ·have hm:e.1∈(cu xs (cS x) b v).map (·.1):=GC.mpr ⟨e,he,rfl⟩;rw[wZ]at hm;have old:e.1∈xs.map (·.1)→∃ x∈m_ L M,e.1=cS x:=fun hm=>by
   obtain⟨e',he',ee⟩:=GC.mp hm;obtain⟨y,hy,ey⟩:=h.sub e' he';exact⟨y,hy,ee.symm.trans ey⟩
  split at hm
  ·exact old hm
  ·rcases GS.mp hm with hm|hm
   ·exact old hm
   ·exact⟨x,hx,GI.mp hm⟩
 ·rw[xj,Bool.or_eq_true,h.has,GS,GI,HF];constructor
  ·rintro (e | e)
   ·exact .inr (sZ e).symm
   ·exact .inl e
  ·rintro (e | e)
   ·exact .inr e
   ·exact .inl (by rw[e])
end
theorem Cb {T:List (Addr × Str)}{H H':Hp}{b:Addr}(s:dF T H H')(t:fP T H')(h:H' b=none):H b=none:=by
 cases e:H b with
 | none=>rfl
 | some o =>
  by_cases hm:b∈T.map (·.1)
  ·obtain⟨p,m,e6⟩:=GC.mp hm;obtain⟨q,h5,_⟩:=t p m;rw[e6,h]at h5;cases h5
  ·have:=s _ _ e hm
   rw[h]at this;cases this
def kx (e:NE):Pt × Nat:=(e.1.1,e.1.2.toNat)
theorem E1 {L M:List Sq}{p:NK × Pt}(h:p∈GL L M):cS (p.1.1,p.1.2.toNat)=p.1:=by
 obtain⟨q,_,d,_,be,_,rfl⟩:=mr.mp h;unfold cS gen;exact Prod.ext rfl (by simp)
theorem DY {α:Type}{us:List α}{i:Nat}{v:α}(hi:i < us.length)(h:us[prv us.length i]? = some v):atI us ((i:Int) - 1)=some v:=by
 unfold prv at h;by_cases c:i=0
 ·subst c;rw[if_pos rfl]at h;have e:us=us.take (us.length - 1)++[v]:=by
   have hl:us.length - 1 < us.length:=by omega
   rw[G0 hl]at h;have h1:=List.take_append_getElem hl;rw[Option.some.inj h,show us.length - 1 + 1=us.length by lia,Ig]at h1;exact h1.symm
  rw[e];exact BM _ v
 ·rw[if_neg c]at h;rw[show (i:Int) - 1=((i - 1:Nat):Int) by lia];exact dB h
theorem mG (R:List (Pt × Nat))(j:Nat):pJ R (j + 1)=pJ R j++(if pd R j=true then [(lR R j).1] else []):=by
 unfold pJ;rw[Ip,IB,G7]
 congr 1
 by_cases h:pd R j=true
 ·simp[h]
 ·simp[h]
theorem C_ {P:Program}{w:World}{a b:Addr}{qual:Str}{xs:List NE}:mH a qual≠dN P w a xs:=fun e=>by
 have hs:∀ n:Nat,∃ h:Heap,h.objs.size=n:=fun n=>by
  induction n with
  | zero=>exact⟨{},rfl⟩
  | succ n ih =>
   obtain⟨h,eh⟩:=ih;exact⟨h.push { cls:=.none,data:=.fields #[] },by rw[PyProof.Rows.size_push',eh]⟩
 obtain⟨h,eh⟩:=hs a;have c1:(h.push { cls:=.none,data:=.fields #[.none,.str qual 0] }).CodeRec (.ref a) qual:=⟨a,_,_,0,rfl,by rw[← eh];exact GQ _ rfl,rfl,rfl⟩;have g1:(h.push { cls:=.none,data:=.fields #[.none,.str qual 0] }).get? a=some { cls:=.none,data:=.fields #[.none,.str qual 0] }:=by rw[← eh];exact GQ _ rfl
 unfold mH dN at e;injection e with e;have c2:=(congrFun e (h.push { cls:=.none,data:=.fields #[.none,.str qual 0] })).mp c1;obtain⟨_,_,o,es,ep,k1,_,k3,_⟩:=c2;rw[g1]at k1;cases k1;exact nomatch k3
theorem x5 {P:Program}{w:World}{T:List (Addr × Str)}{H H':Hp}{tl dg:Addr}{us:List V}{xs:List NE}(t:fP T H)(h1:H tl=some (.lst us))(h2:H dg=some (dN P w dg xs))(k:∀ b o,b≠tl→b≠dg→H b=some o→H' b=some o):fP T H':=fun q hq=>by
 obtain⟨ps,g1,g2,g3⟩:=t q hq;refine⟨ps,k _ _ (fun z=>by rw[z,h1]at g1;cases g1) (fun z=>by rw[z,h2]at g1;exact nomatch g1) g1,g2,fun pos cv e =>?_⟩;obtain⟨c',e1,e2⟩:=g3 pos cv e;refine⟨c',e1,k _ _ (fun z=>by rw[z,h1]at e2;exact nomatch e2) (fun z =>?_) e2⟩;rw[z,h2]at e2;exact C_ (b:=dg) (Option.some.inj e2).symm
abbrev vJ:Str:=("rings" : Str) ++ ".<locals>." ++ "<lambda>"
theorem _root_.L2.FunT.okX {P:Program}{w:World}{K:PySem.W.Frag}{mg:Str→Option Value}{base:Heap}{x qual:Str}{st:Stmt}{f Pt:Addr}{fd:FuncData}{dV:Value}{N ps:List Str}{k:Nat}{sp:Sp}{CX:CXT}(F:FunT K x qual st f fd dV Pt)(KX:K.In base)(S:az N ps (aj st))(len:∀ vs H Q E,sp vs H Q E→vs.length=ps.length)
  (hbody:∀ (c:Addr) (A:Around) (outer:List Env) (s:Shared) (H:Hp) (vs:List V) (Q:VK) (E:XK),PySem.W.CodeHd base c Pt→cz k (A.deeper (PyProof.Rows.envOfC qual (aj st) s.heap.objs.size f (.ref c)))→sp vs H Q E →
   ∃ t,PSs (fS CX P w K mg base N qual (aj st) f (.ref c) A outer s H E) (aY st) t∧t { nx:=fun _ H'=>Q .non H',rt:=Q } (start N vs) H):bd P w K mg base CX (k + 1) f fd ps sp:=by
 obtain⟨oc,od,kV,doc,pm,an,cdv,ct,osl,rfl,lk,hcd,ht⟩:=F.ex;obtain⟨c,rfl,hc⟩:=s_ KX ht;exact Bl lk hcd S len fun A outer s H vs Q E hr hsp=>hbody c A outer s H vs Q E hc hr hsp
section
variable {P:Program}{w:World}{K:PySem.W.Frag}{mg:Str→Option Value}{base:Heap}{CX:CXT}{f:Addr}{fd:FuncData}
abbrev im:Stmt:=top 55
theorem dW:az ["sheet","x","y","first","pieces","gone","told","piece","ring","part"] ["sheet","x","y"] (aj im):={}
inductive q8  (P:Program)(w:World)(Tb:List (Addr × Str))(vs:List V)(H:Hp)(Q:VK):Prop
 | mk (ps:Addr) (n x y:Nat) (v:V) (t:Tr) (q0:Sq) (h_0:vs=[.ref ps,.int (x:Int),.int (y:Int)]) (h_1:H ps=some (.tup [.int (n:Int),v])) (h_2:bu H v t) (h_3:aP n t) (h_4:n≤40) (h_5:cnt t≤1500) (h_6:q0∈sqs [] t 0 0 n) (h_7:(q0.x≤x∧x < q0.x + q0.w∧q0.y≤y∧y < q0.y + q0.w)) (h_8:fP Tb H) (h_9:∀ A zs ys l us H',bF (sqs [] t 0 0 n) A zs→(∀ k,k∈ys↔k∈m_ (sqs [] t 0 0 n) (ci (sqs [] t 0 0 n) A q0.z))→ys.Pairwise (fun a b=>ltI (b.1.2,b.1.1) (a.1.2,a.1.1)=false)→dF Tb H H'→fP Tb H'→H l=none→H' l=some (.lst us)→Paired (RgV H l H') us (fW (DG (sqs [] t 0 0 n) (ci (sqs [] t 0 0 n) A q0.z)) ys).1→us.length≤9000000→Q (.ref l) H'):q8 P w Tb vs H Q
def zH  (P:Program)(w:World)(Tb:List (Addr × Str)):Sp:=fun vs H Q _=>q8 P w Tb vs H Q
def jy (P:Program)(w:World)(Tb:List (Addr × Str))(Y:Yx K mg):Sp:=fun vs H Q E=>zH P w Tb vs H Q E∨jC Y vs H E
theorem AF (T:Tx K mg)(Y:Yx K mg)(q:br (CXe P w)){Tb:List (Addr × Str)}{Pa:Addr}(F:FunT K "rings" "rings" im f fd .none Pa)(KX:K.In base)(hB:lw mg base)(hT:(Pa,vJ)∈Tb)(hnd:(Tb.map (·.1)).Nodup)(C_leaf_at:Fok P w K mg base (CXe P w) 5 "leaf_at" ["sheet","x","y"] [] (dU Y))(C_alike_around:Fok P w K mg base (CXe P w) 45 "alike_around" ["sheet"] [] cg)(C_members_from:Fok P w K mg base (CXe P w) 1 "members_from" ["around","first"] [] cf)(C_pieces_round:Fok P w K mg base (CXe P w) 45 "pieces_round" ["sheet","codes"] [] (iJ P w))(C_ring_from:Fok P w K mg base (CXe P w) 2 "ring_from" ["pieces","first"] [] (kr P w)):
  bd P w K mg base (CXe P w) 50 f fd ["sheet","x","y"] (jy P w Tb Y):=by
 refine F.okX KX dW (fun vs H Q E h =>?_) (fun c A outer s H vs Q E hC hr h =>?_)
 ·rcases h with h|h
  ·obtain⟨_,_,_,_,_,_,_,rfl,_⟩:=h;rfl
  ·obtain⟨_,_,_,_,_,rfl,_⟩:=h;rfl
 refine⟨_,(ac (aq (i:=3) dW (bI C_leaf_at hr fX (aa (pv 0) (aa (pv 1) (aa (pv 2) af))))) (ac (aq (i:=4) dW (ai C_pieces_round q hr (aa (pv 0) (aa (oG (N':=["code","other"]) [] [] [] 2 {} (cO (ai C_members_from q hr (aa (ai C_alike_around q hr (aa (pv 0) af)) (aa (pv 3) af)))) (fun _ _ _ _ _=>(Cu (K:=K) (n:=2) rfl (bw (tN (i:=0)) (bw (tN (i:=1)) iw)))) (fun _ _ _ _ _=>(pv 0))) af)))) (ac (aq (i:=5) dW tP) (ac (aq (i:=6) dW (bh aA)) (ac (bg Hx rfl (cO (Al hr T.b_sorted hB hC rfl hT hnd rfl (by exact⟨rfl,rfl,rfl,by decide +kernel,by decide +kernel,by decide +kernel,by decide +kernel,by decide +kernel⟩) (aa (pv 4) af))) (bj (i:=7) dW) (ag (aR (aG (yF hr.nest) (pv 7) (pv 5) (by with_unfolding_all rfl)) (ac (vK (i:=8) dW.nd rfl (Or.inr rfl) (ai C_ring_from q hr (aa (pv 4) (aa (pv 7) af)))) (ac (bz (dL (pv 6) (aa (yB (N':=["at","ring"]) ["ring"] ["ring"] [8] 1 {} (bT rfl T.b_range (aa (aw bX rfl T.b_len dM (aa (pv 8) af)) af)) (fun _ _ _ _ _=>(tN (i:=0))) (fun _ _ _ _ _=>(aG qz (aB (sd (K:=K)) (aB (o0 (K:=K)) (pv 1) (pv 0)) ae) (aB (sd (K:=K)) (aB (o0 (K:=K)) (pv 1) (ak gB (pv 0) ae)) ae))) (fun _ _ _ _ _=>(aB (sd (K:=K)) (aB (o0 (K:=K)) (pv 1) (pv 0)) ae))) af))) (ag (bg Hx rfl (cO (pv 8)) (bj (i:=9) dW) (ag (tL hr.nest (pv 5) (pv 9) gT (dS rfl))))))) aE))) (ag (av (pv 6)))))))),?_⟩
 rcases h with h|h
 rotate_left
 ·obtain⟨v,x,y,n,t,rfl,h1,h2,h3,h4⟩:=h;exact Or.inr ⟨v,x,y,n,t,rfl,h1,h2,h3,h4⟩
 obtain⟨ps,n,x,y,v,t,q0,rfl,hps,ht,gt,hn,hc,hq0,ins,hTb,q'⟩:=h;obtain⟨L,eL⟩:∃ L,L=sqs [] t 0 0 n:=⟨_,rfl⟩;have hBf:L.Pairwise dP:=by rw[eL];exact cM t [] 0 0 n gt
 have lL:L.length=cnt t:=by rw[eL];exact b_ t [] 0 0 n
 obtain⟨_,f2,_,f4,_⟩:=dk t [] 0 0 n gt q0 hq0;have xn:x < 2 ^ n:=by lia
 have yn:y < 2 ^ n:=by lia
 refine Or.inl ⟨.ref ps,t,n,x,y,rfl,⟨ps,v,rfl,hps,ht⟩,gt,hn,xn,yn,fun i cc H1 s1 hi hnd1 =>?_⟩;rw[nI gt xn yn eL (by rw[eL];exact hq0) ins hi hnd1];have hz:q0.z∈L.map (·.z):=GC.mpr ⟨q0,by rw[eL];exact hq0,rfl⟩;refine⟨[],rfl,ps,n,v,t,rfl,s1 _ _ hps,ht.up s1.tups,gt,hn,hc,fun da lo A H2 s2 hda ar hAl hN _ =>?_⟩;rw[← eL]at ar hN;have Cx:bF L A (L.map (·.z)):=⟨rfl,hBf,by rw[Gy];lia,hN⟩;refine⟨da,q0.z,L.map (·.z),lo,A,rfl,ar,hz,by rw[Gy];lia,Cx.cl,hAl,fun lm um k H3 s3 hlm um3 hM hk =>?_⟩;have bi:=BI.bfs Cx.cl hz k;have bl:=bi.len;rw[Gy]at bl;have em:=rT hk (by lia);rw[← em]at hM bl hk
 clear em
 obtain⟨R,eR⟩:∃ R,R=jq A q0.z:=⟨_,rfl⟩;rw[← eR]at hM bl hk;have lum:=Paired.length hM;obtain⟨M,eM⟩:∃ M,M=ci L A q0.z:=⟨_,rfl⟩;obtain⟨hl0,hin0⟩:=v6 gt (q0:=q0) (by rw[← eL];exact Cx) hq0;rw[← eL,← eM]at hl0 hin0;have Mz:M.map (fun q=>sV q.z)=R.map fun m=>sV m.1:=by
  rw[eM,eR];unfold ci;rw[Hj];refine Hc fun m hm =>?_;have mz:=(Cx.bi hz).sub m hm;obtain⟨r,hr',er⟩:=GC.mp mz;show sV (cC L m.1).z=sV m.1;rw[← er,jx hBf hr']
 have lM:M.length≤1500:=by
  have h1:=Hn List.length Mz;rw[Gy,Gy]at h1
  lia
 refine⟨lm,rfl,⟨_,SqL.of um3⟩,pL um (fun D (j:Nat) ys H'=>am H3 H'∧H' D=some (.lst ys)∧j≤um.length∧ys=(R.take j).map fun m=>sV m.1) (G8 (by lia:um.length≤2000) (by decide)) (fun D j ys H' h=>SqL.of (h.1 _ _ um3))
  (fun D j ys H' h=>⟨h.2.1,by rw[h.2.2.2,Gy,Ht];lia⟩) (fun D hD=>⟨am.new hD _,ah,GF _,rfl⟩) ?_ ?_ ?_ ?_⟩
 ·rintro D j u ys H4 hu hD ⟨c1,c2,c3,c4⟩;obtain⟨mm,emm,pm,rfl,hpm⟩:=di hM hu;refine⟨pm,_,rfl,SqT.of (c1 _ _ hpm),rfl,_,_,rfl,_,_,rfl,rfl,rfl,c2,am.set c1 hD _,ah,(Gz.mp hu).1,?_⟩;rw[G_,emm,c4,G7];rfl
 rotate_left
 ·rintro x σ H' R R' k ⟨a,xs,e1,h1,h2,y1,r1,f1,y2,r2,f2,f6,h⟩;exact⟨a,xs,e1,h1,h2,y1,r1,f1,y2,r2,f2,f6,k _ _ h⟩
 ·intro σ H' R R' k h_;obtain⟨_,e,h⟩:=ce h_;exact (cX e (k _ _ h))
 rintro D ys0 H4 hD ⟨c1,uD,c3,c4⟩;rw[GV (by lia),← Mz]at c4;subst c4;have s04:=s1.trans (s2.trans (s3.trans c1));refine⟨ps,D,n,v,t,M,rfl,s04 _ _ hps,ht.up s04.tups,gt,hn,hc,uD,fun r hr'=>by rw[← eL];exact hl0.sub r hr',lM,fun dp xs H5 s5 hdp pc =>?_⟩;rw[← eL]at pc;have s05:=s04.trans s5;have lG:(GL L M).length≤9000000:=by
  have h1:=wA (L:=L) (M:=M) hl0.sub;have h2:M.length * (4 * L.length)≤1500 * (4 * 1500):=Ja lM (by lia)
  lia
 refine fun dg hdg =>?_;have s6:=am.new hdg (dN P w dg []);have u6:upd H5 dg (dN P w dg []) dg=some (dN P w dg []):=ah
 change x6 _ _ _ _ (upd H5 dg (dN P w dg []))
 generalize upd H5 dg (dN P w dg [])=H6 at *;refine⟨(leZ rfl),fun tl htl =>?_⟩;have s7:=am.new htl (.lst []);have u7:upd H6 tl (.lst []) tl=some (.lst []):=ah
 change x6 _ _ _ _ (upd H6 tl (.lst []))
 generalize upd H6 tl (.lst [])=H7 at *;have s07:=s05.trans (s6.trans s7);have pc7:=pc.up (s6.trans s7);have tb7:=s07.tabs hTb;refine⟨dp,xs,rfl,pc7.dn,tb7,fun S es H8 sT tb8 nS uS pm pw =>?_⟩;have kp8:∀ {b:Addr} {o:HO},H7 b=some o→(∀ qs,o≠.tbl qs)→H8 b=some o:=fun e h=>sT.keep tb7 e h;have t8:bO H7 H8:=sT.tups tb7;have pc8:Pcd P w H8 dp xs (GL L M):=⟨pc7.dn.keep (by rw[pc7.dn.at_];exact kp8 pc7.dn.at_ (by intro qs z;cases z)) t8,fun e he=>(pc7.ent e he).up t8 fun _ h=>h,pc7.all,pc7.len⟩;have u7g:=kp8 (s7 _ _ u6) (by intro qs z;cases z);have u8:=kp8 u7 (by intro qs z;cases z);have sT0:dF Tb H H8:=s07.toT.trans sT;obtain⟨Dg,eD⟩:∃ Dg,Dg=DG L M:=⟨_,rfl⟩;obtain⟨ks,eks⟩:∃ ks,ks=es.map kx:=⟨_,rfl⟩;have lks:ks.length=es.length:=by rw[eks,Gy]
 have les:es.length≤9000000:=by
  have h1:=pm.length_eq;have h2:=pc8.len
  lia
 have ent:∀ e∈es,cS (kx e)=e.1∧kx e∈m_ L M∧gG H8 e.1 e.2.1:=fun e he=>by
  have hx:=pm.mem_iff.mp he;obtain⟨p,hp,ep,_⟩:=pc8.ent e hx;have h1:=E1 hp;rw[ep]at h1;refine⟨h1,?_,(pc8.dn.keys e hx).1⟩;unfold m_;refine GC.mpr ⟨p,hp,?_⟩;rw[ep];rfl
 have dgtl:dg≠tl:=fun z=>by rw[z,u8]at u7g;exact nomatch u7g
 have dpg:dp≠dg:=fun z=>by
  have h1:=pc.dn.at_
  rw[z,hdg]at h1;cases h1
 have dpt:dp≠tl:=fun z=>by
  have h1:=pc8.dn.at_
  rw[z,u8]at h1;exact nomatch h1
 have Stl:S≠tl:=fun z=>by rw[z,u7]at nS;cases nS
 have Sdg:S≠dg:=fun z=>by rw[z,s7 _ _ u6]at nS;cases nS
 have ntl:H tl=none:=(s05.trans s6).free htl;have ndg:H dg=none:=s05.free hdg;have pcK:∀ {H9:Hp},(∀ b o,b≠tl→b≠dg→H8 b=some o→H9 b=some o)→Pcd P w H9 dp xs (GL L M)∧bO H8 H9:=fun {H9} k=>by
  have tp:bO H8 H9:=fun b ys e=>k b _ (fun z=>by rw[z,u8]at e;cases e) (fun z=>by rw[z,u7g]at e;exact nomatch e) e;exact⟨⟨pc8.dn.keep (by rw[pc8.dn.at_];exact k _ _ dpt dpg pc8.dn.at_) tp,fun e he=>(pc8.ent e he).up tp fun _ h=>h,pc8.all,pc8.len⟩,tp⟩
 refine⟨S,rfl,⟨_,SqL.of uS⟩,cI (xs:=es.map fun e=>V.ref e.2.1) (fun (i:Nat) σ H9=>i≤es.length∧(∀ b o,b≠tl→b≠dg→H8 b=some o→H9 b=some o)∧(∃ gx,Gon P w H9 dg L M (fW Dg (ks.take i)).2 gx)∧(∃ us,H9 tl=some (.lst us)∧Paired (RgV H tl H9) us (fW Dg (ks.take i)).1∧us.length≤i)∧∃ o7 o8 o9:Option V,σ=[some (.ref ps),some (.int (x:Int)),some (.int (y:Int)),some (sV q0.z),some (.ref dp),some (.ref dg),some (.ref tl),o7,o8,o9])
  ⟨GF _,fun _ _ _ _ e=>e,⟨[],⟨u7g,fun e he=>absurd he (by simp)⟩,List.nodup_nil,fun e he=>absurd he (by simp),fun z=>by simp[nkV,fW]⟩,⟨[],u8,by exact .nil,GB _⟩,_,_,_,rfl⟩ (fun i σ H9 _ h=>SqL.of (h.2.1 _ _ Stl Sdg uS)) ?_ ?_⟩
 ·rintro i u σ H9 hu ⟨_,k9,⟨gx,g9⟩,⟨us,w9,hR,lu⟩,o7,o8,o9,rfl⟩;rw[Ha]at hu;obtain⟨e,ee,rfl⟩:=He.mp hu;have hi:=(Gz.mp ee).1;obtain⟨ek,ed,en8⟩:=ent e (GW ee);obtain⟨pc9,t9⟩:=pcK k9;have en9:=en8.up t9;have et:ks.take (i + 1)=ks.take i++[kx e]:=by rw[G_,eks,Ha,ee];rfl
  rw[et,rB];generalize fW Dg (ks.take i)=X at *;refine⟨dg,e.2.1,e.1,gx,rfl,rfl,g9.dn,en9,ap (bU (fun c1 =>?_) (fun c1 =>?_))⟩
  rotate_left
  ·have c1':¬ (!(nkV gx e.1).isSome)=true:=c1;have hin:kx e∈X.2:=(g9.has (kx e)).mp (by
    rw[ek];cases hh:(nkV gx e.1).isSome with
    | true=>rfl
    | false=>rw[hh]at c1';exact absurd rfl c1')
   have eX:qw Dg X (kx e)=X:=by unfold qw;rw[if_pos hin]
   rw[eX];exact⟨hi,k9,⟨gx,g9⟩,⟨us,w9,hR,by lia⟩,_,_,_,rfl⟩
  have hno:kx e∉X.2:=fun h=>by
   have c1':(!(nkV gx e.1).isSome)=true:=c1;have h1:=(g9.has (kx e)).mpr h;rw[ek]at h1;rw[h1]at c1';cases c1'
  have eX:qw Dg X (kx e)=(X.1++[EL (rC Dg (kx e))],X.2++rC Dg (kx e)):=by unfold qw;rw[if_neg hno]
  rw[eX];refine⟨dp,e.2.1,xs,L,M,_,_,kx e,rfl,pc9,hl0,(by rw[ek];exact en9),fc.mp ed,lG,fun N lr ur H10 hPer hN2 s10 nlr ulr hRk =>?_⟩;rw[← eD]at hPer hRk;have eRg:rC Dg (kx e)=iQ Dg (kx e) N:=by unfold rC;rw[D3 hPer]
  rw[← eRg]at hRk;have lRg:(rC Dg (kx e)).length=N:=by rw[eRg];unfold iQ;rw[Gy,I0]
  have lur:=Paired.length hRk;have hRd:∀ z∈rC Dg (kx e),z∈m_ L M:=fun z hz=>by
   rw[eRg]at hz;unfold iQ at hz;obtain⟨j,_,rfl⟩:=GC.mp hz;rw[eD];exact fc.mpr (Bf hl0 (fc.mp ed) j)
  generalize rC Dg (kx e)=Rg at *;have w10:=s10 _ _ w9;have g10:=g9.up s10;have at10:∀ (j:Nat),j < N→∃ (a b:Addr),ur[j]? = some (.ref a)∧H10 a=some (.tup [.ref b,.int ((lR Rg j).2:Int)])∧H10 b=some (.tup [.int (lR Rg j).1.1,.int (lR Rg j).1.2]):=fun j hj=>by
   obtain⟨u1,hu1⟩:∃ u1,ur[j]? = some u1:=⟨ur[j]'(by lia),G0 _⟩;obtain⟨z,hz1,a,e1,b,h1,h2⟩:=di hRk hu1;have ez:lR Rg j=z:=by unfold lR;rw[hz1];rfl
   rw[ez,hu1,e1];exact⟨a,b,rfl,h1,h2⟩
  have eN:((ur.length:Int)).toNat=N:=by rw[HL];lia
  refine⟨.inl ⟨rfl,_,SqL.of w10⟩,[.ref lr],rfl,_,_,rfl,.inl ⟨_,SqL.of ulr,rfl⟩,_,rfl,by simp,by lia,sH (fun D (j:Nat) ys H'=>j≤N∧am H10 H'∧H' D=some (.lst ys)∧ys.length≤j∧mJ H' ys (pJ Rg j)) (by rw[eN];exact G8 (by lia:N≤9000000) (by decide)) (fun D j ys H' h=>⟨h.2.2.1,h.2.2.2.1⟩) (fun D hD=>⟨GF _,am.new hD _,ah,GB _,by exact .nil⟩) ?_ ?_ (fun _ _ _ _ _ k h=>k _ _ h) ?_ ?_⟩
  ·rintro D j ys H11 hj hD ⟨_,s11,w11,l11,p11⟩;rw[eN]at hj;rw[show (0:Int) + (j:Int)=j from Jf _];obtain⟨a1,b1,x1,x2,x3⟩:=at10 j hj;obtain⟨a2,b2,y1,y2,y3⟩:=at10 (prv N j) (by unfold prv;split<;>lia);have ulr11:=s11 _ _ ulr;have yy:atI ur ((j:Int) - 1)=some (.ref a2):=DY (by lia) (by rw[show ur.length=N by lia];exact y1);refine⟨rfl,lr,_,_,_,rfl,rfl,SqL.of ulr11,dB x1,a1,_,_,_,rfl,rfl,SqT.of (s11 _ _ x2),rfl,lr,_,_,_,rfl,rfl,SqL.of ulr11,yy,a2,_,_,_,rfl,rfl,SqT.of (s11 _ _ y2),rfl,rfl,ap (bU (fun c2 =>?_) (fun c2 =>?_))⟩
   ·have ic:pd Rg j=true:=by
     have c2':(!decide (V.int ((lR Rg j).2:Int)=V.int ((lR Rg (prv N j)).2:Int)))=true:=c2;unfold pd;rw[lRg];refine GH fun e =>?_;rw[e,GH rfl]at c2';cases c2'
    refine⟨lr,_,_,_,rfl,rfl,SqL.of ulr11,dB x1,a1,_,_,_,rfl,rfl,SqT.of (s11 _ _ x2),rfl,w11,hj,am.set s11 hD _,ah,by rw[GE,Hu];lia,?_⟩;rw[mG,if_pos ic];have t12:bO H11 (upd H11 D (.lst (ys++[.ref b1]))):=gH w11 (by intro xs q;cases q);exact fL (p11.up t12) (.cons ⟨b1,rfl,t12 _ _ (s11 _ _ x3)⟩ .nil)
   ·have ic:¬ pd Rg j=true:=fun h=>by
     have c2':¬ (!decide (V.int ((lR Rg j).2:Int)=V.int ((lR Rg (prv N j)).2:Int)))=true:=c2;unfold pd at h;rw[lRg]at h;have h':=G6 h;refine c2' ?_;rw[Hb fun e=>h' (by have:=V.int.inj e;lia)];rfl
    rw[mG,if_neg ic,Hw];exact⟨hj,s11,w11,by lia,p11⟩
  rotate_left
  ·intro σ H' R R' k h_;obtain⟨_,e1,h_⟩:=ce h_;obtain⟨_,e2,h_⟩:=ce h_;obtain⟨h1,h2,h3,h4,h5,h6,h7,h8,h9,h10,h11,h12,h13,h14,h15,h16,h17⟩:=h_;exact (cX e1 (cX e2 ⟨h1,h2,h3,h4,h5,h6,h7,h8,h9,h10,h11,h12,h13,h14,h15,h16,k _ _ h17⟩))
  ·intro σ H' R R' k h_;obtain⟨_,a1,h_⟩:=ce h_;obtain⟨_,a3,h_⟩:=ce h_;obtain⟨a4,a5,a6,a7,a8,a9,a10,a11,a12,a13,a14,a15,a16,a17,a18,a19,h_⟩:=h_;obtain⟨_,b1,h_⟩:=ce h_;obtain⟨_,b3,h_⟩:=ce h_;obtain⟨_,_,b6,b7,h_⟩:=nG h_;obtain⟨b8,b9,b10,b11,b12,b13,b14,b15,b16,b17,b18,b19,b20,b21,b22,b23,r1,h_⟩:=h_;obtain⟨_,v2,h⟩:=kH h_;exact (cX a1 (cX a3 (⟨a4,a5,a6,a7,a8,a9,a10,a11,a12,a13,a14,a15,a16,a17,a18,a19,cX b1 (cX b3 (Ed b6 b7 ⟨b8,b9,b10,b11,b12,b13,b14,b15,b16,b17,b18,b19,b20,b21,b22,b23,r1,AG v2 (k _ _ h)⟩))⟩)))
  rintro D cs H11 hD ⟨_,s11,w11,l11,p11⟩;rw[eN,← lRg]at p11;have p11':mJ H11 cs (EL Rg):=p11;have w101:=s11 _ _ w10;have nDt:D≠tl:=fun z=>by rw[z,w10]at hD;cases hD
  have nD9:H9 D=none:=s10.free hD;have nD8:H8 D=none:=by
   cases e8:H8 D with
   | none=>rfl
   | some o =>
    have:=k9 D o nDt (fun z=>by rw[z,g9.dn.at_]at nD9;cases nD9) e8
    rw[nD9]at this;cases this
  have nD0:H D=none:=Cb sT0 tb8 nD8;have s911:=s10.trans s11;refine⟨tl,us,_,rfl,rfl,w101,GK (by lia:us.length < 9000001) (by decide),?_⟩;have t12:bO H11 (upd H11 tl (.lst (us++[.ref D]))):=gH w101 (by intro xs q;cases q);have k12:∀ b o,b≠tl→H11 b=some o→upd H11 tl (.lst (us++[.ref D])) b=some o:=fun b o hb e=>by rw[aD hb];exact e
  have w12:upd H11 tl (.lst (us++[.ref D])) tl=some (.lst (us++[.ref D])):=ah;generalize upd H11 tl (.lst (us++[.ref D]))=H12 at *;have t912:bO H9 H12:=s911.tups.trans t12;have g12:=(g10.up s11).keep (H':=H12) (by rw[(g10.up s11).dn.at_];exact k12 _ _ dgtl (g10.up s11).dn.at_) t12;have lrt:lr≠tl:=fun z=>by rw[z,w9]at nlr;cases nlr
  have lrg:lr≠dg:=fun z=>by rw[z,g9.dn.at_]at nlr;cases nlr
  have Dg':D≠dg:=fun z=>by rw[z,g9.dn.at_]at nD9;cases nD9
  refine⟨lr,rfl,⟨_,SqL.of (k12 _ _ lrt (s11 _ _ ulr))⟩,cI (xs:=ur) (fun (j:Nat) σ H13=>j≤ur.length∧(∀ b o,b≠dg→H12 b=some o→H13 b=some o)∧(∃ gx,Gon P w H13 dg L M (X.2++Rg.take j) gx)∧∃ o9:Option V,σ=[some (.ref ps),some (.int (x:Int)),some (.int (y:Int)),some (sV q0.z),some (.ref dp),some (.ref dg),some (.ref tl),some (.ref e.2.1),some (.ref lr),o9])
   ⟨GF _,fun _ _ _ e=>e,⟨gx,by simpa using g12⟩,_,rfl⟩ (fun j σ H13 _ h=>SqL.of (h.2.1 _ _ lrg (k12 _ _ lrt (s11 _ _ ulr)))) ?_ ?_⟩
  ·rintro j u13 σ H13 hu13 ⟨_,k13,⟨gx13,g13⟩,o9,rfl⟩;have hj:=(Gz.mp hu13).1;obtain⟨z,hz1,a1,rfl,na⟩:=di hRk hu13;have t13:bO H12 H13:=fun b ys e=>k13 b _ (fun z=>by rw[z,g12.dn.at_]at e;exact nomatch e) e;have na13:=na.up (s11.tups.trans (t12.trans t13));have gl:=g13.len;refine⟨dg,a1,cS z,gx13,rfl,rfl,g13.dn,na13,rfl,GK (by lia:gx13.length < 9000001) (by decide),fun D14 =>?_⟩;refine⟨hj,fun b o hb e=>by rw[aD hb];exact k13 b o hb e,⟨cu gx13 (cS z) a1 (.bl true),?_⟩,_,rfl⟩;rw[G_,hz1,← GT];exact g13.put (hRd z (GW hz1)) D14
  ·rintro σ H13 ⟨_,k13,⟨gx13,g13⟩,o9,rfl⟩;rw[GV (by lia)]at g13;have t13:bO H12 H13:=fun b ys e=>k13 b _ (fun z=>by rw[z,g12.dn.at_]at e;exact nomatch e) e;refine⟨hi,fun b o h1 h2 e=>k13 b o h2 (k12 b o h1 (s911 _ _ (k9 b o h1 h2 e))),⟨gx13,g13⟩,⟨us++[.ref D],k13 _ _ (Ne.symm dgtl) w12,fL (Paired.mapP hR fun _ _ h=>h.keep (fun b xs hb e=>k13 b _ (fun z=>by rw[z,g9.dn.at_]at e;exact nomatch e) (k12 b _ hb (s911 _ _ e))) (t912.trans t13)) (.cons ⟨D,cs,rfl,nDt,nD0,k13 _ _ Dg' (k12 _ _ nDt w11),p11'.up (t12.trans t13)⟩ .nil),by rw[GE,Hu];lia⟩,_,_,_,rfl⟩
 ·rintro σ H9 ⟨_,k9,⟨gx,g9⟩,⟨us,w9,hR,lu⟩,o7,o8,o9,rfl⟩;have lm0:(es.map fun e=>V.ref e.2.1).length=es.length:=Gy _;rw[lm0,GV (by lia)]at hR;have tb9:=x5 tb8 u8 u7g k9;have sT9:dF Tb H H9:=fun b o e hb=>k9 b o (fun z=>by rw[z,ntl]at e;cases e) (fun z=>by rw[z,ndg]at e;cases e) (sT0 b o e hb);rw[← eL]at q';refine (q' A (L.map (·.z)) ks tl us H9 Cx (fun kk =>?_) ?_ sT9 tb9 ntl w9 ?_ (by lia))
  ·rw[← eM];constructor
   ·intro h;rw[eks]at h;obtain⟨e,he,rfl⟩:=GC.mp h;exact (ent e he).2.1
   ·intro h;have h1:=pc8.has kk;rw[fc.mp h]at h1;obtain⟨v1,hv1⟩:=G9.mp h1;obtain⟨b1,hb1⟩:=kJ hv1;rw[eks];refine GC.mpr ⟨_,pm.mem_iff.mpr hb1,?_⟩;show ((cS kk).1,(cS kk).2.toNat)=kk;unfold cS;exact Prod.ext rfl (by simp)
  ·rw[eks,Hg];exact pw
  ·rw[← eM,← eD];exact hR
end
def ovl (dn:Bool)(s e line:Int)(q:Sq):Int:=if (if dn then (q.x:Int) else q.y)≤line∧line < (if dn then (q.x:Int) else q.y) + q.w then max 0 (min e ((if dn then (q.y:Int) else q.x) + q.w) - max s (if dn then (q.y:Int) else q.x)) else 0
def iE (dn:Bool)(line t:Int):Int × Int:=if dn then (line,t) else (t,line)
open Classical in
theorem Aw (dn:Bool){s e line:Int}(hse:s≤e)(q:Sq)(hw:0 < q.w):ovl dn s (e + 1) line q=ovl dn s e line q + (if InS q (iE dn line e).1 (iE dn line e).2 then 1 else 0):=by
 unfold ovl InS iE;cases dn<;>simp only[if_true,if_false,GA]<;>split<;>split<;>lia
theorem CG (dn:Bool)(s line:Int)(q:Sq):ovl dn s s line q=0:=by
 unfold ovl
 split<;>lia
open Classical in
theorem CI {M:List Sq}(hn:M.Nodup)(ha:∀ q∈M,∀ r∈M,∀ x y,InS q x y→InS r x y→q=r)(x y:Int):(M.map fun q=>if InS q x y then (1:Int) else 0).sum=if CM M x y then 1 else 0:=by
 induction M with
 | nil =>
  rw[if_neg (by rintro⟨q,hq,_⟩;cases hq)];rfl
 | cons q M ih =>
  obtain⟨n1,n2⟩:=HN.mp hn;have ih':=ih n2 fun a h1 b h2=>ha a (GG _ h1) b (GG _ h2);rw[GX,Ia,ih'];by_cases c:InS q x y
  ·have no:¬ CM M x y:=by
    rintro⟨r,hr,hi⟩
    have:=ha q GO r (GG _ hr) x y c hi
    exact n1 (this▸hr)
   rw[if_pos c,if_neg no,if_pos ⟨q,GO,c⟩];rfl
  ·rw[if_neg c,Jf];by_cases c2:CM M x y
   ·obtain⟨r,hr,hi⟩:=id c2;rw[if_pos c2,if_pos ⟨r,GG _ hr,hi⟩]
   ·rw[if_neg c2,if_neg];rintro⟨r,hr,hi⟩;rcases GU.mp hr with e | hr
    ·exact c (e▸hi)
    ·exact c2 ⟨r,hr,hi⟩
theorem fT {α:Type}(f g:α→Int):∀ l:List α,(l.map fun x=>f x + g x).sum=(l.map f).sum + (l.map g).sum
 | []=>rfl
 | a::l=>by
  simp only[GX,Ia,fT f g l]
  lia
theorem i6 {α:Type}:∀ l:List α,(l.map fun _=>(0:Int)).sum=0
 | []=>rfl
 | a::l=>by rw[GX,Ia,i6 l];rfl
def com (x1 y1 w1 x2 y2 w2:Int):Int:=if mn (mn (x1 + w1) (x2 + w2) - mx x1 x2) (mn (y1 + w1) (y2 + w2) - mx y1 y2)=0 then mx (mn (x1 + w1) (x2 + w2) - mx x1 x2) (mn (y1 + w1) (y2 + w2) - mx y1 y2) else 0
def gY (q r:Sq):Int:=com q.x q.y q.w r.x r.y r.w
def tH (M:List Sq):Int:=(M.map fun q=>4 * (q.w:Int) - (M.map (gY q)).sum).sum
def lnD (q:Sq)(d:Nat):Int:=if d=0 then q.y - 1 else if d=1 then q.x + q.w else if d=2 then q.y + q.w else q.x - 1
def dnD (d:Nat):Bool:=decide (d=1∨d=3)
def cU (q:Sq)(d:Nat)(r:Sq):Int:=ovl (dnD d) (tlo q d) (tlo q d + q.w) (lnD q d) r
theorem BC {X Y:Int}(h:X≤0):(if min X Y=0 then max X Y else 0)=if X=0 then max 0 Y else 0:=by
 split<;>split<;>lia
theorem xP {X Y:Int}(h:Y≤0):(if min X Y=0 then max X Y else 0)=if Y=0 then max 0 X else 0:=by
 split<;>split<;>lia
theorem xO (q r:Sq):gY q r=if min (min ((q.x:Int) + q.w) (r.x + r.w) - max (q.x:Int) r.x) (min ((q.y:Int) + q.w) (r.y + r.w) - max (q.y:Int) r.y)=0 then max (min ((q.x:Int) + q.w) (r.x + r.w) - max (q.x:Int) r.x) (min ((q.y:Int) + q.w) (r.y + r.w) - max (q.y:Int) r.y) else 0:=by
 unfold gY com;simp only[gD,gC]
theorem tw (q r:Sq):cU q 0 r=(if (r.y:Int)≤q.y - 1∧(q.y:Int) - 1 < r.y + r.w then max 0 (min ((q.x:Int) + q.w) (r.x + r.w) - max (q.x:Int) r.x) else 0) ∧
  cU q 1 r=(if (r.x:Int)≤q.x + q.w∧(q.x:Int) + q.w < r.x + r.w then max 0 (min ((q.y:Int) + q.w) (r.y + r.w) - max (q.y:Int) r.y) else 0) ∧
  cU q 2 r=(if (r.y:Int)≤q.y + q.w∧(q.y:Int) + q.w < r.y + r.w then max 0 (min ((q.x:Int) + q.w) (r.x + r.w) - max (q.x:Int) r.x) else 0) ∧
  cU q 3 r=(if (r.x:Int)≤q.x - 1∧(q.x:Int) - 1 < r.x + r.w then max 0 (min ((q.y:Int) + q.w) (r.y + r.w) - max (q.y:Int) r.y) else 0):=⟨rfl,rfl,rfl,rfl⟩
theorem zh {q r:Sq}(hq:0 < q.w)(hr:0 < r.w)(ha:q=r∨Sep q r∨Sep r q):gY q r=cU q 0 r + cU q 1 r + cU q 2 r + cU q 3 r:=by
 obtain⟨e0,e1,e2,e3⟩:=tw q r;rw[e0,e1,e2,e3,xO]
 clear e0 e1 e2 e3
 have eX:min ((q.x:Int) + q.w) (r.x + r.w) - max (q.x:Int) r.x≤(q.x:Int) + q.w - r.x∧min ((q.x:Int) + q.w) (r.x + r.w) - max (q.x:Int) r.x≤(r.x:Int) + r.w - q.x∧((q.x:Int) + q.w≤r.x→min ((q.x:Int) + q.w) (r.x + r.w) - max (q.x:Int) r.x=(q.x:Int) + q.w - r.x)∧((r.x:Int) + r.w≤q.x→min ((q.x:Int) + q.w) (r.x + r.w) - max (q.x:Int) r.x=(r.x:Int) + r.w - q.x):=by lia
 have eY:min ((q.y:Int) + q.w) (r.y + r.w) - max (q.y:Int) r.y≤(q.y:Int) + q.w - r.y∧min ((q.y:Int) + q.w) (r.y + r.w) - max (q.y:Int) r.y≤(r.y:Int) + r.w - q.y∧((q.y:Int) + q.w≤r.y→min ((q.y:Int) + q.w) (r.y + r.w) - max (q.y:Int) r.y=(q.y:Int) + q.w - r.y)∧((r.y:Int) + r.w≤q.y→min ((q.y:Int) + q.w) (r.y + r.w) - max (q.y:Int) r.y=(r.y:Int) + r.w - q.y):=by lia
 have eS:q=r→min ((q.x:Int) + q.w) (r.x + r.w) - max (q.x:Int) r.x=q.w∧min ((q.y:Int) + q.w) (r.y + r.w) - max (q.y:Int) r.y=q.w:=by
  rintro rfl
  lia
 generalize min ((q.x:Int) + q.w) (r.x + r.w) - max (q.x:Int) r.x=X at *;generalize min ((q.y:Int) + q.w) (r.y + r.w) - max (q.y:Int) r.y=Y at *;obtain⟨x1,x2,x3,x4⟩:=eX;obtain⟨y1,y2,y3,y4⟩:=eY;rcases ha with rfl | (h | h) | (h | h)
 ·obtain⟨a,b⟩:=eS rfl;rw[if_neg (by lia),if_neg (by lia),if_neg (by simp),if_neg (by simp),if_neg (by lia)];rfl
 ·have x0:X≤0:=by lia
  have xe:=x3 (by lia);rw[BC x0,if_neg (c:=_≤(q.x:Int) - 1∧_) (by lia),show max 0 X=0 by lia,ite_self,ite_self]
  split<;>split<;>lia
 ·have x0:Y≤0:=by lia
  have xe:=y3 (by lia);rw[xP x0,if_neg (c:=_≤(q.y:Int) - 1∧_) (by lia),show max 0 Y=0 by lia,ite_self,ite_self]
  split<;>split<;>lia
 ·have x0:X≤0:=by lia
  have xe:=x4 (by lia);rw[BC x0,if_neg (c:=_≤(q.x:Int) + q.w∧_) (by lia),show max 0 X=0 by lia,ite_self,ite_self]
  split<;>split<;>lia
 ·have x0:Y≤0:=by lia
  have xe:=y4 (by lia);rw[xP x0,if_neg (c:=_≤(q.y:Int) + q.w∧_) (by lia),show max 0 Y=0 by lia,ite_self,ite_self]
  split<;>split<;>lia
open Classical in
theorem xh {M:List Sq}(hn:M.Nodup)(hw:∀ q∈M,0 < q.w)(ha:∀ q∈M,∀ r∈M,∀ x y,InS q x y→InS r x y→q=r)(dn:Bool)(s line:Int):∀ l:Nat,(M.map (ovl dn s (s + l) line)).sum=((List.range l).map fun (k:Nat)=>if CM M (iE dn line (s + k)).1 (iE dn line (s + k)).2 then (1:Int) else 0).sum
 | 0=>by
  rw[show s + ((0:Nat):Int)=s by simp]
  have:M.map (ovl dn s s line)=M.map fun _=>(0:Int):=Hc fun q _=>CG dn s line q
  rw[this,i6];rfl
 | l + 1=>by
  have ih:=xh hn hw ha dn s line l;have e:M.map (ovl dn s (s + ((l + 1:Nat):Int)) line)=M.map fun q=>ovl dn s (s + l) line q + (if InS q (iE dn line (s + l)).1 (iE dn line (s + l)).2 then (1:Int) else 0):=Hc fun q hq=>by
   rw[show s + ((l + 1:Nat):Int)=s + l + 1 by lia];exact Aw dn (by lia) q (hw q hq)
  rw[e,fT,ih,CI hn ha,Ip,G7,Ju];simp
theorem vm {α:Type}{f g:α→Int}:∀ {l:List α},(∀ x∈l,f x≤g x)→(l.map f).sum≤(l.map g).sum
 | [],_=>by simp
 | a::l,h=>by
  have h1:=h a GO;have h2:=vm (l:=l) fun x hx=>h x (GG _ hx);simp only[GX,Ia]
  lia
theorem wH {α:Type}{f:α→Int}{a:α}:∀ {l:List α},(∀ x∈l,0≤f x)→a∈l→f a≤(l.map f).sum
 | [],_,h=>by cases h
 | b::l,h,hm=>by
  have h1:=h b GO;have h3:0≤(l.map f).sum:=by
   have:=vm (f:=fun _=>(0:Int)) (g:=f) (l:=l) fun x hx=>h x (GG _ hx)
   rw[i6]at this;exact this
  simp only[GX,Ia];rcases GU.mp hm with rfl | hm
  ·lia
  ·have h2:=wH (l:=l) (fun x hx=>h x (GG _ hx)) hm
   lia
theorem xm:∀ l:Nat,((List.range l).map fun _=>(1:Int)).sum=l
 | 0=>rfl
 | l + 1=>by
  rw[Ip,G7,Ju,xm l];simp
theorem zK {M:List Sq}(hn:M.Nodup)(hw:∀ q∈M,0 < q.w)(ha:∀ q∈M,∀ r∈M,∀ x y,InS q x y→InS r x y→q=r)(q:Sq)(d:Nat):(M.map (cU q d)).sum≤q.w:=by
 have h:=xh hn hw ha (dnD d) (tlo q d) (lnD q d) q.w;show (M.map (ovl (dnD d) (tlo q d) (tlo q d + q.w) (lnD q d))).sum≤_;rw[h];have h2:=vm (l:=List.range q.w) (f:=fun (k:Nat)=>open Classical in if CM M (iE (dnD d) (lnD q d) (tlo q d + k)).1 (iE (dnD d) (lnD q d) (tlo q d + k)).2 then (1:Int) else 0) (g:=fun _=>1) fun k _=>by split<;>decide
 rw[xm]at h2;exact h2
theorem uk {α:Type}(f:α→Int):∀ {l:List α},l≠[]→∃ a∈l,∀ b∈l,f a≤f b
 | [],h=>absurd rfl h
 | [a],_=>⟨a,GO,fun b hb=>by rw[GI.mp hb];exact Ic _⟩
 | a::b::l,_=>by
  obtain⟨c,hc,h⟩:=uk f (l:=b::l) (by simp);by_cases q:f a≤f c
  ·refine⟨a,GO,fun x hx =>?_⟩;rcases GU.mp hx with rfl | hx
   ·exact Ic _
   ·exact JN q (h x hx)
  ·refine⟨c,GG _ hc,fun x hx =>?_⟩;rcases GU.mp hx with rfl | hx
   ·lia
   ·exact h x hx
def EE (d:Nat)(q:Sq):Int:=if d=0 then q.y else if d=1 then -((q.x:Int) + q.w) else if d=2 then -((q.y:Int) + q.w) else q.x
theorem Bo {q r:Sq}{d:Nat}(h4:d < 4)(h:EE d q≤EE d r):cU q d r=0:=by
 obtain⟨e0,e1,e2,e3⟩:=tw q r;rcases dR h4 with rfl|rfl|rfl|rfl
 ·have h':(q.y:Int)≤r.y:=h;rw[e0,if_neg (by lia)]
 ·have h':-((q.x:Int) + q.w)≤-((r.x:Int) + r.w):=h;rw[e1,if_neg (by lia)]
 ·have h':-((q.y:Int) + q.w)≤-((r.y:Int) + r.w):=h;rw[e2,if_neg (by lia)]
 ·have h':(q.x:Int)≤r.x:=h;rw[e3,if_neg (by lia)]
theorem yl {M:List Sq}(hw:∀ q∈M,0 < q.w)(hap:∀ q∈M,∀ r∈M,q=r∨Sep q r∨Sep r q):tH M=(M.map fun q=>(q.w:Int) - (M.map (cU q 0)).sum).sum + (M.map fun q=>(q.w:Int) - (M.map (cU q 1)).sum).sum + (M.map fun q=>(q.w:Int) - (M.map (cU q 2)).sum).sum + (M.map fun q=>(q.w:Int) - (M.map (cU q 3)).sum).sum:=by
 unfold tH;rw[← fT,← fT,← fT];refine Hn List.sum (Hc fun q hq =>?_);have e:(M.map (gY q)).sum=(M.map (cU q 0)).sum + (M.map (cU q 1)).sum + (M.map (cU q 2)).sum + (M.map (cU q 3)).sum:=by
  rw[← fT,← fT,← fT];exact Hn List.sum (Hc fun r hr=>zh (hw q hq) (hw r hr) (hap q hq r hr))
 rw[e]
 lia
theorem zQ {M:List Sq}(h0:M≠[])(hn:M.Nodup)(hw:∀ q∈M,0 < q.w)(ha:∀ q∈M,∀ r∈M,∀ x y,InS q x y→InS r x y→q=r)(hap:∀ q∈M,∀ r∈M,q=r∨Sep q r∨Sep r q):4≤tH M:=by
 rw[yl hw hap];have one:∀ d,d < 4→1≤(M.map fun q=>(q.w:Int) - (M.map (cU q d)).sum).sum:=fun d h4=>by
  obtain⟨q,hq,hl⟩:=uk (EE d) h0;have h1:=wH (f:=fun q:Sq=>(q.w:Int) - (M.map (cU q d)).sum) (fun q _=>by have:=zK hn hw ha q d;show 0≤(q.w:Int) - _;lia) hq;have h2:(M.map (cU q d)).sum=0:=by
   rw[Hc (g:=fun _=>(0:Int)) fun r hr=>Bo h4 (hl r hr),i6]
  have h3:=hw q hq;rw[h2]at h1
  lia
 have:=one 0 (by decide)
 have:=one 1 (by decide)
 have:=one 2 (by decide)
 have:=one 3 (by decide)
 omega
theorem qv {α:Type}[DecidableEq α](f:α→Int){a:α}:∀ {l:List α},a∈l→(l.map f).sum=f a + ((l.erase a).map f).sum
 | [],h=>by cases h
 | b::l,h=>by
  by_cases e:b=a
  ·subst e;rw[List.erase_cons_head,GX,Ia]
  ·rw[List.erase_cons_tail (by simpa using e),GX,GX,Ia,Ia,qv f ((GU.mp h).resolve_left fun c=>e c.symm)]
   lia
theorem wG {α:Type}[DecidableEq α](f:α→Int):∀ {l M:List α},l.Nodup→M.Nodup→(∀ x∈l,x∈M)→(∀ x∈M,x∉l→f x=0)→(l.map f).sum=(M.map f).sum
 | [],M,_,_,_,h=>by
  rw[Hc (g:=fun _=>(0:Int)) fun x hx=>h x hx (by simp),i6];rfl
 | a::l,M,h1,h2,h3,h=>by
  obtain⟨n1,n2⟩:=HN.mp h1;rw[qv f (h3 a GO),GX,Ia,wG f (l:=l) (M:=M.erase a) n2 (h2.erase a) (fun x hx=>(Jm fun (e:x=a)=>n1 (by rw[← e];exact hx)).mpr (h3 x (GG _ hx))) fun x hx hn =>?_];have hx2:=(List.Nodup.mem_erase_iff h2).mp hx;exact h x hx2.2 fun c=>(GU.mp c).elim hx2.1 hn
theorem CQ {L:List Sq}(hB:L.Pairwise dP)(hw:∀ q∈L,0 < q.w){A:List Nat→List (List Nat)}{zs:List (List Nat)}(C:bF L A zs){q r:Sq}(hq:q∈L)(hr:r∈L)(hc:q.c=r.c)(ht:cA q r=true):r.z∈A q.z:=by
 obtain⟨i,hi⟩:=HS hq;obtain⟨j,hj⟩:=HS hr;have lk:∀ {a b:Sq},a∈L→b∈L→a.c=b.c→eJ (bN L) (a.z,b.z)=true:=fun {a b} ha hb e=>by
  unfold eJ;rw[bW hB ha,bW hB hb,e];exact GH rfl
 refine (C.near q.z r.z).mpr ?_;rcases JE i j with h | h | h
 ·exact⟨(q.z,r.z),kU hi hj h ht,lk hq hr hc,.inl ⟨rfl,rfl⟩⟩
 ·rw[h,hj]at hi;cases hi;rw[dG]at ht
  have:=hw q hq
  unfold jL mn mx at ht
  repeat' split at ht
  all_goals lia
 ·exact⟨(r.z,q.z),kU hj hi h (by rw[qq];exact ht),lk hr hq hc.symm,.inr ⟨rfl,rfl⟩⟩
theorem AO {L:List Sq}(hB:L.Pairwise dP)(hw:∀ q∈L,0 < q.w){A:List Nat→List (List Nat)}{zs:List (List Nat)}(C:bF L A zs)(hA:∀ z,(A z).Nodup){q0:Sq}(h0:q0∈L)(hcol:∀ q∈ci L A q0.z,q.c=q0.c){m:Mem}(hm:m∈jq A q0.z):((A m.1).map fun y=>gY (cC L m.1) (cC L y)).sum=((ci L A q0.z).map (gY (cC L m.1))).sum:=by
 have hz:q0.z∈zs:=by rw[C.ez];exact GC.mpr ⟨q0,h0,rfl⟩
 have e:(ci L A q0.z).map (gY (cC L m.1))=((jq A q0.z).map (·.1)).map fun y=>gY (cC L m.1) (cC L y):=by
  unfold ci;rw[Hj,Hj];rfl
 rw[e];refine wG _ (hA _) (C.bi hz).nd (C.closed hz m hm) fun y hy hn =>?_;have sq:∀ {y:List Nat},y∈(jq A q0.z).map (·.1)→∃ r∈L,r.z=y∧cC L y=r∧r.c=q0.c:=fun {y} hy=>by
  obtain⟨m',hm',rfl⟩:=GC.mp hy;have h1:=(C.bi hz).sub m' hm';rw[C.ez]at h1;obtain⟨r,hr,er⟩:=GC.mp h1;have e2:cC L m'.1=r:=by rw[← er];exact jx hB hr
  refine⟨r,hr,er,e2,?_⟩;refine hcol r ?_;unfold ci;exact GC.mpr ⟨m',hm',e2⟩
 obtain⟨q,hq,eq,e1,c1⟩:=sq (GC.mpr ⟨m,hm,rfl⟩);obtain⟨r,hr,er,e2,c2⟩:=sq hy;rw[e1,e2];by_cases c:cA q r=true
 ·exfalso
  apply hn
  rw[← er,← eq];exact CQ hB hw C hq hr (c1.trans c2.symm) c
 ·rw[dG]at c;unfold jL at c;simp only[gD,gC]at c;rw[xO]
  split
  ·rename_i h
   have h2:¬ 0 < max (min ((q.x:Int) + q.w) (r.x + r.w) - max (q.x:Int) r.x) (min ((q.y:Int) + q.w) (r.y + r.w) - max (q.y:Int) r.y):=fun h2=>c ⟨h,h2⟩;generalize min ((q.x:Int) + q.w) (r.x + r.w) - max (q.x:Int) r.x=X at *;generalize min ((q.y:Int) + q.w) (r.y + r.w) - max (q.y:Int) r.y=Y at *
   lia
  ·rfl
theorem wc {L:List Sq}{A:List Nat→List (List Nat)}{zs:List (List Nat)}(C:bF L A zs){q0:Sq}(h0:q0∈L):(ci L A q0.z).Nodup:=by
 have hz:q0.z∈zs:=by rw[C.ez];exact GC.mpr ⟨q0,h0,rfl⟩
 have h:=(C.bi hz).nd;unfold ci;unfold List.Nodup at h ⊢;rw[Hg]at h ⊢;refine h.imp_of_mem fun {a b} ha hb hn e=>hn ?_;have sq:∀ {m:Mem},m∈jq A q0.z→(cC L m.1).z=m.1:=fun {m} hm=>by
  have h1:=(C.bi hz).sub m hm;rw[C.ez]at h1;obtain⟨r,hr,er⟩:=GC.mp h1;rw[← er,jx C.hB hr]
 rw[← sq ha,← sq hb,e]
end Qs
namespace Qs
open PySem L2
structure BL (A:List Nat→List (List Nat))(k:Nat)(M:List Mem)(ls:List Nat):Prop where
 len:ls.length=M.length
 zero:ls[0]? = some 0
 par:∀ (i:Nat) (m:Mem),0 < i→M[i]? = some m→∃ (j c:_) (mj:Mem) (lj:Nat),j < i∧m.2=some c∧M[j]? = some mj∧mj.1=c∧m.1∈A c∧ls[j]? = some lj∧ls[i]? = some (lj + 1)
 mono:ls.Pairwise (· ≤ ·)
 cap:∀ (i lk li:Nat),ls[k]? = some lk→ls[i]? = some li→li≤lk + 1
 disc:∀ (j:Nat) (m:Mem),j < k→M[j]? = some m→∀ y∈A m.1,∃ (i:Nat) (mi:Mem) (li lj:Nat),M[i]? = some mi∧mi.1=y∧ls[i]? = some li∧ls[j]? = some lj∧li≤lj + 1
theorem dw {α:Type}{l r:List α}{i:Nat}{x:α}(h:l[i]? = some x):(l++r)[i]? = some x:=by
 rw[Hf (Gz.mp h).1];exact h
structure FL (A:List Nat→List (List Nat))(k lk:Nat)(mk:Mem)(M:List Mem)(ls:List Nat):Prop where
 len:ls.length=M.length
 zero:ls[0]? = some 0
 par:∀ (i:Nat) (m:Mem),0 < i→M[i]? = some m→∃ (j c:_) (mj:Mem) (lj:Nat),j < i∧m.2=some c∧M[j]? = some mj∧mj.1=c∧m.1∈A c∧ls[j]? = some lj∧ls[i]? = some (lj + 1)
 mono:ls.Pairwise (· ≤ ·)
 top:∀ x∈ls,x≤lk + 1
 at_:M[k]? = some mk∧ls[k]? = some lk
 disc:∀ (j:Nat) (m:Mem),j < k→M[j]? = some m→∀ y∈A m.1,∃ (i:Nat) (mi:Mem) (li lj:Nat),M[i]? = some mi∧mi.1=y∧ls[i]? = some li∧ls[j]? = some lj∧li≤lj + 1
theorem FL.add {A:List Nat→List (List Nat)}{k lk:Nat}{mk:Mem}{M:List Mem}{ls:List Nat}(h:FL A k lk mk M ls){o:List Nat}(ho:o∈A mk.1):∃ ls',FL A k lk mk (add1 mk.1 M o) ls':=by
 unfold add1
 split
 ·exact⟨ls,h⟩
 ·have hk:=(Gz.mp h.at_.1).1;refine⟨ls++[lk + 1],by rw[GE,GE,h.len];rfl,dw h.zero,fun i m hi hm =>?_,?_,fun x hx =>?_,⟨dw h.at_.1,dw h.at_.2⟩,fun j m hj hm y hy =>?_⟩
  ·by_cases q:i < M.length
   ·rw[Hf q]at hm;obtain⟨j,c,mj,lj,h1,h2,h3,h4,h5,h6,h7⟩:=h.par i m hi hm;exact⟨j,c,mj,lj,h1,h2,dw h3,h4,h5,dw h6,dw h7⟩
   ·have hl:=(Gz.mp hm).1;rw[GE,Hu]at hl;have e:i=M.length:=by lia
    subst e;rw[Hm (GB _),JI]at hm;have em:(o,some mk.1)=m:=by simpa using hm
    subst em;refine⟨k,mk.1,mk,lk,hk,rfl,dw h.at_.1,rfl,ho,dw h.at_.2,?_⟩;rw[← h.len,Hm (GB _),JI];rfl
  ·refine Hh.mpr ⟨h.mono,by simp,fun a ha b hb =>?_⟩;rw[GI.mp hb];exact h.top a ha
  ·rcases GS.mp hx with hx|hx
   ·exact h.top x hx
   ·rw[GI.mp hx];exact GB _
  ·have hjl:j < M.length:=by lia
   rw[Hf hjl]at hm;obtain⟨i,mi,li,lj,h1,h2,h3,h4,h5⟩:=h.disc j m hj hm y hy;exact⟨i,mi,li,lj,dw h1,h2,dw h3,dw h4,h5⟩
theorem FL.fold {A:List Nat→List (List Nat)}{k lk:Nat}{mk:Mem}:∀ {os:List (List Nat)} {M:List Mem} {ls:List Nat},FL A k lk mk M ls→(∀ o∈os,o∈A mk.1)→∃ ls',FL A k lk mk (os.foldl (add1 mk.1) M) ls'
 | [],_,ls,h,_=>⟨ls,h⟩
 | o::os,M,ls,h,ho=>by
  obtain⟨ls',h'⟩:=h.add (ho o GO);exact FL.fold (os:=os) h' fun x hx=>ho x (GG _ hx)
theorem BL.bfs (A:List Nat→List (List Nat))(z:List Nat):∀ k,∃ ls,BL A k (aH A z k) ls
 | 0=>⟨[0],rfl,rfl,fun i m hi hm=>by
   have:=(Gz.mp hm).1
   have e:(aH A z 0).length=1:=rfl
   lia,by simp,fun i lk li h1 h2=>by
   have:=(Gz.mp h2).1
   have e:i=0:=by simpa using this
   subst e;cases h2;exact GF _,fun j m hj=>absurd hj (Jr _)⟩
 | k + 1=>by
  obtain⟨ls,h⟩:=BL.bfs A z k;have e0:aH A z (k + 1)=match (aH A z k)[k]? with|none=>aH A z k|some m=>pe A (aH A z k) m.1:=rfl
  cases hm:(aH A z k)[k]? with
  | none =>
   rw[hm]at e0;have e1:aH A z (k + 1)=aH A z k:=e0;rw[e1];have hl:(aH A z k).length≤k:=Hz.mp hm;refine⟨ls,h.len,h.zero,h.par,h.mono,fun i lk li h1 _ =>?_,fun j m hj hjm =>?_⟩
   ·have:=(Gz.mp h1).1
    have:=h.len
    lia
   ·have:=(Gz.mp hjm).1
    exact h.disc j m (by lia) hjm
  | some mk =>
   rw[hm]at e0;have e1:aH A z (k + 1)=(A mk.1).foldl (add1 mk.1) (aH A z k):=e0;have hkl:=(Gz.mp hm).1;obtain⟨lk,hlk⟩:∃ lk,ls[k]? = some lk:=⟨ls[k]'(by rw[h.len];exact hkl),G0 _⟩;have f0:FL A k lk mk (aH A z k) ls:=⟨h.len,h.zero,h.par,h.mono,fun x hx=>by
    obtain⟨i,hi⟩:=HS hx;exact h.cap i lk x hlk hi,⟨hm,hlk⟩,h.disc⟩
   obtain⟨ls',f⟩:=f0.fold (os:=A mk.1) fun o ho=>ho;rw[← e1]at f;refine⟨ls',f.len,f.zero,f.par,f.mono,fun i lk' li h1 h2 =>?_,fun j m hj hjm y hy =>?_⟩
   ·have t1:=f.top li (GW h2);have l1:=(Gz.mp h1).1;have l2:=(Gz.mp f.at_.2).1;have e3:ls'[k]=lk:=(Gz.mp f.at_.2).2;have e4:ls'[k + 1]=lk':=(Gz.mp h1).2
    have:=HH.mp f.mono k (k + 1) l2 l1 (by simp)
    lia
   ·by_cases q:j < k
    ·exact f.disc j m q hjm y hy
    ·have ej:j=k:=by lia
     subst ej;rw[f.at_.1]at hjm;cases hjm;have hin:y∈(aH A z (j + 1)).map (·.1):=by rw[e1];exact pB _ _ _ y hy
     obtain⟨mi,hmi,ey⟩:=GC.mp hin;obtain⟨i,hi⟩:=HS hmi;have il:=(Gz.mp hi).1;obtain⟨li,hli⟩:∃ li,ls'[i]? = some li:=⟨ls'[i]'(by rw[f.len];exact il),G0 _⟩;exact⟨i,mi,li,lk,hi,ey,hli,f.at_.2,f.top li (GW hli)⟩
def wd (M:List Mem)(ls:List Nat):List (Str × Int):=(M.zip ls).map fun p=>(txt p.1.1,(p.2:Int))
theorem r9 {M:List Mem}{ls:List Nat}{i:Nat}{m:Mem}{l:Nat}(h1:M[i]? = some m)(h2:ls[i]? = some l):(wd M ls)[i]? = some (txt m.1,(l:Int)):=by
 unfold wd;rw[Ha,show (M.zip ls)[i]? = some (m,l) from JC.mpr ⟨h1,h2⟩];rfl
theorem ul {M:List Mem}{ls:List Nat}(h:ls.length=M.length):(wd M ls).length=M.length:=by
 unfold wd;rw[Gy,List.length_zip]
 lia
theorem AX {M:List Mem}{ls:List Nat}(h:ls.length=M.length):(wd M ls).map (·.1)=M.map fun m=>txt m.1:=by
 refine I9 fun i =>?_;rw[Ha,Ha];cases hm:M[i]? with
 | none =>
  have:M.length≤i:=Hz.mp hm
  rw[Hz.mpr (by rw[ul h];exact this)];rfl
 | some m =>
  have hi:=(Gz.mp hm).1;obtain⟨l,hl⟩:∃ l,ls[i]? = some l:=⟨ls[i]'(by lia),G0 _⟩;rw[r9 hm hl];rfl
theorem BX {kvs:List (Key × V)}{k:Key}:k∉kvs.map (·.1)→bD kvs k=none:=by
 induction kvs with
 | nil=>intro _;rfl
 | cons p r ih =>
  intro h;rw[GX,GU]at h;rw[bM fun e=>h (.inl e.symm)];exact ih fun c=>h (.inr c)
def onK (M:List Mem):List (Key × V):=M.map fun m=>(ky m.1,yE m.2)
theorem qG {H:Hp}:∀ {us:List V} {M:List Mem},mK H us M→∃ as:List Addr,us=as.map V.ref∧jK H as (onK M)
 | _,_,.nil=>⟨[],rfl,.nil⟩
 | _,_,.cons ⟨p,e,hp⟩ r=>by
  obtain⟨as,h1,h2⟩:=qG r;exact⟨p::as,by rw[e,h1];rfl,.cons hp h2⟩
section
variable {P:Program}{w:World}{K:PySem.W.Frag}{mg:Str→Option Value}{base:Heap}{CX:CXT}{f:Addr}{fd:FuncData}
abbrev gi:Stmt:=top 48
theorem cD:az ["sheet","x","y","to_x","to_y","first","last","onward","way"] ["sheet","x","y","to_x","to_y"] (aj gi):={}
def rh (Y:Yx K mg):Sp:=fun vs H Q E=>(∃ (ps:Addr) (n x y:Nat) (v:V) (t:Tr) (q0:Sq),vs=[.ref ps,.int (x:Int),.int (y:Int),.int (x:Int),.int (y:Int)]∧H ps=some (.tup [.int (n:Int),v])∧bu H v t∧aP n t∧n≤40∧cnt t≤1500∧q0∈sqs [] t 0 0 n∧(q0.x≤x∧x < q0.x + q0.w∧q0.y≤y∧y < q0.y + q0.w)∧∀ l H',am H H'→H' l=some (.lst [sV q0.z])→Q (.ref l) H') ∨
 (∃ a b c d e:V,vs=[a,b,c,d,e]∧jC Y [a,b,c] H E)∨∃ (ps:Addr) (n i j:Nat) (v x y:V) (t:Tr),vs=[.ref ps,.int (i:Int),.int (j:Int),x,y]∧H ps=some (.tup [.int (n:Int),v])∧bu H v t∧aP n t∧n≤40∧i < 2 ^ n∧j < 2 ^ n∧(fg K H n x∨(iX n x∧fg K H n y))∧∀ H',am H H'→E (.ref Y.c_NoPlace) none H'
theorem oM (T:Tx K mg)(Y:Yx K mg)(q:br (CXe P w))(F:aT K "way_between" "way_between" gi f fd .none)(C_leaf_at:Fok P w K mg base (CXe P w) 5 "leaf_at" ["sheet","x","y"] [] (dU Y))(C_alike_around:Fok P w K mg base (CXe P w) 45 "alike_around" ["sheet"] [] cg)(C_members_from:Fok P w K mg base (CXe P w) 1 "members_from" ["around","first"] [] cf):
  bd P w K mg base (CXe P w) 46 f fd ["sheet","x","y","to_x","to_y"] (rh Y):=by
 refine F.okX cD (fun vs H Q E h =>?_) (fun cdv A outer s H vs Q E hr h =>?_)
 ·rcases h with h|h|h
  ·obtain⟨_,_,_,_,_,_,_,rfl,_⟩:=h;rfl
  ·obtain⟨_,_,_,_,_,rfl,_⟩:=h;rfl
  ·obtain⟨_,_,_,_,_,_,_,_,rfl,_⟩:=h;rfl
 refine⟨_,(ac (aq (i:=5) cD (bI C_leaf_at hr fX (aa (pv 0) (aa (pv 1) (aa (pv 2) af))))) (ac (aq (i:=6) cD (bI C_leaf_at hr fX (aa (pv 0) (aa (pv 3) (aa (pv 4) af))))) (ac (aq (i:=7) cD (bA (kl rfl) rfl T.b_dict sL (aa (ai C_members_from q hr (aa (ai C_alike_around q hr (aa (pv 0) af)) (aa (pv 6) af))) af))) (ac (aR (aG (qy hr.dic) (pv 5) (pv 7) (by with_unfolding_all rfl)) (ag (av lU)) aE) (ac (aq (i:=8) cD (bh (ay (pv 5) aA))) (ac (kE Hx (aG qz (aB bc (pv 8) (tO nZ ae)) (pv 6)) (ag (bz (dL (pv 8) (aa (dQ hr.dic (pv 7) (aB bc (pv 8) (tO nZ ae)) (fun _ _=>rfl)) af))))) (ag (av (pv 8))))))))),?_⟩;rcases h with h | ⟨a,b,c,d,e,rfl,h⟩ | ⟨ps,n,i,j,v,x,y,t,rfl,hps,ht,gt,hn,hi,hj,bp,e'⟩
 rotate_left
 ·exact (Or.inr h)
 ·refine (Or.inl ⟨.ref ps,t,n,i,j,rfl,⟨ps,v,rfl,hps,ht⟩,gt,hn,hi,hj,fun i c H1 s1 hi hnd =>?_⟩);exact (Or.inr ⟨.ref ps,x,y,n,t,rfl,⟨ps,v,rfl,s1 _ _ hps,ht.up s1.tups⟩,hn,bp.imp (·.up s1) fun h=>⟨h.1,h.2.up s1⟩,fun H' s'=>e' _ (s1.trans s')⟩)
 obtain⟨ps,n,x,y,v,t,q0,rfl,hps,ht,gt,hn,hc,hq0,ins,q'⟩:=h;obtain⟨L,eL⟩:∃ L,L=sqs [] t 0 0 n:=⟨_,rfl⟩;have hB:L.Pairwise dP:=by rw[eL];exact cM t [] 0 0 n gt
 have lc:L.length=cnt t:=by rw[eL];exact b_ t [] 0 0 n
 obtain⟨_,f2,_,f4,_⟩:=dk t [] 0 0 n gt q0 hq0;have xn:x < 2 ^ n:=by lia
 have yn:y < 2 ^ n:=by lia
 rw[← eL]at hq0;refine (Or.inl ⟨.ref ps,t,n,x,y,rfl,⟨ps,v,rfl,hps,ht⟩,gt,hn,xn,yn,fun i c H1 s1 hi hnd =>?_⟩);rw[nI gt xn yn eL hq0 ins hi hnd];refine (Or.inl ⟨.ref ps,t,n,x,y,rfl,⟨ps,v,rfl,s1 _ _ hps,ht.up s1.tups⟩,gt,hn,xn,yn,fun i2 c2 H2 s2 hi2 hnd2 =>?_⟩);rw[nI gt xn yn eL hq0 ins hi2 hnd2];have s02:=s1.trans s2;refine⟨ps,n,v,t,rfl,s02 _ _ hps,ht.up s02.tups,gt,hn,hc,fun da lo A H3 s3 hda ar hAl hN _ =>?_⟩;rw[← eL]at ar hN;have Cx:bF L A (L.map (·.z)):=⟨rfl,hB,by rw[Gy];lia,hN⟩;have hz:q0.z∈L.map (·.z):=GC.mpr ⟨q0,hq0,rfl⟩;refine⟨da,q0.z,L.map (·.z),lo,A,rfl,ar,hz,by rw[Gy];lia,Cx.cl,hAl,fun lm um k H4 s4 hlm um4 hM hk =>?_⟩;have bi:=BI.bfs Cx.cl hz k;obtain⟨as,eas,hP⟩:=qG hM;have nd:((onK (aH A q0.z k)).map (·.1)).Nodup:=by
  have:=bi.nd
  unfold onK;rw[Hj];unfold List.Nodup at this ⊢;rw[Hg]at this ⊢;exact this.imp fun h e=>h (l8 e)
 have s04:=s02.trans (s3.trans s4);refine⟨lm,as,onK (aH A q0.z k),rfl,SqL.of (by rw[um4,eas]),hP,nd,nw fun dn H5 hdn s5 u5 =>?_⟩;have vat:bD (onK (aH A q0.z k)) (ky q0.z)=some .non:=nY nd (GC.mpr ⟨(q0.z,none),GW (kZ A q0.z k),rfl⟩);refine⟨dn,_,rfl,km.k (k:=ky q0.z) u5,ap (bU (fun c =>?_) (fun _ =>?_))⟩
 ·have c':(!(bD (onK (aH A q0.z k)) (ky q0.z)).isSome)=true:=c;rw[vat]at c';cases c'
 refine⟨(leZ rfl),fun wl hwl =>?_⟩;have s6:=am.new hwl (.lst [sV q0.z]);have u6:upd H5 wl (.lst [sV q0.z]) wl=some (.lst [sV q0.z]):=ah;show py 8 (.ref wl) _ (upd H5 wl (.lst [sV q0.z])) _;generalize upd H5 wl (.lst [sV q0.z])=H6 at *;refine⟨fun m σ H7=>m=0∧H7=H6∧σ=[some (.ref ps),some (.int (x:Int)),some (.int (y:Int)),some (.int (x:Int)),some (.int (y:Int)),some (sV q0.z),some (sV q0.z),some (.ref dn),some (.ref wl)],⟨0,rfl,rfl,rfl⟩,?_⟩;rintro m σ H7 ⟨rfl,rfl,rfl⟩;refine⟨1,rfl,wl,_,-1,sV q0.z,rfl,rfl,SqL.of u6,rfl,rfl,ap (xt rfl ?_)⟩;exact (q' wl _ (s04.trans (s5.trans s6)) u6)
abbrev ik:Stmt:=top 47
theorem cV:az ["sheet","x","y","first","steps","code","other"] ["sheet","x","y"] (aj ik):={}
def fo (Y:Yx K mg):Sp:=fun vs H Q E=>(∃ (ps:Addr) (n x y:Nat) (v:V) (t:Tr),vs=[.ref ps,.int x,.int y]∧H ps=some (.tup [.int (n:Int),v])∧bu H v t∧aP n t∧n≤40∧cnt t≤1500∧x < 2 ^ n∧y < 2 ^ n∧∀ l us H',am H H'→H' l=some (.lst us)→Q (.ref l) H')∨jC Y vs H E
theorem qf (T:Tx K mg)(Y:Yx K mg)(q:br (CXe P w))(F:aT K "steps_from" "steps_from" ik f fd .none)(C_leaf_at:Fok P w K mg base (CXe P w) 5 "leaf_at" ["sheet","x","y"] [] (dU Y))(C_alike_around:Fok P w K mg base (CXe P w) 45 "alike_around" ["sheet"] [] cg)(C_members_from:Fok P w K mg base (CXe P w) 1 "members_from" ["around","first"] [] cf):
  bd P w K mg base (CXe P w) 46 f fd ["sheet","x","y"] (fo Y):=by
 refine F.okX cV (fun vs H Q E h =>?_) (fun cdv A outer s H vs Q E hr h =>?_)
 ·rcases h with h|h
  ·obtain⟨_,_,_,_,_,_,rfl,_⟩:=h;rfl
  ·obtain⟨_,_,_,_,_,rfl,_⟩:=h;rfl
 refine⟨_,(ac (aq (i:=3) cV (bI C_leaf_at hr fX (aa (pv 0) (aa (pv 1) (aa (pv 2) af))))) (ac (aq (i:=4) cV tQ) (ac (bg Hx rfl (cO (ai C_members_from q hr (aa (ai C_alike_around q hr (aa (pv 0) af)) (aa (pv 3) af)))) (j8 rfl (bw (bj (i:=5) cV) (bw (bj (i:=6) cV) iw))) (ag (rF hr.dic (pv 4) (pv 5) (Ao (aG AA (pv 6) lU) ae (ak aK (dQ hr.dic (pv 4) (pv 6) (fun _ _=>rfl)) ae)) (dS rfl)))) (ag (av (yA rfl rfl T.b_sorted (pv 4))))))),?_⟩;rcases h with h | ⟨vs,x,y,n,t,rfl,hsh,hn,bp,e'⟩
 rotate_left
 ·exact (Or.inr ⟨vs,x,y,n,t,rfl,hsh,hn,bp,e'⟩)
 obtain⟨ps,n,x,y,v,t,rfl,hps,ht,gt,hn,hc,hx,hy,q'⟩:=h;obtain⟨L,eL⟩:∃ L,L=sqs [] t 0 0 n:=⟨_,rfl⟩;have hB:L.Pairwise dP:=by rw[eL];exact cM t [] 0 0 n gt
 have lc:L.length=cnt t:=by rw[eL];exact b_ t [] 0 0 n
 refine (Or.inl ⟨.ref ps,t,n,x,y,rfl,⟨ps,v,rfl,hps,ht⟩,gt,hn,hx,hy,fun i c H1 s1 hi hnd =>?_⟩);obtain⟨z,ez⟩:∃ z,z=(low n x y).take i:=⟨_,rfl⟩;rw[← ez]at hnd ⊢;refine fun d hd =>?_;have s2:=am.new hd (.dK []);have u2:upd H1 d (.dK []) d=some (.dK []):=ah;have nd:H d=none:=s1.free hd;generalize upd H1 d (.dK [])=H2 at *;have s02:=s1.trans s2;refine⟨ps,n,v,t,rfl,s02 _ _ hps,ht.up s02.tups,gt,hn,hc,fun da lo A H3 s3 hda ar hAl hN _ =>?_⟩;have z4:∀ e∈z,e < 4:=fun e he=>by
  rw[ez]at he;have he':=HR he;unfold low at he';obtain⟨i',_,rfl⟩:=GC.mp he';exact sC _ _ _
 obtain⟨q0,hq0,eq0,ec0⟩:=xo gt z4 hnd;rw[← eL]at hq0 ar hN;have Cx:bF L A (L.map (·.z)):=⟨rfl,hB,by rw[Gy];lia,hN⟩;have hz:z∈L.map (·.z):=GC.mpr ⟨q0,hq0,eq0⟩;refine⟨da,z,L.map (·.z),lo,A,rfl,ar,hz,by rw[Gy];lia,Cx.cl,hAl,fun lm um k H4 s4 hlm um4 hM hk =>?_⟩;have bi:=BI.bfs Cx.cl hz k;have bl:=bi.len;rw[Gy]at bl;obtain⟨ls,els⟩:∃ ls,ls=Classical.choose (BL.bfs A z k):=⟨_,rfl⟩;have B:BL A k (aH A z k) ls:=by rw[els];exact Classical.choose_spec (BL.bfs A z k)
 have lM:=Paired.length hM;have s24:=s3.trans s4;have s04:=s02.trans s24;have d4:=s24 _ _ u2;have ndl:((wd (aH A z k) ls).map (·.1)).Nodup:=by
  rw[AX B.len]
  have:=bi.nd
  unfold List.Nodup at this ⊢;rw[Hg]at this ⊢;exact this.imp fun h e=>h (sY e)
 obtain⟨LB,eLB⟩:∃ LB,LB=wd (aH A z k) ls:=⟨_,rfl⟩;have lLB:LB.length=um.length:=by rw[eLB,ul B.len,lM]
 rw[← eLB]at ndl;refine⟨lm,rfl,⟨_,SqL.of um4⟩,cI (xs:=um) (fun (i:Nat) σ H5=>i≤um.length∧am H H5∧(∀ b o,b≠d→H4 b=some o→H5 b=some o)∧H5 d=some (.dK (i5 (LB.take i)))∧∃ o5 o6:Option V,σ=[some (.ref ps),some (.int (x:Int)),some (.int (y:Int)),some (.str (txt z)),some (.ref d),o5,o6]) ⟨GF _,s04,fun _ _ _ e=>e,d4,_,_,rfl⟩ (fun i σ H5 _ h=>SqL.of (h.2.2.1 _ _ (fun e=>by rw[e,d4]at um4;cases um4) um4)) ?_ ?_⟩
 ·rintro i u σ H5 hu ⟨_,s5,k5,d5,o5,o6,rfl⟩;obtain⟨hi',_⟩:=Gz.mp hu;obtain⟨mm,emm,pm,rfl,hpm⟩:=di hM hu;have hpd:pm≠d:=fun e=>by rw[e,d4]at hpm;cases hpm
  obtain⟨li,hli⟩:∃ li,ls[i]? = some li:=⟨ls[i]'(by rw[B.len];lia),G0 _⟩;have eat:LB[i]? = some (txt mm.1,(li:Int)):=by rw[eLB];exact r9 emm hli
  have et:LB.take (i + 1)=LB.take i++[(txt mm.1,(li:Int))]:=by rw[G_,eat];rfl
  refine⟨pm,_,rfl,SqT.of (k5 _ _ hpd hpm),rfl,_,_,rfl,_,_,rfl,rfl,?_⟩;have li5:(i5 (LB.take i)).length < sizeLine:=by
   unfold i5;rw[Gy,Ht];exact GK (by lia:_ < 5000) (by decide)
  have keysN:((i5 (LB.take (i + 1))).map (·.1)).Nodup:=by
   have h1:((LB.take (i + 1)).map (·.1)).Nodup:=((IZ (i + 1) LB).map (·.1)).nodup ndl;unfold i5;rw[Hj];unfold List.Nodup at h1 ⊢;rw[Hg]at h1 ⊢;exact h1.imp fun h e=>h (Sum.inr.inj e)
  have eS1:i5 (LB.take (i + 1))=i5 (LB.take i)++[(ky mm.1,V.int (li:Int))]:=by
   rw[et];unfold i5;rw[G7];rfl
  rw[eS1,G7,Iq]at keysN;have vn:bD (i5 (LB.take i)) (ky mm.1)=none:=BX fun hin=>keysN.2.2 _ hin _ (GI.mpr rfl) rfl;have fin:∀ (lv:Int),lv=(li:Int)→(i + 1≤um.length∧am H (upd H5 d (.dK (dr (i5 (LB.take i)) (ky mm.1) (.int lv))))∧(∀ b o,b≠d→H4 b=some o→upd H5 d (.dK (dr (i5 (LB.take i)) (ky mm.1) (.int lv))) b=some o)∧upd H5 d (.dK (dr (i5 (LB.take i)) (ky mm.1) (.int lv))) d=some (.dK (i5 (LB.take (i + 1))))):=fun lv e=>by
   subst e;refine⟨hi',am.set s5 nd _,fun b o hb h=>by rw[aD hb];exact k5 b o hb h,?_⟩;rw[ah,Ac _ vn,eS1]
  by_cases h0:i=0
  ·have em:mm=(z,none):=by
    have:=kZ A z k
    rw[h0,this]at emm;exact (Option.some.inj emm).symm
   have e0:li=0:=by
    have:=B.zero
    rw[h0,this]at hli;exact (Option.some.inj hli).symm
   have ep:yE mm.2=.non:=by rw[em];rfl
   rw[ep];refine⟨rfl,ap (bU (fun _ =>?_) (fun c=>absurd rfl c))⟩;obtain⟨f1,f2,f3,f4⟩:=fin 0 (by rw[e0];rfl);exact⟨d,_,rfl,va.k (k:=ky mm.1) d5 li5,f1,f2,f3,f4,_,_,rfl⟩
  ·obtain⟨j,cc,mj,lj,h1,h2,h3,h4,h5,h6,h7⟩:=B.par i mm (by lia) emm;have ep:yE mm.2=sV cc:=by rw[h2];rfl
   have e7:li=lj + 1:=by rw[hli]at h7;exact Option.some.inj h7
   rw[ep];have vc:bD (i5 (LB.take i)) (ky cc)=some (.int (lj:Int)):=by
    refine nY keysN.1 ?_;unfold i5;refine GC.mpr ⟨(txt cc,(lj:Int)),?_,rfl⟩;refine GW (i:=j) ?_;rw[List.getElem?_take,if_pos h1,eLB,r9 h3 h6,h4]
   refine⟨rfl,ap (bU (fun c =>?_) (fun _ =>?_))⟩
   ·have c':decide (sV cc=V.non)=true:=c;cases G6 c'
   obtain⟨f1,f2,f3,f4⟩:=fin ((lj:Int) + 1) (by rw[e7];rfl);exact⟨d,.int (lj:Int),rfl,vc▸km.k (k:=ky cc) d5,d,_,rfl,va.k (k:=ky mm.1) d5 li5,f1,f2,f3,f4,_,_,rfl⟩
 ·rintro σ H5 ⟨_,s5,k5,d5,o5,o6,rfl⟩;rw[GV (by lia)]at d5;refine⟨d,LB,rfl,d5,fun S us es H6 s6 hS u6 pm pw hE =>?_⟩;rw[eLB]at pm;exact q' S us H6 (s5.trans s6) u6
abbrev lE:Stmt:=top 32
theorem vA:az ["start","wide","other_start","other_wide"] ["start","wide","other_start","other_wide"] (aj lE):={}
inductive mM  (vs:List V)(H:Hp)(Q:VK):Prop
 | mk (a b c d:Int) (h_0:vs=[.int a,.int b,.int c,.int d]) (h_1:Q (.int (mn (a + b) (c + d) - mx a c)) H):mM  vs H Q
def og:Sp:=fun vs H Q _=>mM  vs H Q
theorem vS (T:Tx K mg)(F:aT K "overlap" "overlap" lE f fd .none):bd P w K mg base CX 1 f fd ["start","wide","other_start","other_wide"] og:=by
 refine F.ok vA (fun vs H Q E h =>?_) (fun cdv A outer s H vs Q E hr h =>?_)
 ·obtain⟨_,_,_,_,rfl,_⟩:=h;rfl
 obtain⟨a,b,c,d,rfl,q'⟩:=h;refine⟨_,(ag (av (ak gB (aw (gZ rfl) rfl T.b_min pR (aa (ak aK (pv 0) (pv 1)) (aa (ak aK (pv 2) (pv 3)) af))) (aw (md rfl) rfl T.b_max wy (aa (pv 0) (aa (pv 2) af)))))),?_⟩;exact⟨_,_,rfl,_,_,rfl,q'⟩
abbrev ot:Stmt:=top 33
theorem gP:az ["code","other","level","one","two","across","down"] ["code","other","level"] (aj ot):={}
def sqx (z:Str)(n:Nat):Int:=((cxs (dig z) * 2 ^ (n - z.length):Nat):Int)
def sqy (z:Str)(n:Nat):Int:=((cys (dig z) * 2 ^ (n - z.length):Nat):Int)
def sqw (z:Str)(n:Nat):Int:=((2 ^ (n - z.length):Nat):Int)
inductive pZ  (vs:List V)(H:Hp)(Q:VK):Prop
 | mk (z y:Str) (n:Nat) (h_0:vs=[.str z,.str y,.int n]) (h_1:IsC z) (h_2:IsC y) (h_3:z.length≤n) (h_4:y.length≤n) (h_5:n≤40) (h_6:∀ H',am H H'→Q (.int (com (sqx z n) (sqy z n) (sqw z n) (sqx y n) (sqy y n) (sqw y n))) H'):pZ  vs H Q
def qx:Sp:=fun vs H Q _=>pZ  vs H Q
theorem yK (T:Tx K mg)(q:br CX)(F:aT K "common" "common" ot f fd .none)(C_need_code:Fok P w K mg base CX 2 "need_code" ["code"] [] eQ)(C_corner:Fok P w K mg base CX 4 "corner" ["code","level"] [] jB)
  (C_overlap:Fok P w K mg base CX 1 "overlap" ["start","wide","other_start","other_wide"] [] og):bd P w K mg base CX 5 f fd ["code","other","level"] qx:=by
 refine F.ok gP (fun vs H Q E h =>?_) (fun cdv A outer s H vs Q E hr h =>?_)
 ·obtain⟨_,_,_,rfl,_⟩:=h;rfl
 obtain⟨z,y,n,rfl,hz,hy,lz,ly,hn,q'⟩:=h;refine⟨_,(ac (bz (ai C_need_code q hr (aa (pv 0) af))) (ac (bz (ai C_need_code q hr (aa (pv 1) af))) (ac (aq (i:=3) gP (ai C_corner q hr (aa (pv 0) (aa (pv 2) af)))) (ac (aq (i:=4) gP (ai C_corner q hr (aa (pv 1) (aa (pv 2) af)))) (ac (aq (i:=5) gP (ai C_overlap q hr (aa (aB aF (pv 3) ae) (aa (aB aF (pv 3) ae) (aa (aB aF (pv 4) ae) (aa (aB aF (pv 4) ae) af)))))) (ac (aq (i:=6) gP (ai C_overlap q hr (aa (aB aF (pv 3) ae) (aa (aB aF (pv 3) ae) (aa (aB aF (pv 4) ae) (aa (aB aF (pv 4) ae) af)))))) (ac (aR (aG qz (aw (gZ rfl) rfl T.b_min pR (aa (pv 5) (aa (pv 6) af))) ae) (ag (av ae)) aE) (ag (av (aw (md rfl) rfl T.b_max wy (aa (pv 5) (aa (pv 6) af)))))))))))),?_⟩;refine⟨z,rfl,hz,by lia,fun H1 s1 =>?_⟩;refine⟨y,rfl,hy,by lia,fun H2 s2 =>?_⟩;refine⟨z,n,rfl,hz,lz,hn,fun p1 H3 s3 h1 =>?_⟩;refine⟨y,n,rfl,hy,ly,hn,fun p2 H4 s4 h2 =>?_⟩;have h1':=s4 _ _ h1;refine⟨p1,_,_,_,rfl,rfl,SqT.of h1',rfl,p1,_,_,_,rfl,rfl,SqT.of h1',rfl,p2,_,_,_,rfl,rfl,SqT.of h2,rfl,p2,_,_,_,rfl,rfl,SqT.of h2,rfl,_,_,_,_,rfl,?_⟩;refine⟨p1,_,_,_,rfl,rfl,SqT.of h1',rfl,p1,_,_,_,rfl,rfl,SqT.of h1',rfl,p2,_,_,_,rfl,rfl,SqT.of h2,rfl,p2,_,_,_,rfl,rfl,SqT.of h2,rfl,_,_,_,_,rfl,?_⟩;have sm:=s1.trans (s2.trans (s3.trans s4));have q4:=q' H4 sm;unfold com at q4;refine⟨_,_,rfl,rfl,ap (bU (fun c =>?_) (fun c =>?_))⟩
 ·rw[if_neg ?_]at q4
  ·exact q4
  ·intro e;have c':(!decide (V.int (mn (mn (sqx z n + sqw z n) (sqx y n + sqw y n) - mx (sqx z n) (sqx y n)) (mn (sqy z n + sqw z n) (sqy y n + sqw y n) - mx (sqy z n) (sqy y n)))=V.int 0))=true:=c;rw[e]at c';simp at c'
 ·rw[if_pos ?_]at q4
  ·exact⟨_,_,rfl,q4⟩
  ·have c':¬ (!decide (V.int (mn (mn (sqx z n + sqw z n) (sqx y n + sqw y n) - mx (sqx z n) (sqx y n)) (mn (sqy z n + sqw z n) (sqy y n + sqw y n) - mx (sqy z n) (sqy y n)))=V.int 0))=true:=c;simpa using c'
theorem EM {q r:Sq}{t:Tr}{n:Nat}(oq:ni q [] t 0 0 n)(or:ni r [] t 0 0 n):com (sqx (txt q.z) n) (sqy (txt q.z) n) (sqw (txt q.z) n) (sqx (txt r.z) n) (sqy (txt r.z) n) (sqw (txt r.z) n)=gY q r:=by
 obtain⟨_,_,a1,a2,a3⟩:=de oq;obtain⟨_,_,b1,b2,b3⟩:=de or;unfold sqx sqy sqw gY;rw[a1,a2,a3,b1,b2,b3]
abbrev zN:Stmt:=top 45
theorem ij:az ["sheet","x","y","first","around","sides","code","other","near"] ["sheet","x","y"] (aj zN):={}
def rj (Y:Yx K mg):Sp:=fun vs H Q E=>(∃ (ps:Addr) (n x y:Nat) (v:V) (t:Tr) (q0:Sq),vs=[.ref ps,.int (x:Int),.int (y:Int)]∧H ps=some (.tup [.int (n:Int),v])∧bu H v t∧aP n t∧n≤40∧cnt t≤1500∧q0∈sqs [] t 0 0 n∧(q0.x≤x∧x < q0.x + q0.w∧q0.y≤y∧y < q0.y + q0.w) ∧
 ∀ A zs H',bF (sqs [] t 0 0 n) A zs→am H H'→Q (.int (tH (ci (sqs [] t 0 0 n) A q0.z))) H')∨jC Y vs H E
theorem Eb (T:Tx K mg)(Y:Yx K mg)(q:br (CXe P w))(F:aT K "rim" "rim" zN f fd .none)(C_width_of:Fok P w K mg base (CXe P w) 1 "width_of" ["level"] [] fU)(C_common:Fok P w K mg base (CXe P w) 5 "common" ["code","other","level"] [] qx)(C_leaf_at:Fok P w K mg base (CXe P w) 5 "leaf_at" ["sheet","x","y"] [] (dU Y))(C_alike_around:Fok P w K mg base (CXe P w) 45 "alike_around" ["sheet"] [] cg)(C_members_from:Fok P w K mg base (CXe P w) 1 "members_from" ["around","first"] [] cf):
  bd P w K mg base (CXe P w) 46 f fd ["sheet","x","y"] (rj Y):=by
 refine F.okX ij (fun vs H Q E h =>?_) (fun cdv A outer s H vs Q E hr h =>?_)
 ·rcases h with h|h
  ·obtain⟨_,_,_,_,_,_,_,rfl,_⟩:=h;rfl
  ·obtain⟨_,_,_,_,_,rfl,_⟩:=h;rfl
 refine⟨_,(ac (aq (i:=3) ij (bI C_leaf_at hr fX (aa (pv 0) (aa (pv 1) (aa (pv 2) af))))) (ac (aq (i:=4) ij (ai C_alike_around q hr (aa (pv 0) af))) (ac (aq (i:=5) ij ae) (ac (bg Hx rfl (cO (ai C_members_from q hr (aa (pv 4) (aa (pv 3) af)))) (j8 rfl (bw (bj (i:=6) ij) (bw (bj (i:=7) ij) iw))) (ac (aq (i:=5) ij (ak aK (pv 5) (ak bG ae (ai C_width_of q hr (aa (ak gB (aB aF (pv 0) ae) (aw bX rfl T.b_len dM (aa (pv 6) af))) af))))) (ag (bg Hx rfl (cO (dQ hr.dic (pv 4) (pv 6) (fun _ _=>rfl))) (bj (i:=8) ij) (ag (aq (i:=5) ij (ak gB (pv 5) (ai C_common q hr (aa (pv 6) (aa (pv 8) (aa (aB aF (pv 0) ae) af))))))))))) (ag (av (pv 5))))))),?_⟩;rcases h with h | ⟨vs,x,y,n,t,rfl,hsh,hn,bp,e'⟩
 rotate_left
 ·exact (Or.inr ⟨vs,x,y,n,t,rfl,hsh,hn,bp,e'⟩)
 obtain⟨ps,n,x,y,v,t,q0,rfl,hps,ht,gt,hn,hc,hq0,ins,q'⟩:=h;obtain⟨L,eL⟩:∃ L,L=sqs [] t 0 0 n:=⟨_,rfl⟩;have hBf:L.Pairwise dP:=by rw[eL];exact cM t [] 0 0 n gt
 have hwL:∀ q∈L,0 < q.w:=fun q1 h1=>(dk t [] 0 0 n gt q1 (by rw[← eL];exact h1)).2.2.2.2;have lL:L.length=cnt t:=by rw[eL];exact b_ t [] 0 0 n
 have okL:∀ q∈L,ni q [] t 0 0 n:=fun q1 h1=>eE t [] 0 0 n gt q1 (by rw[← eL];exact h1);obtain⟨_,f2,_,f4,_⟩:=dk t [] 0 0 n gt q0 hq0;have xn:x < 2 ^ n:=by lia
 have yn:y < 2 ^ n:=by lia
 refine (Or.inl ⟨.ref ps,t,n,x,y,rfl,⟨ps,v,rfl,hps,ht⟩,gt,hn,xn,yn,fun i cc H1 s1 hi hnd1 =>?_⟩);rw[nI gt xn yn eL (by rw[eL];exact hq0) ins hi hnd1];rw[← eL]at q' hq0;have hz:q0.z∈L.map (·.z):=GC.mpr ⟨q0,hq0,rfl⟩;refine⟨ps,n,v,t,rfl,s1 _ _ hps,ht.up s1.tups,gt,hn,hc,fun da lo A H2 s2 hda ar hAl hN hA =>?_⟩;rw[← eL]at ar hN;have Cx:bF L A (L.map (·.z)):=⟨rfl,hBf,by rw[Gy];lia,hN⟩;refine⟨da,q0.z,L.map (·.z),lo,A,rfl,ar,hz,by rw[Gy];lia,Cx.cl,hAl,fun lm um k H3 s3 hlm um3 hM hk =>?_⟩;have bi:=BI.bfs Cx.cl hz k;have bl:=bi.len;rw[Gy]at bl;have em:=rT hk (by lia);rw[← em]at hM bl hk bi
 clear em
 have lum:=Paired.length hM;have s13:=s1.trans (s2.trans s3);have hcol:∀ q∈ci L A q0.z,q.c=q0.c:=by
  have hl0:=(v6 gt (q0:=q0) (by rw[← eL];exact Cx) (by rw[← eL];exact hq0)).1;rw[← eL]at hl0;exact hl0.colour
 obtain⟨R,eR⟩:∃ R,R=jq A q0.z:=⟨_,rfl⟩;have sqm:∀ {z:List Nat},z∈L.map (·.z)→cC L z∈L∧(cC L z).z=z:=fun {z} h=>by
  obtain⟨r,hr',er⟩:=GC.mp h;rw[← er,jx hBf hr'];exact⟨hr',rfl⟩
 have fin:tH (ci L A q0.z)=(R.map fun m=>4 * ((cC L m.1).w:Int) - ((A m.1).map fun y=>gY (cC L m.1) (cC L y)).sum).sum:=by
  unfold tH;rw[show (ci L A q0.z).map (fun q=>4 * (q.w:Int) - ((ci L A q0.z).map (gY q)).sum)=R.map fun m=>4 * ((cC L m.1).w:Int) - ((ci L A q0.z).map (gY (cC L m.1))).sum by
   rw[eR]
   conv=>lhs;arg 2;unfold ci
   rw[Hj];rfl]
  refine Hn List.sum (Hc fun m hm =>?_);rw[AO hBf hwL Cx hA hq0 hcol (by rw[← eR];exact hm)]
 rw[← eR]at hM bl hk bi lum;refine⟨lm,rfl,⟨_,SqL.of um3⟩,cI (xs:=um) (fun (i:Nat) σ H4=>i≤um.length∧am H3 H4∧∃ o6 o7 o8:Option V,σ=[some (.ref ps),some (.int (x:Int)),some (.int (y:Int)),some (sV q0.z),some (.ref da),some (.int (((R.take i).map fun m=>4 * ((cC L m.1).w:Int) - ((A m.1).map fun y=>gY (cC L m.1) (cC L y)).sum).sum)),o6,o7,o8]) ⟨GF _,am.refl _,_,_,_,rfl⟩ (fun i σ H4 _ h=>SqL.of (h.2.1 _ _ um3)) ?_ ?_⟩
 ·rintro i u σ H4 hu ⟨_,s4,o6,o7,o8,rfl⟩;have hi':=(Gz.mp hu).1;obtain⟨mm,emm,pm,rfl,hpm⟩:=di hM hu;have hmz:=bi.sub mm (GW emm);obtain⟨hqL,eqz⟩:=sqm hmz;obtain⟨q1,eq1⟩:∃ q1,q1=cC L mm.1:=⟨_,rfl⟩;rw[← eq1]at hqL eqz;have ok1:=okL q1 hqL;obtain⟨ic,il,cx,cy,cw⟩:=de ok1;have ezt:sV mm.1=sV q1.z:=by rw[eqz]
  have s04:=s13.trans s4;refine⟨pm,_,rfl,SqT.of (s4 _ _ hpm),rfl,_,_,rfl,_,_,rfl,rfl,?_⟩;have ll:(txt mm.1).length≤n:=by rw[← eqz];exact il
  have hs:(txt mm.1).length≤sizeLine:=small (by lia);have e0:(n:Int) - ((txt mm.1).length:Int)=((n - (txt mm.1).length:Nat):Int):=by lia
  have ew:2 ^ (n - (txt mm.1).length)=q1.w:=by rw[← eqz];exact cw
  refine⟨ps,_,_,_,rfl,rfl,SqT.of (s04 _ _ hps),rfl,_,_,rfl,⟨hs,rfl⟩,n - (txt mm.1).length,(by show [V.int _]=[V.int _];rw[e0]),by lia,.inl ⟨by decide,by decide⟩,cq ?_⟩;rw[ew];have ar4:=ar.up (s3.trans s4);have et:((R.take (i + 1)).map fun m=>4 * ((cC L m.1).w:Int) - ((A m.1).map fun y=>gY (cC L m.1) (cC L y)).sum).sum=((R.take i).map fun m=>4 * ((cC L m.1).w:Int) - ((A m.1).map fun y=>gY (cC L m.1) (cC L y)).sum).sum + (4 * (q1.w:Int) - ((A mm.1).map fun y=>gY q1 (cC L y)).sum):=by
   rw[G_,emm,G7,Ju,eq1];simp
  rw[et];generalize ((R.take i).map fun m=>4 * ((cC L m.1).w:Int) - ((A m.1).map fun y=>gY (cC L m.1) (cC L y)).sum).sum=S0 at *;refine⟨da,_,rfl,ar4.get hmz,lo mm.1,rfl,⟨_,SqL.of (ar4.at_ _ hmz)⟩,cI (xs:=(A mm.1).map sV) (fun (j:Nat) σ H5=>j≤(A mm.1).length∧am H4 H5∧∃ o8:Option V,σ=[some (.ref ps),some (.int (x:Int)),some (.int (y:Int)),some (sV q0.z),some (.ref da),some (.int (S0 + 4 * (q1.w:Int) - (((A mm.1).take j).map fun y=>gY q1 (cC L y)).sum)),some (sV mm.1),some (yE mm.2),o8]) ⟨GF _,am.refl _,o8,by simp⟩ (fun i σ H5 _ h=>SqL.of (h.2.1 _ _ (ar4.at_ _ hmz))) ?_ ?_⟩
  ·rintro j u σ H5 hx ⟨_,s5,o8,rfl⟩;rw[Ha]at hx;obtain⟨o,eo,rfl⟩:=He.mp hx;have hj:=(Gz.mp eo).1;have hoz:=Cx.cl _ hmz o (GW eo);obtain⟨hrL,erz⟩:=sqm hoz;have ok2:=okL _ hrL;obtain⟨jc,jl,_⟩:=de ok2;rw[erz]at jc jl;have ec:=EM ok1 ok2;rw[eqz,erz]at ec;refine⟨ps,_,_,_,rfl,rfl,SqT.of (s04.trans s5 _ _ hps),rfl,txt mm.1,txt o,n,rfl,by rw[← eqz];exact ic,jc,ll,jl,hn,fun H6 s6=>⟨hj,s5.trans s6,some (sV o),?_⟩⟩;rw[G_,eo,G7,Ju,ec];simp only[Option.toList_some,GX,Jz,Ia,List.sum_nil,Int.add_zero,Int.sub_sub];rfl
  ·rintro σ H5 ⟨_,s5,o8,rfl⟩;rw[GV (by rw[Gy];exact GB _)];refine⟨hi',s4.trans s5,some (sV mm.1),some (yE mm.2),o8,?_⟩;rw[Int.add_sub_assoc]
 ·rintro σ H4 ⟨_,s4,o6,o7,o8,rfl⟩;rw[GV (by lia),← fin];exact (q' A (L.map (·.z)) H4 Cx (s13.trans s4))
end
section
variable {P:Program}{w:World}{K:PySem.W.Frag}{mg:Str→Option Value}{base:Heap}{CX:CXT}{f:Addr}{fd:FuncData}
abbrev on:Stmt:=top 57
theorem yi:az ["_law_script","_law_k"] ["_law_script","_law_k"] (aj on):={}
inductive pX  (K:PySem.W.Frag)(vs:List V)(H:Hp)(Q:VK):Prop
 | mk (a:Addr) (ns:List Int) (k:Nat) (h_0:vs=[.ref a,.int k]) (h_1:SqL K H a (ns.map V.int)) (h_2:ns.length≤63) (h_3:Q (.int (cell ns k)) H):pX K vs H Q
def jA  (K:PySem.W.Frag):Sp:=fun vs H Q _=>pX K vs H Q
theorem yI (T:Tx K mg)(F:aT K "_law_at" "_law_at" on f fd .none):bd P w K mg base CX 1 f fd ["_law_script","_law_k"] (jA K):=by
 refine F.ok yi (fun vs H Q E h =>?_) (fun cdv A outer s H vs Q E hr h =>?_)
 ·obtain⟨_,_,_,rfl,_⟩:=h;rfl
 obtain⟨a,ns,k,rfl,hS,hl,q'⟩:=h;refine⟨_,(ac (aR (aG qA (pv 1) (aw bX rfl T.b_len dM (aa (pv 0) af))) (ag (av (aB bc (pv 0) (pv 1)))) aE) (ag (av ae))),?_⟩;refine⟨_,_,rfl,.inl ⟨_,hS,rfl⟩,cq (ap (bU (fun c =>?_) (fun c =>?_)))⟩
 ·have c':(k:Int) < (((ns.map V.int).length:Nat):Int):=G6 c;rw[Gy]at c';have hk:k < ns.length:=by lia
  have e:(ns.map V.int)[k]? = some (.int (cell ns k)):=by simp[cell,hk]
  exact⟨a,_,_,_,rfl,rfl,hS,dB e,q'⟩
 ·have c':¬ (k:Int) < (((ns.map V.int).length:Nat):Int):=fun z=>c (GH z);rw[Gy]at c';have e:cell ns k=0:=by
   have:ns[k]? = none:=List.getElem?_eq_none (by lia)
   simp[cell,this]
  rw[e]at q';exact q'
abbrev lI:Stmt:=top 58
theorem jW:az ["_law_cell","_law_k","_law_value"] ["_law_cell","_law_k"] (aj lI):={}
inductive mQ  (vs:List V)(H:Hp)(Q:VK):Prop
 | mk (c:Int) (k:Nat) (h_0:vs=[.int c,.int k]) (h_1:k≤100000) (h_2:∀ m:Nat,m < 2305843009213693951→Q (.int (m:Int)) H):mQ  vs H Q
def fv:Sp:=fun vs H Q _=>mQ  vs H Q
theorem vV (T:Tx K mg)(F:aT K "_law_mix" "_law_mix" lI f fd .none):bd P w K mg base CX 1 f fd ["_law_cell","_law_k"] fv:=by
 refine F.ok jW (fun vs H Q E h =>?_) (fun cdv A outer s H vs Q E hr h =>?_)
 ·obtain⟨_,_,rfl,_⟩:=h;rfl
 obtain⟨c,k,rfl,hk,q'⟩:=h;refine⟨_,(ac (aq (i:=2) jW (ak aK (ak aK (ak aM (pv 0) ae) (ak bG ae (pv 1))) ae)) (ac (aq (i:=2) jW (ak aM (ak bG (pv 2) (ak aK ae (ak bG ae (pv 1)))) ae)) (ag (av (ak aM (ak bG (ak aK (ak a_ (pv 2) ae) (ak bG (pv 2) ae)) ae) ae))))),?_⟩;have pP:(0:Int) < 2305843009213693951:=by decide
 refine⟨pP,.inl ⟨by decide,by decide⟩,cq (cq ?_)⟩;dsimp only;obtain⟨v,hv,ev⟩:∃ v:Int,(0≤v∧v < 2305843009213693951 + 211 * 100000 + 13)∧c % 2305843009213693951 + 211 * (k:Int) + 13=v:=⟨_,by lia,rfl⟩;rw[ev];refine⟨.inl ⟨by decide,by decide⟩,.inl ⟨by lia,by lia⟩,pP,?_⟩;dsimp only;obtain⟨x,hx,ex⟩:∃ x:Int,(0≤x∧x < 2305843009213693951)∧v * (746413622384679307 + 2 * (k:Int)) % 2305843009213693951=x:=⟨_,⟨IG _ (by decide),IW _ (by decide)⟩,rfl⟩;rw[ex];refine⟨cK (by decide) (by decide),.inr ⟨by decide,by decide⟩,.inr ⟨by decide,by decide⟩,pP,?_⟩;dsimp only;obtain⟨m,hm,em⟩:∃ m:Nat,m < 2305843009213693951∧(x / 268435456 + x * 5) * 1302034522624059749 % 2305843009213693951=(m:Int):=by
  have h1:=IG ((x / 268435456 + x * 5) * 1302034522624059749) (show (2305843009213693951:Int)≠0 by decide);have h2:=IW ((x / 268435456 + x * 5) * 1302034522624059749) pP;generalize (x / 268435456 + x * 5) * 1302034522624059749 % 2305843009213693951=y at *;exact⟨y.toNat,by lia,by lia⟩
 rw[em];exact q' m hm
abbrev fG:Stmt:=top 59
theorem mR:az ["_law_cell"] ["_law_cell"] (aj fG):={}
inductive hZ  (vs:List V)(H:Hp)(Q:VK):Prop
 | mk (c:Int) (h_0:vs=[.int c]) (h_1:∀ n:Nat,n≤40→Q (.int (n:Int)) H):hZ  vs H Q
def iL:Sp:=fun vs H Q _=>hZ  vs H Q
theorem mW (T:Tx K mg)(F:aT K "_law_level_by" "_law_level_by" fG f fd .none):bd P w K mg base CX 1 f fd ["_law_cell"] iL:=by
 refine F.ok mR (fun vs H Q E h =>?_) (fun cdv A outer s H vs Q E hr h =>?_)
 ·obtain⟨_,rfl,_⟩:=h;rfl
 obtain⟨c,rfl,q'⟩:=h;refine⟨_,(ac (aR (aG dE (ak aM (pv 0) ae) ae) (ag (av (ak aK ae (ak aM (ak a_ (pv 0) ae) ae)))) aE) (ag (av (ak aM (ak a_ (pv 0) ae) ae)))),?_⟩;refine⟨(by show (0:Int) < 6;decide),rfl,ap (bU (fun _ =>?_) (fun _ =>?_))⟩
 ·refine⟨cK (by decide) (by decide),(by show (0:Int) < 36;decide),cq ?_⟩;obtain⟨n,hn,en⟩:∃ n:Nat,n≤40∧5 + c / 6 % 36=(n:Int):=⟨(5 + c / 6 % 36).toNat,by lia,by lia⟩;dsimp only;rw[en];exact q' n hn
 ·refine⟨cK (by decide) (by decide),(by show (0:Int) < 5;decide),?_⟩;obtain⟨n,hn,en⟩:∃ n:Nat,n≤40∧c / 6 % 5=(n:Int):=⟨(c / 6 % 5).toNat,by lia,by lia⟩;dsimp only;rw[en];exact q' n hn
abbrev gr:Stmt:=top 60
theorem bv:az ["_law_cell","_law_k","_law_most","_law_signs","_law_value","_law_code","_law_j"] ["_law_cell","_law_k","_law_most"] (aj gr):={}
inductive iW  (vs:List V)(H:Hp)(Q:VK):Prop
 | mk (c:Int) (k n:Nat) (h_0:vs=[.int c,.int k,.int n]) (h_1:k≤90000) (h_2:n≤40) (h_3:∀ z,IsC z→z.length≤n→Q (.str z) H):iW  vs H Q
def i_:Sp:=fun vs H Q _=>iW  vs H Q
theorem oP (T:Tx K mg)(q:br CX)(F:aT K "_law_code_by" "_law_code_by" gr f fd .none)(C__law_mix:Fok P w K mg base CX 1 "_law_mix" ["_law_cell","_law_k"] [] fv):bd P w K mg base CX 2 f fd ["_law_cell","_law_k","_law_most"] i_:=by
 refine F.ok bv (fun vs H Q E h =>?_) (fun cdv A outer s H vs Q E hr h =>?_)
 ·obtain⟨_,_,_,rfl,_⟩:=h;rfl
 obtain⟨c,k,n,rfl,hk,hn,q'⟩:=h;refine⟨_,(ac (aq (i:=3) bv (ak aM (ai C__law_mix q hr (aa (pv 0) (aa (pv 1) af))) (ak aK (pv 2) ae))) (ac (aR (aG oJ (ak aM (ai C__law_mix q hr (aa (pv 0) (aa (ak aK (pv 1) ae) af))) ae) ae) (ag (aq (i:=3) bv (pv 2))) aE) (ac (aq (i:=4) bv (ak aK (ak bG (ai C__law_mix q hr (aa (pv 0) (aa (ak aK (pv 1) ae) af))) ae) (ai C__law_mix q hr (aa (pv 0) (aa (ak aK (pv 1) ae) af))))) (ac (aq (i:=5) bv cm) (ac (bg Hd rfl (bT rfl T.b_range (aa (pv 3) af)) (bj (i:=6) bv) (ac (aq (i:=5) bv (ak cG (pv 5) (aB js cm (ak aM (pv 4) ae)))) (ag (aR (PW.pt (oA (aG qA (pv 6) ae) (lS (aG dE (ak aM (ai C__law_mix q hr (aa (pv 0) (aa (ak aK (pv 1) ae) af))) ae) ae)))) (ag (aq (i:=4) bv (ak a_ (pv 4) ae))) aE)))) (ag (av (pv 5)))))))),?_⟩;refine⟨c,k,rfl,by lia,fun m hm=>⟨(by show (0:Int) < (n:Int) + 1;simp),?_⟩⟩;obtain⟨s1,hs1,es1⟩:∃ s1:Nat,s1≤n∧(m:Int) % ((n:Int) + 1)=(s1:Int):=by
  have h1:=IG (m:Int) (show (n:Int) + 1≠0 by lia);have h2:=IW (m:Int) (show (0:Int) < (n:Int) + 1 by simp);exact⟨((m:Int) % ((n:Int) + 1)).toNat,by lia,by rfl⟩
 dsimp only;rw[es1];refine⟨c,k + 1,rfl,by lia,fun m2 hm2=>⟨(by show (0:Int) < 3;decide),cq (ap ?_)⟩⟩;refine bU (fun _ =>?_) (fun _ =>?_)
 ·obtain⟨sg,hsg⟩:∃ sg:Nat,sg=n:=⟨n,rfl⟩;subst hsg;refine ?_;refine⟨c,k + 2,rfl,by lia,fun m3 hm3=>⟨.inr ⟨by decide,by decide⟩,c,k + 3,rfl,by lia,fun m4 hm4 =>?_⟩⟩;refine⟨_,rfl,by simp,by lia,bV (fun j σ H2=>H2=H∧∃ (z:Str) (val:Int) (o6:Option V),IsC z∧z.length=j∧σ=[some (.int c),some (.int k),some (.int (sg:Int)),some (.int (sg:Int)),some (.int val),some (.str z),o6]) ⟨rfl,_,_,none,gX▸IsC.nil,by decide +kernel,rfl⟩ ?_ ?_⟩
  ·rintro j σ H2 hj ⟨rfl,z,val,o6,hz,lz,rfl⟩;have hj':j < sg:=by assumption
   obtain⟨d,hd,ed⟩:=xC val;have nz:IsC (z++one d):=IsC.app hz (IsC.one hd);have nl:(z++one d).length=j + 1:=by rw[iF,lz];rfl
   refine⟨(by show (0:Int) < 4;decide),_,_,48 + d,rfl,rfl,z_,by rw[ed];exact ER hd,_,_,rfl,rfl,?_,?_⟩
   ·rw[lz];show j + 1≤sizeLine;exact small (by lia)
   refine bU (fun _=>fR ?_) (fun _ =>?_)
   ·exact⟨cK (by decide) (by decide),rfl,z++one d,_,_,nz,nl,rfl⟩
   ·refine⟨c,k + 4,rfl,by lia,fun m5 _=>⟨(by show (0:Int) < 2;decide),rfl,ap (bU (fun _ =>?_) (fun _ =>?_))⟩⟩
    ·exact⟨cK (by decide) (by decide),rfl,z++one d,_,_,nz,nl,rfl⟩
    ·exact⟨rfl,z++one d,_,_,nz,nl,rfl⟩
  ·rintro σ H2 ⟨rfl,z,val,o6,hz,lz,rfl⟩;exact (q' z hz (by lia))
 ·obtain⟨sg,hsg⟩:∃ sg:Nat,sg=s1:=⟨s1,rfl⟩;subst hsg;refine⟨c,k + 2,rfl,by lia,fun m3 hm3=>⟨.inr ⟨by decide,by decide⟩,c,k + 3,rfl,by lia,fun m4 hm4 =>?_⟩⟩;refine⟨_,rfl,by simp,by lia,bV (fun j σ H2=>H2=H∧∃ (z:Str) (val:Int) (o6:Option V),IsC z∧z.length=j∧σ=[some (.int c),some (.int k),some (.int n),some (.int (sg:Int)),some (.int val),some (.str z),o6]) ⟨rfl,_,_,none,gX▸IsC.nil,by decide +kernel,rfl⟩ ?_ ?_⟩
  ·rintro j σ H2 hj ⟨rfl,z,val,o6,hz,lz,rfl⟩;have hj':j < sg:=by assumption
   obtain⟨d,hd,ed⟩:=xC val;have nz:IsC (z++one d):=IsC.app hz (IsC.one hd);have nl:(z++one d).length=j + 1:=by rw[iF,lz];rfl
   refine⟨(by show (0:Int) < 4;decide),_,_,48 + d,rfl,rfl,z_,by rw[ed];exact ER hd,_,_,rfl,rfl,?_,?_⟩
   ·rw[lz];show j + 1≤sizeLine;exact small (by lia)
   refine bU (fun _=>fR ?_) (fun _ =>?_)
   ·exact⟨cK (by decide) (by decide),rfl,z++one d,_,_,nz,nl,rfl⟩
   ·refine⟨c,k + 4,rfl,by lia,fun m5 _=>⟨(by show (0:Int) < 2;decide),rfl,ap (bU (fun _ =>?_) (fun _ =>?_))⟩⟩
    ·exact⟨cK (by decide) (by decide),rfl,z++one d,_,_,nz,nl,rfl⟩
    ·exact⟨rfl,z++one d,_,_,nz,nl,rfl⟩
  ·rintro σ H2 ⟨rfl,z,val,o6,hz,lz,rfl⟩;exact (q' z hz (by lia))
abbrev eI:Stmt:=top 61
theorem gO:az ["_law_script","_law_cell","_law_k","_law_value"] ["_law_script","_law_cell","_law_k"] (aj eI):={}
inductive gf  (K:PySem.W.Frag)(vs:List V)(H:Hp)(Q:VK):Prop
 | mk (a:Addr) (ns:List Int) (c:Int) (k:Nat) (h_0:vs=[.ref a,.int c,.int k]) (h_1:SqL K H a (ns.map V.int)) (h_2:ns.length≤63) (h_3:k≤90000) (h_4:∀ i:Int,0≤i→i≤35→Q (.int i) H):gf K vs H Q
def gL  (K:PySem.W.Frag):Sp:=fun vs H Q _=>gf K vs H Q
theorem lW (T:Tx K mg)(q:br CX)(F:aT K "_law_colour_by" "_law_colour_by" eI f fd .none)(C__law_mix:Fok P w K mg base CX 1 "_law_mix" ["_law_cell","_law_k"] [] fv)(C__law_at:Fok P w K mg base CX 1 "_law_at" ["_law_script","_law_k"] [] (jA K)):bd P w K mg base CX 2 f fd ["_law_script","_law_cell","_law_k"] (gL K):=by
 refine F.ok gO (fun vs H Q E h =>?_) (fun cdv A outer s H vs Q E hr h =>?_)
 ·obtain⟨_,_,_,_,rfl,_⟩:=h;rfl
 obtain⟨a,ns,c,k,rfl,hS,h63,hk,q'⟩:=h;refine⟨_,(ac (aq (i:=3) gO (ai C__law_mix q hr (aa (pv 1) (aa (pv 2) af)))) (ac (aR (aG dE (ak aM (pv 3) ae) ae) (ag (av (ak aM (ak a_ (pv 3) ae) ae))) aE) (ag (av (ak aM (ak aK (ak a_ (ai C__law_at q hr (aa (pv 0) (aa ae af))) ae) (ak bG (ak aM (ak a_ (pv 3) ae) ae) (ak aK ae (ak bG (ak aM (ai C__law_at q hr (aa (pv 0) (aa ae af))) ae) ae)))) ae))))),?_⟩;refine⟨c,k,rfl,by lia,fun m hm =>?_⟩;refine⟨(by show (0:Int) < 8;decide),rfl,ap (bU (fun _ =>?_) (fun _ =>?_))⟩
 ·refine⟨cK (by decide) (by decide),(by show (0:Int) < 36;decide),q' _ ?_ ?_⟩
  ·show 0≤(m:Int) / 8 % 36;lia
  ·show (m:Int) / 8 % 36≤35;lia
 ·refine⟨a,ns,1,rfl,hS,h63,cK (by decide) (by decide),?_⟩;refine⟨cK (by decide) (by decide),(by show (0:Int) < 3;decide),?_⟩;refine⟨a,ns,1,rfl,hS,h63,(by show (0:Int) < 2;decide),.inr ⟨by decide,by decide⟩,.inl ⟨?_,?_⟩,(by show (0:Int) < 36;decide),q' _ ?_ ?_⟩
  ·show -(2 ^ 64) < (m:Int) / 8 % 3;lia
  ·show (m:Int) / 8 % 3 < 2 ^ 64;omega
  ·exact IG _ (by decide)
  ·have:=IW (cell ns 1 / 2 + (m:Int) / 8 % 3 * (1 + cell ns 1 % 2 * 11)) (show (0:Int) < 36 by decide)
   show (cell ns 1 / 2 + (m:Int) / 8 % 3 * (1 + cell ns 1 % 2 * 11)) % 36≤35;omega
abbrev jZ:Stmt:=top 62
theorem tE:az ["_law_tree"] ["_law_tree"] (aj jZ):={}
inductive lf  (vs:List V)(H:Hp)(Q:VK):Prop
 | mk (v:V) (t:Tr) (h_0:vs=[v]) (h_1:bu H v t) (h_2:∀ l a b c d H',am H H'→H l=none→H' l=some (.lst [a,b,c,d])→bu H' a (q0 t)→bu H' b (q1 t)→bu H' c (q2 t)→bu H' d (q3 t)→Q (.ref l) H'):lf  vs H Q
def my:Sp:=fun vs H Q _=>lf  vs H Q
theorem tY (T:Tx K mg)(F:aT K "_law_four" "_law_four" jZ f fd .none):bd P w K mg base CX 1 f fd ["_law_tree"] my:=by
 refine F.ok tE (fun vs H Q E h =>?_) (fun cdv A outer s H vs Q E hr h =>?_)
 ·obtain⟨_,_,rfl,_⟩:=h;rfl
 obtain⟨v,t,rfl,ht,q'⟩:=h;refine⟨_,(ac (aR (bS (aw (bq "tuple") rfl T.b_isinstance au (aa (pv 0) (aa (cQ T.b_tuple eA) af)))) (ag (av (bA sJ rfl T.b_list sK (aa (pv 0) af)))) aE) (ag (av (bh (ay (pv 0) (ay (pv 0) (ay (pv 0) (ay (pv 0) aA)))))))),?_⟩
 cases ht with
 | four e a b c d =>
  refine⟨_,_,_,rfl,.tup e,kg,ap (fR ⟨_,_,rfl,.inr (SqT.of e),fun l hl =>?_⟩)⟩;have t2:=fun zs=>(am.new hl (.lst zs)).tups;exact q' l _ _ _ _ _ (am.new hl _) hl ah (a.up (t2 _)) (b.up (t2 _)) (c.up (t2 _)) (d.up (t2 _))
 | col i =>
  refine⟨_,_,_,rfl,.int i,kh,ap (cH ?_)⟩;exact⟨(leZ rfl),fun l hl=>q' l _ _ _ _ _ (am.new hl _) hl ah (.col i) (.col i) (.col i) (.col i)⟩
end
theorem EB {d:Nat}(h:d < 4):Txt.find ("0123" : Str) (one d)=(d:Int) :=
 four (P:=fun d=>Txt.find ("0123" : Str) (one d)=(d:Int)) (by decide +kernel) (by decide +kernel) (by decide +kernel) (by decide +kernel) h
theorem wR {a b c d:Tr}(ha:a.deep≤60)(hb:b.deep≤60)(hc:c.deep≤60)(hd:d.deep≤60):SeqAt.shaped (.list [a.data,b.data,c.data,d.data])=true:=by
 have e1:(PyData.list [a.data,b.data,c.data,d.data]).canLay0=true:=by
  show (a.data.canLay0 && (b.data.canLay0 && (c.data.canLay0 && (d.data.canLay0 && true))))=true;rw[Tr.lay a,Tr.lay b,Tr.lay c,Tr.lay d];rfl
 have e2:(PyData.list [a.data,b.data,c.data,d.data]).depth≤64:=by
  show max a.data.depth (max b.data.depth (max c.data.depth (max d.data.depth 0))) + 1≤64;rw[Tr.depth a,Tr.depth b,Tr.depth c,Tr.depth d];lia
 unfold SeqAt.shaped;rw[e1,GH e2];rfl
theorem FP (a b c d a' b' c' d':Tr):PyData.eqv (.list [a.data,b.data,c.data,d.data]) (.list [a'.data,b'.data,c'.data,d'.data])=decide (a=a'∧b=b'∧c=c'∧d=d'):=by
 show (PyData.eqv a.data a'.data && (PyData.eqv b.data b'.data && (PyData.eqv c.data c'.data && (PyData.eqv d.data d'.data && true))))=_;rw[Tr.eqv a a',Tr.eqv b b',Tr.eqv c c',Tr.eqv d d'];by_cases h1:a=a'<;>by_cases h2:b=b'<;>by_cases h3:c=c'<;>by_cases h4:d=d'<;>simp[h1,h2,h3,h4]
section
variable {P:Program}{w:World}{K:PySem.W.Frag}{mg:Str→Option Value}{base:Heap}{CX:CXT}{f:Addr}{fd:FuncData}
abbrev gp:Stmt:=top 63
theorem bQ:az ["_law_tree","_law_code","_law_colour","_law_four_here","_law_at_here"] ["_law_tree","_law_code","_law_colour"] (aj gp):={}
inductive iV  (m:Nat)(vs:List V)(H:Hp)(Q:VK):Prop
 | mk (v:V) (i:Int) (t:Tr) (z:Str) (h_0:vs=[v,.str z,.int i]) (h_1:bu H v t) (h_2:IsC z) (h_3:z.length≤m) (h_4:m≤40) (h_5:t.deep≤60) (h_6:∀ v' H',am H H'→bu H' v' (jm t (dig z) (.col i))→Q v' H'):iV m vs H Q
def ft  (m:Nat):Sp:=fun vs H Q _=>iV m vs H Q
theorem jo (T:Tx K mg)(q:br CX)(F:aT K "_law_painted" "_law_painted" gp f fd .none)(C__law_four:Fok P w K mg base CX 1 "_law_four" ["_law_tree"] [] my)(b:cL K fd ["_law_tree","_law_code","_law_colour"] [])(m:mg "_law_painted" = some (.ref f)):
  ∀ n,bd P w K mg base CX (2 + n) f fd ["_law_tree","_law_code","_law_colour"] (ft n)
 | 0=>by
  have C__law_painted:=Go (P:=P) (w:=w) (base:=base) (CX:=CX) F b m;refine F.ok bQ (fun vs H Q E h =>?_) (fun cdv A outer s H vs Q E hr h =>?_)
  ·obtain⟨_,_,_,_,rfl,_⟩:=h;rfl
  obtain⟨v,i,t,z,rfl,ht,hz,hl,hm,dt,q'⟩:=h;refine⟨_,(ac (aR (aG dE (pv 1) cm) (ag (av (pv 2))) aE) (ac (aq (i:=3) bQ (ai C__law_four q hr (aa (pv 0) af) (hj:=by first|decide|lia|(simp only[Jq];lia)))) (ac (aq (i:=4) bQ (kF PySem.F.plainAttrs_str PySem.F.slot_str_find PySem.F.type_str_find xk cm (aa (aB js (pv 1) ae) af))) (ac (vL (ai C__law_painted q hr (aa (aB bc (pv 3) (pv 4)) (aa (fK jV (pv 1) (ir ae) iu) (aa (pv 2) af))) (hj:=by first|decide|lia|(simp only[Jq];lia))) (Ai (pv 3) (pv 4) tz)) (ac (aR (PW.pt (Aa (ck (bS (aw (bq "tuple") rfl T.b_isinstance au (aa (aB bc (pv 3) ae) (aa (cQ T.b_tuple eA) af))))) (wX (aG (vQ hr) (pv 3) (ak Ax (bh (ay (aB bc (pv 3) ae) aA)) ae))))) (ag (av (aB bc (pv 3) ae))) aE) (ag (av (aL (ay (aB bc (pv 3) ae) (ay (aB bc (pv 3) ae) (ay (aB bc (pv 3) ae) (ay (aB bc (pv 3) ae) aA)))))))))))),?_⟩
  have e:=n6.mpr (Nat.le_zero.mp hl);subst e;rw[qS]at q';refine⟨rfl,ap (bU (fun c =>?_) (fun c=>absurd (by simp) c))⟩;exact (q' (.int i) H (am.refl H) (.col i))
 | n + 1=>by
  have C__law_painted:Fok P w K mg base CX (2 + n) "_law_painted" ["_law_tree","_law_code","_law_colour"] [] (ft n):=fok F (jo T q F C__law_four b m n) b m
  refine F.ok bQ (fun vs H Q E h =>?_) (fun cdv A outer s H vs Q E hr h =>?_)
  ·obtain⟨_,_,_,_,rfl,_⟩:=h;rfl
  obtain⟨v,i,t,z,rfl,ht,hz,hl,hm,dt,q'⟩:=h;refine⟨_,(ac (aR (aG dE (pv 1) cm) (ag (av (pv 2))) aE) (ac (aq (i:=3) bQ (ai C__law_four q hr (aa (pv 0) af) (hj:=by first|decide|lia|(simp only[Jq];lia)))) (ac (aq (i:=4) bQ (kF PySem.F.plainAttrs_str PySem.F.slot_str_find PySem.F.type_str_find xk cm (aa (aB js (pv 1) ae) af))) (ac (vL (ai C__law_painted q hr (aa (aB bc (pv 3) (pv 4)) (aa (fK jV (pv 1) (ir ae) iu) (aa (pv 2) af))) (hj:=by first|decide|simp|(simp only[Jq];lia))) (Ai (pv 3) (pv 4) tz)) (ac (aR (PW.pt (Aa (ck (bS (aw (bq "tuple") rfl T.b_isinstance au (aa (aB bc (pv 3) ae) (aa (cQ T.b_tuple eA) af))))) (wX (aG (vQ hr) (pv 3) (ak Ax (bh (ay (aB bc (pv 3) ae) aA)) ae))))) (ag (av (aB bc (pv 3) ae))) aE) (ag (av (aL (ay (aB bc (pv 3) ae) (ay (aB bc (pv 3) ae) (ay (aB bc (pv 3) ae) (ay (aB bc (pv 3) ae) aA)))))))))))),?_⟩
  refine⟨rfl,ap (bU (fun c =>?_) (fun c =>?_))⟩
  ·have e:z=("" : Str):=by simpa using c
   subst e;rw[qS]at q';exact (q' (.int i) H (am.refl H) (.col i))
  have pz:0 < z.length:=by
   rcases Nat.eq_zero_or_pos z.length with h0|h0
   ·exact absurd (by simp[n6.mpr h0]) c
   ·exact h0
  have hs:z.length≤sizeLine:=small (by lia);refine⟨v,t,rfl,ht,fun l a b c d H2 s2 hl0 u2 ka kb kc kd =>?_⟩;obtain⟨e,he,e1,e2⟩:=kB hz pz;refine⟨rfl,z,0,z.cps.getD 0 0,rfl,rfl,hs,Dh pz,("0123" : Str),sgn z 0,rfl,rfl,?_⟩
  rw[e1,EB he];have key:∃ x,atI [a,b,c,d] (e:Int)=some x∧bu H2 x (qk t e):=by
   rcases e with _|_|_|_|e
   ·exact⟨a,rfl,ka⟩
   ·exact⟨b,rfl,kb⟩
   ·exact⟨c,rfl,kc⟩
   ·exact⟨d,rfl,kd⟩
   ·lia
  obtain⟨x,ex,kx⟩:=key;refine⟨l,_,_,x,rfl,rfl,SqL.of u2,ex,_,rfl,z,rfl,hs,dj ?_⟩;have rl:=Cd z;refine⟨x,i,qk t e,rst z,(by show [x,V.str _,V.int i]=[x,V.str _,V.int i];rw[ye pz]),kx,Ce hz,by lia,by lia,gQ dt,fun v' H3 s3 hv' =>?_⟩;have u3:=s3 _ _ u2;have hix:ixN [a,b,c,d].length (e:Int)=some e:=by
   unfold ixN;rw[if_pos (by lia),if_pos (by simp;lia),HL]
  refine⟨l,[a,b,c,d],(e:Int),e,rfl,rfl,u3,hix,?_⟩;have t3:=bO.lst (ys:=[a,b,c,d].set e v') u3;have sf:am H (upd H3 l (.lst ([a,b,c,d].set e v'))):=am.set (s2.trans s3) hl0 _;have t23:=s3.tups.trans t3;have dq:=oE (dig (rst z)) 60 (qk t e) (.col i) (gQ dt) (by rw[cP];show 0 + _≤60;lia);have ep:jm t (dig z) (.col i)=qe t e (jm (qk t e) (dig (rst z)) (.col i)):=by rw[C8 pz,e2];rfl
  rw[ep]at q';have d0:=gQ (d:=0) dt;have d1:=gQ (d:=1) dt;have d2:=gQ (d:=2) dt;have d3:=gQ (d:=3) dt;have kv:=hv'.up t3;have u4:upd H3 l (.lst ([a,b,c,d].set e v')) l=some (.lst ([a,b,c,d].set e v')):=ah;have four4:∃ (xa xb xc xd:V) (ta tb tc td:Tr),[a,b,c,d].set e v'=[xa,xb,xc,xd]∧bu (upd H3 l (.lst ([a,b,c,d].set e v'))) xa ta∧bu (upd H3 l (.lst ([a,b,c,d].set e v'))) xb tb∧bu (upd H3 l (.lst ([a,b,c,d].set e v'))) xc tc∧bu (upd H3 l (.lst ([a,b,c,d].set e v'))) xd td ∧
    (ta.deep≤60∧tb.deep≤60∧tc.deep≤60∧td.deep≤60)∧qe t e (jm (qk t e) (dig (rst z)) (.col i))=ki ta tb tc td:=by
   rcases e with _|_|_|_|e
   ·exact⟨_,_,_,_,_,_,_,_,rfl,kv,kb.up t23,kc.up t23,kd.up t23,⟨dq,d1,d2,d3⟩,rfl⟩
   ·exact⟨_,_,_,_,_,_,_,_,rfl,ka.up t23,kv,kc.up t23,kd.up t23,⟨d0,dq,d2,d3⟩,rfl⟩
   ·exact⟨_,_,_,_,_,_,_,_,rfl,ka.up t23,kb.up t23,kv,kd.up t23,⟨d0,d1,dq,d3⟩,rfl⟩
   ·exact⟨_,_,_,_,_,_,_,_,rfl,ka.up t23,kb.up t23,kc.up t23,kv,⟨d0,d1,d2,dq⟩,rfl⟩
   ·lia
  obtain⟨xa,xb,xc,xd,ta,tb,tc,td,el,ja,jb,jc,jd,⟨da,db,dc,dd⟩,eg⟩:=four4;rw[eg]at q';rw[el]at u4 sf ja jb jc jd ⊢;generalize upd H3 l (.lst [xa,xb,xc,xd])=H4 at *;cases hta:ta.isCol with
  | false =>
   have hg:ki ta tb tc td=.four ta tb tc td:=by
    unfold ki;rw[if_neg (fun z=>by have:=(oK.mp z).1;rw[hta]at this;cases this)]
   have ty:=ja.ty (K:=K);rw[hta]at ty;refine⟨l,_,_,xa,rfl,rfl,SqL.of u4,rfl,_,_,_,rfl,ty,kg,ap (cH (cH ?_))⟩;refine⟨l,_,_,_,rfl,rfl,SqL.of u4,rfl,l,_,_,_,rfl,rfl,SqL.of u4,rfl,l,_,_,_,rfl,rfl,SqL.of u4,rfl,l,_,_,_,rfl,rfl,SqL.of u4,rfl,(leZ rfl),fun pp hpp=>q' _ _ (sf.trans (am.new hpp _)) ?_⟩;rw[hg];have sn:=(am.new hpp (.tup [xa,xb,xc,xd])).tups;exact .four ah (ja.up sn) (jb.up sn) (jc.up sn) (jd.up sn)
  | true =>
   have ty:=ja.ty (K:=K);rw[hta]at ty;refine⟨l,_,_,xa,rfl,rfl,SqL.of u4,rfl,_,_,_,rfl,ty,kh,ap (fR ?_)⟩;refine⟨l,_,_,xa,rfl,rfl,SqL.of u4,rfl,(leZ rfl),fun m hm =>?_⟩;refine⟨m,4,_,rfl,rfl,ah,by decide,by decide,(leZ rfl),fun m2 hm2 =>?_⟩;have er:(List.replicate (4:Int).toNat [xa]).flatten=[xa,xa,xa,xa]:=rfl;rw[er];have sy:=(am.new hm (.lst [xa])).trans (am.new hm2 (.lst [xa,xa,xa,xa]));have um:upd (upd H4 m (.lst [xa])) m2 (.lst [xa,xa,xa,xa]) m2=some (.lst [xa,xa,xa,xa]):=ah;generalize upd (upd H4 m (.lst [xa])) m2 (.lst [xa,xa,xa,xa])=H5 at *;have u5:=sy _ _ u4;have la:=ja.up sy.tups;have lb:=jb.up sy.tups;have lc:=jc.up sy.tups;have ld:=jd.up sy.tups;refine⟨_,_,.lst u5 (.cons la.dat (.cons lb.dat (.cons lc.dat (.cons ld.dat .nil)))),.lst um (.cons la.dat (.cons la.dat (.cons la.dat (.cons la.dat .nil)))),wR da db dc dd,wR da da da da,ap (bU (fun z =>?_) (fun z =>?_))⟩
   ·have z':PyData.eqv (.list [ta.data,tb.data,tc.data,td.data]) (.list [ta.data,ta.data,ta.data,ta.data])=true:=z;rw[FP]at z';obtain⟨h1,h2,h3,h4⟩:=G6 z';have hg:ki ta tb tc td=ta:=by
     unfold ki;rw[if_pos (oK.mpr ⟨hta,h2,h3,h4⟩)]
    refine⟨l,_,_,_,rfl,rfl,SqL.of u5,rfl,q' _ _ (sf.trans sy) ?_⟩;rw[hg];exact la
   ·have z':¬ PyData.eqv (.list [ta.data,tb.data,tc.data,td.data]) (.list [ta.data,ta.data,ta.data,ta.data])=true:=z;rw[FP]at z';have hg:ki ta tb tc td=.four ta tb tc td:=by
     unfold ki;rw[if_neg (fun y=>by obtain⟨_,h2,h3,h4⟩:=oK.mp y;exact z' (GH ⟨rfl,h2,h3,h4⟩))]
    refine⟨l,_,_,_,rfl,rfl,SqL.of u5,rfl,l,_,_,_,rfl,rfl,SqL.of u5,rfl,l,_,_,_,rfl,rfl,SqL.of u5,rfl,l,_,_,_,rfl,rfl,SqL.of u5,rfl,(leZ rfl),fun pp hpp=>q' _ _ (sf.trans (sy.trans (am.new hpp _))) ?_⟩;rw[hg];have sn:=(am.new hpp (.tup [xa,xb,xc,xd])).tups;exact .four ah (la.up sn) (lb.up sn) (lc.up sn) (ld.up sn)
end
def suf (z:Str)(k:Nat):Str:=⟨(z.cps.toList.drop k).toArray⟩
theorem yd {z:Str}{k:Nat}(h:k≤z.length):Txt.slice z (some (k:Int)) none=suf z k:=by
 have e:=PyProof.Rows.slice_closes_from (x:=z) (i:=(k:Int)) ⟨by simp,by rw[← cR];lia⟩;rw[beq_iff_eq]at e;rw[e];unfold suf
 congr 2
 rw[HL,GV];rw[Ih,← cR];simp
theorem B7 (z:Str)(k:Nat):(suf z k).length=z.length - k:=by rw[cR,cR];simp[suf]
theorem B8 {z:Str}(h:IsC z)(k:Nat):IsC (suf z k):=fun c hc=>h c (by
 have hc':c∈z.cps.toList.drop k:=by simpa[suf] using hc
 exact Jl hc')
section
variable {P:Program}{w:World}{K:PySem.W.Frag}{mg:Str→Option Value}{base:Heap}{CX:CXT}{f:Addr}{fd:FuncData}
abbrev gj:Stmt:=top 64
theorem aQ:az ["_law_script","_law_first","_law_level","_law_many","_law_tree","_law_last","_law_k","_law_cell","_law_code","_law_same"] ["_law_script","_law_first","_law_level","_law_many"] (aj gj):={}
inductive iT  (K:PySem.W.Frag)(vs:List V)(H:Hp)(Q:VK):Prop
 | mk (a:Addr) (ns:List Int) (first level many:Nat) (h_0:vs=[.ref a,.int first,.int level,.int many]) (h_1:SqL K H a (ns.map V.int)) (h_2:ns.length≤63) (h_3:first≤1000) (h_4:level≤40) (h_5:many≤12) (h_6:∀ v t H',am H H'→bu H' v t→aP level t→cnt t≤1460→Q v H'):iT K vs H Q
def i8  (K:PySem.W.Frag):Sp:=fun vs H Q _=>iT K vs H Q
theorem oN (T:Tx K mg)(q:br CX)(F:aT K "_law_tree_by" "_law_tree_by" gj f fd .none)(C__law_at:Fok P w K mg base CX 1 "_law_at" ["_law_script","_law_k"] [] (jA K))(C__law_mix:Fok P w K mg base CX 1 "_law_mix" ["_law_cell","_law_k"] [] fv)
  (C__law_code_by:Fok P w K mg base CX 2 "_law_code_by" ["_law_cell","_law_k","_law_most"] [] i_) (C__law_colour_by:Fok P w K mg base CX 2 "_law_colour_by" ["_law_script","_law_cell","_law_k"] [] (gL K)) (C__law_painted:Fok P w K mg base CX 42 "_law_painted" ["_law_tree","_law_code","_law_colour"] [] (ft 40)):bd P w K mg base CX 43 f fd ["_law_script","_law_first","_law_level","_law_many"] (i8 K):=by
 refine F.ok aQ (fun vs H Q E h =>?_) (fun cdv A outer s H vs Q E hr h =>?_)
 ·obtain⟨_,_,_,_,_,rfl,_⟩:=h;rfl
 obtain⟨a,ns,first,level,many,rfl,hS,h63,hf,hlv,hmany,q'⟩:=h;refine⟨_,(ac (aq (i:=4) aQ (ai C__law_colour_by q hr (aa (pv 0) (aa (ai C__law_at q hr (aa (pv 0) (aa (pv 1) af))) (aa ae af))))) (ac (aq (i:=5) aQ (ai C__law_code_by q hr (aa (ai C__law_at q hr (aa (pv 0) (aa ae af))) (aa ae (aa (pv 2) af))))) (ac (rG (aR (aG oJ (pv 2) ae) (ag (aq (i:=3) aQ (aw (gZ rfl) rfl T.b_min pR (aa (pv 3) (aa (ak gB ae (bA mf rfl T.b_int gE (aa (iz oJ (pv 2) ae) af))) af))))) aE)) (ac (bg Hd rfl (bT rfl T.b_range (aa (pv 3) af)) (bj (i:=6) aQ) (ac (aq (i:=7) aQ (ai C__law_at q hr (aa (pv 0) (aa (ak aK (pv 1) (pv 6)) af)))) (ac (aq (i:=8) aQ (ai C__law_code_by q hr (aa (pv 7) (aa (ak bG ae (pv 6)) (aa (pv 2) af))))) (ac (rG (aR (aG dE (ak aM (ai C__law_mix q hr (aa (pv 7) (aa (ak aK (ak bG ae (pv 6)) ae) af))) ae) ae) (ac (aq (i:=9) aQ (fK jV (pv 5) iu (ir (ak a_ (ak bG (aw bX rfl T.b_len dM (aa (pv 8) af)) ae) ae)))) (ag (aq (i:=8) aQ (ak cG (pv 9) (fK jV (pv 8) (ir (aw bX rfl T.b_len dM (aa (pv 9) af))) iu))))) aE)) (ac (aq (i:=4) aQ (ai C__law_painted q hr (aa (pv 4) (aa (pv 8) (aa (ai C__law_colour_by q hr (aa (pv 0) (aa (pv 7) (aa (ak aK (ak bG ae (pv 6)) ae) af)))) af))))) (ag (aq (i:=5) aQ (pv 8)))))))) (ag (av (pv 4))))))),?_⟩;refine⟨a,ns,first,rfl,hS,h63,a,ns,cell ns first,7,rfl,hS,h63,by simp,fun i0 h0 h1 =>?_⟩;refine⟨a,ns,4,rfl,hS,h63,cell ns 4,0,level,rfl,by simp,hlv,fun zl hzl llz =>?_⟩;refine⟨fun σ H2=>H2=H∧∃ mm:Nat,mm≤12∧σ=[some (.ref a),some (.int first),some (.int level),some (.int (mm:Int)),some (.int i0),some (.str zl),none,none,none,none],?_,?_⟩
 ·refine (dj (cq (ap (bU (fun c =>?_) (fun c=>⟨rfl,many,hmany,rfl⟩)))));obtain⟨mm,hmm,em⟩:∃ mm:Nat,mm≤12∧(if (3 - if decide ((level:Int) > 12)=true then (1:Int) else 0) < (many:Int) then (3 - if decide ((level:Int) > 12)=true then (1:Int) else 0) else (many:Int))=(mm:Int):=by
   by_cases h1:(level:Int) > 12
   ·rw[GH h1];refine⟨min 2 many,by lia,?_⟩;simp only[if_true]
    split<;>lia
   ·rw[Hb h1];refine⟨min 3 many,by lia,?_⟩;simp only[GA,if_false]
    split<;>lia
  exact (Or.inr ⟨_,rfl,_,_,rfl,rfl,mm,hmm,by rw[← em];rfl⟩)
 rintro σ H2 ⟨rfl,mm,hmm,rfl⟩;refine⟨_,rfl,by simp,by lia,bV (fun j σ H3=>am H2 H3∧∃ (v:V) (t:Tr) (z:Str) (o6 o7 o8 o9:Option V),bu H3 v t∧aP level t∧cnt t≤1 + 121 * j∧IsC z∧z.length≤level ∧
   σ=[some (.ref a),some (.int first),some (.int level),some (.int (mm:Int)),some v,some (.str z),o6,o7,o8,o9]) ⟨am.refl H2,.int i0,.col i0,zl,none,none,none,none,.col i0,aP.col ⟨h0,h1⟩,by show 1≤1 + 121 * 0;simp,hzl,llz,rfl⟩ ?_ ?_⟩
 ·rintro j σ H3 hj ⟨s2,v,t,z,o6,o7,o8,o9,ht,gt,ct,hz,lz,rfl⟩;have hj':j < mm:=by assumption
  have hS2:=s2.seq hS;have e0:(0:Int) + (j:Int)=(j:Int):=Jf _;rw[e0];refine⟨a,ns,first + j,rfl,hS2,h63,?_⟩;refine⟨.inl ⟨by decide,by decide⟩,cell ns (first + j),10 * j,level,rfl,by lia,hlv,fun z2 hz2 lz2 =>?_⟩;refine⟨fun σ H4=>H4=H3∧∃ (z3:Str) (o9:Option V),IsC z3∧z3.length≤level∧σ=[some (.ref a),some (.int first),some (.int level),some (.int (mm:Int)),some v,some (.str z),some (.int (j:Int)),some (.int (cell ns (first + j))),some (.str z3),o9],?_,?_⟩
  ·refine⟨.inl ⟨by decide,by decide⟩,cell ns (first + j),10 * j + 9,rfl,by lia,fun m hm=>⟨(by show (0:Int) < 2;decide),rfl,ap (bU (fun c2 =>?_) (fun c2=>⟨rfl,z2,_,hz2,lz2,rfl⟩))⟩⟩;refine⟨_,_,rfl,⟨small (by lia),rfl⟩,.inr ⟨by decide,by decide⟩,cK (by decide) (by decide),_,rfl,z,rfl,small (by lia),?_⟩;have ek:(z2.length:Int) * 3 / 4=((z2.length * 3 / 4:Nat):Int):=by rfl
   have es:Txt.slice z none (some ((z2.length:Int) * 3 / 4))=pre z (z2.length * 3 / 4):=by rw[ek,gM]
   have lp:=rH z (z2.length * 3 / 4);have lp2:(pre z (z2.length * 3 / 4)).length≤z2.length:=by lia
   have hp:=rJ hz (z2.length * 3 / 4);dsimp only;rw[es];generalize pre z (z2.length * 3 / 4)=zp at *;have ls:=B7 z2 zp.length;refine⟨_,_,rfl,⟨small (by lia),rfl⟩,_,rfl,z2,rfl,small (by lia),?_⟩;rw[yd lp2];exact⟨_,_,rfl,rfl,small (by lia),rfl,zp++suf z2 zp.length,_,IsC.app hp (B8 hz2 zp.length),by rw[iF];lia,rfl⟩
  rintro σ H4 ⟨rfl,z3,o9,hz3,lz3,rfl⟩;refine⟨.inl ⟨by decide,by decide⟩,a,ns,cell ns (first + j),10 * j + 8,rfl,hS2,h63,by lia,fun i hi0 hi1 =>?_⟩;refine⟨v,i,t,z3,rfl,ht,hz3,by lia,by decide,by have:=gt.deep;lia,fun v' H5 s3 hv' =>?_⟩;have l3:(dig z3).length≤level:=by rw[cP];exact lz3
  have c3:=qT (dig z3) t (.col i) (By hz3);have c1:cnt (.col i)=1:=rfl;exact⟨s2.trans s3,v',jm t (dig z3) (.col i),z3,_,_,_,_,hv',pf l3 gt (aP.col ⟨hi0,hi1⟩),by lia,hz3,lz3,rfl⟩
 ·rintro σ H3 ⟨s2,v,t,z,o6,o7,o8,o9,ht,gt,ct,hz,lz,rfl⟩;exact (q' v t H3 s2 ht gt (by lia))
end
theorem ql:bootBuiltins "ValueError" = some (.type "ValueError"):=by decide +kernel
theorem lT:(0:Int) < 10 ^ ((30:Int)).toNat:=by decide +kernel
section
variable {P:Program}{w:World}{K:PySem.W.Frag}{mg:Str→Option Value}{base:Heap}{CX:CXT}{f:Addr}{fd:FuncData}
abbrev gm:Stmt:=top 65
theorem cE:az ["_law_tree","_law_code","_law_x","_law_y","_law_wide","_law_half","_law_found","_law_k"] ["_law_tree","_law_code","_law_x","_law_y","_law_wide"] (aj gm):={}
inductive iU  (m:Nat)(vs:List V)(H:Hp)(Q:VK):Prop
 | mk (v:V) (t:Tr) (z:Str) (k x y:Nat) (h_0:vs=[v,.str z,.int (x:Int),.int (y:Int),.int ((2 ^ k:Nat):Int)]) (h_1:bu H v t) (h_2:aP k t) (h_3:IsC z) (h_4:z.length + k≤40) (h_5:k < m) (h_6:m≤41) (h_7:cnt t≤4000) (h_8:∀ l us H',am H H'→H l=none→H' l=some (.lst us)→eB H' us (sqs (dig z) t x y k)→Q (.ref l) H'):iU m vs H Q
def fq  (m:Nat):Sp:=fun vs H Q _=>iU m vs H Q
theorem jn (T:Tx K mg)(q:br CX)(F:aT K "_law_squares" "_law_squares" gm f fd .none)(b:cL K fd ["_law_tree","_law_code","_law_x","_law_y","_law_wide"] [])(m:mg "_law_squares" = some (.ref f)):
  ∀ n,bd P w K mg base CX (1 + n) f fd ["_law_tree","_law_code","_law_x","_law_y","_law_wide"] (fq n)
 | 0=>by
  refine F.ok cE (fun vs H Q E h =>?_) (fun cdv A outer s H vs Q E hr h =>?_)
  ·obtain⟨_,_,_,_,_,_,rfl,_⟩:=h;rfl
  obtain⟨_,_,_,_,_,_,_,_,_,_,_,h,_⟩:=h;exact absurd h (Jr _)
 | m' + 1=>by
  have C__law_squares:Fok P w K mg base CX (1 + m') "_law_squares" ["_law_tree","_law_code","_law_x","_law_y","_law_wide"] [] (fq m'):=fok F (jn T q F b m m') b m
  refine F.ok cE (fun vs H Q E h =>?_) (fun cdv A outer s H vs Q E hr h =>?_)
  ·obtain⟨_,_,_,_,_,_,rfl,_⟩:=h;rfl
  obtain⟨v,t,z,k,x,y,rfl,ht,gt,hz,hl,hk,hm,hc,q'⟩:=h;refine⟨_,(ac (aR (ck (bS (aw (bq "tuple") rfl T.b_isinstance au (aa (pv 0) (aa (cQ T.b_tuple eA) af))))) (ag (av (bh (ay (aL (ay (pv 1) (ay (pv 0) (ay (pv 2) (ay (pv 3) (ay (pv 4) aA)))))) aA)))) aE) (ac (aq (i:=5) cE (ak a_ (pv 4) ae)) (ac (aq (i:=6) cE (bh aA)) (ac (bg Hd rfl (bT rfl T.b_range (aa ae af)) (bj (i:=7) cE) (ag (bz (kF PySem.F.plainAttrs_list PySem.F.slot_list_extend PySem.F.type_list_extend jF (pv 6) (aa (ai C__law_squares q hr (aa (aB aF (pv 0) (pv 7)) (aa (ak cG (pv 1) (aB js cm (pv 7))) (aa (ak aK (pv 2) (ak bG (ak aM (pv 7) ae) (pv 5))) (aa (ak aK (pv 3) (ak bG (ak a_ (pv 7) ae) (pv 5))) (aa (pv 5) af))))) (hj:=by first | decide | simp | (simp only[Jq];lia))) af))))) (ag (av (pv 6))))))),?_⟩
  cases ht with
  | col i =>
   refine⟨_,_,_,rfl,.int _,kh,ap (fR ?_)⟩;refine⟨(leZ rfl),nw fun p H1 hp s1 u1 =>?_⟩;refine⟨(leZ rfl),fun l hl1 =>?_⟩;have s2:=am.new hl1 (.lst [.ref p]);have u2:=s2 _ _ u1;rw[← zO hz]at u2;exact q' l _ _ (s1.trans s2) (am.free s1 hl1) ah (.cons ⟨p,rfl,u2,HG k⟩ .nil)
  | @four p xa xb xc xd ta tb tc td e ja jb jc jd =>
   rcases k with _|k
   ·exact gt.elim
   obtain⟨ga,gb,gc,gd,ho⟩:=gt;have hc':cnt ta + cnt tb + cnt tc + cnt td≤4000:=hc;have half:((2 ^ (k + 1):Nat):Int) / 2=((2 ^ k:Nat):Int):=by rw[HK];simp
   have pk:2 ^ k≤2 ^ 40:=Nat.pow_le_pow_right (by decide) (by lia);have pk0:=HG k;refine⟨_,_,_,rfl,.tup e,kg,ap (cH ?_)⟩;refine⟨cK (by decide) (by decide),?_⟩;dsimp only;rw[half];refine⟨(leZ rfl),nw fun l H1 hl0 s1 u1 =>?_⟩;obtain⟨ps,eps⟩:∃ ps:List (List Sq),ps=[sqs (dig z++[0]) ta (x + 0 % 2 * 2 ^ k) (y + 0 / 2 * 2 ^ k) k,sqs (dig z++[1]) tb (x + 1 % 2 * 2 ^ k) (y + 1 / 2 * 2 ^ k) k,sqs (dig z++[2]) tc (x + 2 % 2 * 2 ^ k) (y + 2 / 2 * 2 ^ k) k,sqs (dig z++[3]) td (x + 3 % 2 * 2 ^ k) (y + 3 / 2 * 2 ^ k) k]:=⟨_,rfl⟩;have lps:ps.length=4:=by rw[eps];rfl
   have tot:ps.flatten.length≤4000:=by
    rw[eps];simp only[Ir,List.flatten_nil,Hw,GE,b_]
    lia
   refine⟨_,rfl,by decide,by decide,bV (fun (j:Nat) σ H2=>am H H2∧∃ (us:List V) (o3:Option V),H2 l=some (.lst us)∧j≤4∧eB H2 us (ps.take j).flatten∧σ=[some (.ref p),some (.str z),some (.int (x:Int)),some (.int (y:Int)),some (.int ((2 ^ (k + 1):Nat):Int)),some (.int ((2 ^ k:Nat):Int)),some (.ref l),o3]) ⟨s1,[],none,u1,by decide,.nil,rfl⟩ ?_ ?_⟩
   ·rintro j σ H2 hj ⟨s2,us,o3,u2,hj4,hus,rfl⟩;have hj4:j < 4:=hj;rw[show (0:Int) + (j:Int)=(j:Int) by simp];have key:∃ xx t',atI [xa,xb,xc,xd] (j:Int)=some xx∧bu H xx t'∧aP k t'∧cnt t'≤4000∧ps[j]? = some (sqs (dig z++[j]) t' (x + j % 2 * 2 ^ k) (y + j / 2 * 2 ^ k) k):=by
     rw[eps];rcases j with _ | _ | _ | _ | j
     ·exact⟨xa,ta,rfl,ja,ga,by lia,rfl⟩
     ·exact⟨xb,tb,rfl,jb,gb,by lia,rfl⟩
     ·exact⟨xc,tc,rfl,jc,gc,by lia,rfl⟩
     ·exact⟨xd,td,rfl,jd,gd,by lia,rfl⟩
     ·lia
    obtain⟨xx,t',k1,k2,k3,k4,k5⟩:=key;have l1:(one j).length=1:=rfl;have eX:(x:Int) + (j:Int) % 2 * ((2 ^ k:Nat):Int)=((x + j % 2 * 2 ^ k:Nat):Int):=by simp
    have eY:(y:Int) + (j:Int) / 2 * ((2 ^ k:Nat):Int)=((y + j / 2 * 2 ^ k:Nat):Int):=by simp
    refine⟨.inl ⟨rfl,_,SqL.of u2⟩,p,_,_,xx,rfl,rfl,SqT.of (s2 _ _ e),k1,_,_,48 + j,rfl,rfl,z_,ER hj4,_,_,rfl,rfl,(by show z.length + 1≤sizeLine;exact small (by lia)),?_⟩;refine⟨(by show (0:Int) < 2;decide),.inl ⟨by lia,by lia⟩,?_⟩;refine⟨cK (by decide) (by decide),.inl ⟨by lia,by lia⟩,?_⟩;refine⟨xx,t',z++one j,k,x + j % 2 * 2 ^ k,y + j / 2 * 2 ^ k,?_,k2.up s2.tups,k3,IsC.app hz (IsC.one hj4),by rw[iF,l1];lia,by lia,by lia,k4,fun l2 us2 H3 s3 hl2 u3 hus2 =>?_⟩
    ·rw[← eX,← eY];rfl
    rw[kW,sx]at hus2;have u2':=s3 _ _ u2;have et:(ps.take (j + 1)).flatten=(ps.take j).flatten++sqs (dig z++[j]) t' (x + j % 2 * 2 ^ k) (y + j / 2 * 2 ^ k) k:=by rw[G_,k5,IM];simp
    have n1:=hus.len;have n2:=hus2.len;have n3:(ps.take j).flatten.length≤ps.flatten.length:=by
     conv=>rhs;rw[← Hi j ps,IM,GE]
     simp
    have n4:=b_ t' (dig z++[j]) (x + j % 2 * 2 ^ k) (y + j / 2 * 2 ^ k) k;have tl:=bO.lst (ys:=us++us2) u2';refine⟨l,l2,_,_,rfl,rfl,u2',u3,big (by lia),am.set (s2.trans s3) hl0 _,us++us2,_,ah,hj4,?_,rfl⟩;rw[et];exact (hus.up (s3.tups.trans tl)).app (hus2.up tl)
   ·rintro σ H2 ⟨s2,us,o3,u2,hj4,hus,rfl⟩;have e4:(ps.take ((4:Int)).toNat).flatten=sqs (dig z) (.four ta tb tc td) x y (k + 1):=by
     rw[show ((4:Int)).toNat=4 from rfl,GV (by lia),eps];simp[sqs]
    have hus':eB H2 us (ps.take ((4:Int)).toNat).flatten:=hus;rw[e4]at hus';exact (q' l us H2 s2 hl0 u2 hus')
abbrev jY:Stmt:=top 66
theorem dX:az ["_law_e","_law_kinds","_law_words"] ["_law_e"] (aj jY):={}
def mw (Y:Yx K mg):Sp:=fun vs H Q _=>∃ e,vs=[.ref e]∧((H e=some (.ext (q9 e (.ref Y.c_NoPlace)))∧∀ H',am H H'→Q (.str "place") H'))
theorem tX (T:Tx K mg)(Y:Yx K mg)(F:aT K "_law_word" "_law_word" jY f fd .none):qa P w K mg base CX 1 f fd ["_law_e"] (mw Y):=by
 refine F.okHs dX (fun vs H Q E h =>?_) (fun cdv A outer s H vs Q E hr h =>?_)
 ·obtain⟨_,rfl,_⟩:=h;rfl
 obtain⟨e,rfl,h⟩:=h;refine⟨_,(dJ (w_ (i:=1) dX.nd rfl (Or.inl rfl) (nE (ay (aw (bL (K:=K)) rfl T.b_isinstance au (aa (pv 0) (aa (bJ (v:=.ref _) rfl Y.m_NoLevel rfl) af))) (ay (aw (bL (K:=K)) rfl T.b_isinstance au (aa (pv 0) (aa (bJ (v:=.ref _) rfl Y.m_NoCode rfl) af))) (ay (aw (bL (K:=K)) rfl T.b_isinstance au (aa (pv 0) (aa (bJ (v:=.ref _) rfl Y.m_NoColour rfl) af))) (ay (aw (bL (K:=K)) rfl T.b_isinstance au (aa (pv 0) (aa (bJ (v:=.ref _) rfl Y.m_NoPlace rfl) af))) aA)))))) (dJ (PSx.mk (aq (i:=1) dX (ak AB (pv 1) (bh (ay (aw (bL (K:=K)) rfl T.b_isinstance au (aa (pv 0) (aa (bJ (v:=.ref _) rfl Y.m_NoSide rfl) af))) (ay (aw (bL (K:=K)) rfl T.b_isinstance au (aa (pv 0) (aa (bJ (v:=.ref _) rfl Y.m_NoLeaf rfl) af))) (ay (aw (bL (K:=K)) rfl T.b_isinstance au (aa (pv 0) (aa (bJ (v:=.ref _) rfl Y.m_Twice rfl) af))) (ay (aw (bL (K:=K)) rfl T.b_isinstance au (aa (pv 0) (aa (bJ (v:=.ref _) rfl Y.m_Gap rfl) af))) aA)))))) (hs:=dS rfl))) (dJ (PSx.mk (aq (i:=1) dX (ak AB (pv 1) (bh (ay (aw (bL (K:=K)) rfl T.b_isinstance au (aa (pv 0) (aa (bJ (v:=.ref _) rfl Y.m_NoText rfl) af))) (ay (aw (bL (K:=K)) rfl T.b_isinstance au (aa (pv 0) (aa (bJ (v:=.ref _) rfl Y.m_NoName rfl) af))) (ay (aw (bL (K:=K)) rfl T.b_isinstance au (aa (pv 0) (aa (bJ (v:=.ref _) rfl Y.m_NoNumber rfl) af))) (ay (aw (bL (K:=K)) rfl T.b_isinstance au (aa (pv 0) (aa (bJ (v:=.ref _) rfl Y.m_NoRow rfl) af))) aA)))))) (hs:=dS rfl))) (dJ (PSx.mk (aR (PW.pt (oA (ck (bS (aw (zj (K:=K) "ValueError") rfl T.b_isinstance au (aa (pv 0) (aa (cQ T.b_ValueError ql) af))))) (lS (aG qz (kF PySem.F.plainAttrs_list PySem.F.slot_list_count PySem.F.type_list_count AQ (pv 1) (aa gT af)) ae)))) (ag (av cm)) aE)) (dJ (w_ (i:=2) dX.nd rfl (Or.inl rfl) (nE (CD rfl))) (kD (PSx.mk (av (aB bc (pv 2) (kF PySem.F.plainAttrs_list PySem.F.slot_list_index PySem.F.type_list_index yO (pv 1) (aa gT af))))))))))),?_⟩
 rcases h with⟨he,q'⟩
 ·refine⟨e,Y.c_NoPlace,Y.c_NoLevel,false,rfl,he,Y.k_NoPlace,Y.t_NoPlace_NoLevel,e,Y.c_NoPlace,Y.c_NoCode,false,rfl,he,Y.k_NoPlace,Y.t_NoPlace_NoCode,e,Y.c_NoPlace,Y.c_NoColour,false,rfl,he,Y.k_NoPlace,Y.t_NoPlace_NoColour,e,Y.c_NoPlace,Y.c_NoPlace,true,rfl,he,Y.k_NoPlace,A_,(leZ rfl),fun p1 g1 =>?_⟩;generalize e1:upd H p1 _=H1;have s1:am H H1:=e1▸am.new g1 _;have u1:H1 p1=some (.lst [V.bl false,.bl false,.bl false,.bl true]):=by rw[← e1];exact ah
  refine⟨e,Y.c_NoPlace,Y.c_NoSide,false,rfl,s1 _ _ he,Y.k_NoPlace,Y.t_NoPlace_NoSide,e,Y.c_NoPlace,Y.c_NoLeaf,false,rfl,s1 _ _ he,Y.k_NoPlace,Y.t_NoPlace_NoLeaf,e,Y.c_NoPlace,Y.c_Twice,false,rfl,s1 _ _ he,Y.k_NoPlace,Y.t_NoPlace_Twice,e,Y.c_NoPlace,Y.c_Gap,false,rfl,s1 _ _ he,Y.k_NoPlace,Y.t_NoPlace_Gap,(leZ rfl),fun p2 g2 =>?_⟩;generalize e2:upd H1 p2 _=H2;have s2:am H1 H2:=e2▸am.new g2 _;have u2:H2 p2=some (.lst [V.bl false,.bl false,.bl false,.bl false]):=by rw[← e2];exact ah
  refine⟨p1,p2,_,_,rfl,rfl,s2 _ _ u1,u2,(leZ rfl),fun p3 g3 =>?_⟩;generalize e3:upd H2 p3 _=H3;have s3:am H2 H3:=e3▸am.new g3 _;have u3:H3 p3=some (.lst [V.bl false,.bl false,.bl false,.bl true,.bl false,.bl false,.bl false,.bl false]):=by rw[← e3];exact ah
  have w3:=s1.trans (s2.trans s3);refine⟨e,Y.c_NoPlace,Y.c_NoText,false,rfl,w3 _ _ he,Y.k_NoPlace,Y.t_NoPlace_NoText,e,Y.c_NoPlace,Y.c_NoName,false,rfl,w3 _ _ he,Y.k_NoPlace,Y.t_NoPlace_NoName,e,Y.c_NoPlace,Y.c_NoNumber,false,rfl,w3 _ _ he,Y.k_NoPlace,Y.t_NoPlace_NoNumber,e,Y.c_NoPlace,Y.c_NoRow,false,rfl,w3 _ _ he,Y.k_NoPlace,Y.t_NoPlace_NoRow,(leZ rfl),fun p4 g4 =>?_⟩;generalize e4:upd H3 p4 _=H4;have s4:am H3 H4:=e4▸am.new g4 _;have u4:H4 p4=some (.lst [V.bl false,.bl false,.bl false,.bl false]):=by rw[← e4];exact ah
  refine⟨p3,p4,_,_,rfl,rfl,s4 _ _ u3,u4,(leZ rfl),fun p5 g5 =>?_⟩;generalize e5:upd H4 p5 _=H5;have s5:am H4 H5:=e5▸am.new g5 _;have u5:H5 p5=some (.lst [V.bl false,.bl false,.bl false,.bl true,.bl false,.bl false,.bl false,.bl false,.bl false,.bl false,.bl false,.bl false]):=by rw[← e5];exact ah
  have w5:=w3.trans (s4.trans s5);refine⟨e,Y.c_NoPlace,true,rfl,w5 _ _ he,Y.k_NoPlace,Y.v_NoPlace,ap (cH ?_)⟩;refine⟨.inl ⟨rfl,_,SqL.of u5⟩,p5,.bl true,_,rfl,rfl,u5,rfl,rfl,rfl,ap (xt (by decide +kernel) ?_)⟩;refine⟨(leZ rfl),fun p6 g6 =>?_⟩;generalize e6:upd H5 p6 _=H6;have s6:am H5 H6:=e6▸am.new g6 _;have u6:H6 p6=some (.lst [V.str "level",.str "code",.str "colour",.str "place",.str "side",.str "leaf",.str "twice",.str "gap",.str "text",.str "name",.str "number",.str "row"]):=by rw[← e6];exact ah
  refine⟨.inl ⟨rfl,_,SqL.of (s6 _ _ u5)⟩,p5,.bl true,_,3,.bl true,rfl,rfl,s6 _ _ u5,rfl,rfl,rfl,rfl,?_,p6,_,_,.str "place",rfl,rfl,SqL.of u6,rfl,q' H6 (w5.trans s6)⟩
  intro i v hi hv;rcases i with _ | _ | _ | i
  all_goals first
   | (have ev:=Option.some.inj hv;subst ev;rfl)
   | lia
abbrev lH:Stmt:=top 67
theorem vB:az ["_law_cell","_law_wide"] ["_law_cell","_law_wide"] (aj lH):={}
inductive mP  (K:PySem.W.Frag)(vs:List V)(H:Hp)(Q:VK):Prop
 | mk (c:Int) (n:Nat) (h_0:vs=[.int c,.int ((2 ^ n:Nat):Int)]) (h_1:∀ (x:V) (H':Hp),am H H'→fg K H' n x→Q x H'):mP K vs H Q
def oh  (K:PySem.W.Frag):Sp:=fun vs H Q _=>mP K vs H Q
theorem vU (T:Tx K mg)(F:aT K "_law_odd" "_law_odd" lH f fd .none):bd P w K mg base CX 1 f fd ["_law_cell","_law_wide"] (oh K):=by
 refine F.oks vB (fun vs H Q E h =>?_) (fun cdv A outer s H vs Q E hr h =>?_)
 ·obtain⟨_,_,rfl,_⟩:=h;rfl
 obtain⟨c,n,rfl,q'⟩:=h;refine⟨_,(dJ (Ae (aG dE (ak aM (pv 0) ae) ae) (kD (PSx.mk (av (ak aK (pv 1) (ak bG (ak aM (ak a_ (pv 0) ae) (ak Ay ae ae)) (ak aM (ak a_ (pv 0) ae) ae)))))) tI) (dJ (Ae (aG dE (ak aM (pv 0) ae) ae) (kD (PSx.mk (av (ak gB (tO nZ ae) (ak bG (ak aM (ak a_ (pv 0) ae) (ak Ay ae ae)) (ak aM (ak a_ (pv 0) ae) ae)))))) tI) (kD (Cq (DZ bc (nE (Fn 5 rfl (oH (Cv (oH (PEx.mk ae) aA)) (oH (nE (oH (PEx.mk ae) aA)) (oH (PEx.mk (pv 1)) aA))))) (ak aM (ak a_ (pv 0) ae) ae) (fun _ _=>rfl)))))),?_⟩;have f0:0≤c / 3 % 10 ^ ((30:Int)).toNat * (c / 3 % 2):=Int.mul_nonneg (IG _ (Int.ne_of_gt lT)) (IG _ (by decide));have m2:-(2 ^ 64) < c / 3 % 2∧c / 3 % 2 < 2 ^ 64:=by omega
 refine⟨(by show (0:Int) < 3;decide),rfl,ap (bU (fun _ =>?_) (fun _ =>?_))⟩
 ·refine⟨cK (by decide) (by decide),⟨by decide,by decide,by decide⟩,lT,cK (by decide) (by decide),(by show (0:Int) < 2;decide),.inr m2,q' _ H (am.refl H) (.inl ⟨_,rfl,by lia⟩)⟩
 refine⟨(by show (0:Int) < 3;decide),rfl,ap (bU (fun _ =>?_) (fun _ =>?_))⟩
 ·refine⟨_,rfl,cK (by decide) (by decide),⟨by decide,by decide,by decide⟩,lT,cK (by decide) (by decide),(by show (0:Int) < 2;decide),.inr m2,q' _ H (am.refl H) (.inl ⟨_,rfl,by omega⟩)⟩
 refine⟨(leZ rfl),fun p1 g1 =>?_⟩;generalize e1:upd H p1 _=A1;have t1:am H A1:=e1▸am.new g1 _;have u1:A1 p1=some (.tup [.int 0]):=by rw[← e1];exact ah
 refine⟨(leZ rfl),fun p3 g3 =>?_⟩;generalize e3:upd A1 p3 _=A3;have t3:am A1 A3:=e3▸am.new g3 _;have u3:A3 p3=some (.lst [.int 0]):=by rw[← e3];exact ah
 refine⟨(leZ rfl),fun p2 g2 =>?_⟩;have t2:=am.new g2 (.lst [V.bl true,.bl false,.non,.str "0",.str "",.ref p1,.ref p3,.int ((2 ^ n:Nat):Int)])
 have u2:upd A3 p2 (.lst [V.bl true,.bl false,.non,.str "0",.str "",.ref p1,.ref p3,.int ((2 ^ n:Nat):Int)]) p2=some (.lst [V.bl true,.bl false,.non,.str "0",.str "",.ref p1,.ref p3,.int ((2 ^ n:Nat):Int)]):=ah
 obtain⟨k,hk,ek⟩:∃ k:Nat,k < 8∧c / 3 % 8=(k:Int):=⟨(c / 3 % 8).toNat,by lia,by lia⟩;have pick:∃ x,atI [V.bl true,.bl false,.non,.str "0",.str "",.ref p1,.ref p3,.int ((2 ^ n:Nat):Int)] (c / 3 % 8)=some x∧fg K (upd A3 p2 (.lst [V.bl true,.bl false,.non,.str "0",.str "",.ref p1,.ref p3,.int ((2 ^ n:Nat):Int)])) n x:=by
  rw[ek];rcases k with _ | _ | _ | _ | _ | _ | _ | _ | k
  ·exact⟨_,rfl,.inr (.inl ⟨_,rfl⟩)⟩
  ·exact⟨_,rfl,.inr (.inl ⟨_,rfl⟩)⟩
  ·exact⟨_,rfl,.inr (.inr ⟨_,.non,Em⟩)⟩
  ·exact⟨_,rfl,.inr (.inr ⟨_,.str _,AZ⟩)⟩
  ·exact⟨_,rfl,.inr (.inr ⟨_,.str _,AZ⟩)⟩
  ·exact⟨_,rfl,.inr (.inr ⟨_,.tup (t2 _ _ (t3 _ _ u1)),Ek⟩)⟩
  ·exact⟨_,rfl,.inr (.inr ⟨_,.lst (t2 _ _ u3),En⟩)⟩
  ·exact⟨_,rfl,.inl ⟨_,rfl,by simp⟩⟩
  ·lia
 obtain⟨x,ex,bx⟩:=pick;exact⟨cK (by decide) (by decide),(by show (0:Int) < 8;decide),p2,_,_,x,rfl,rfl,SqL.of u2,ex,q' x _ (t1.trans (t3.trans t2)) bx⟩
end
theorem x9 {z:Str}(h:IsC z):PyData.strOk z=true:=by
 unfold PyData.strOk;rw[← Array.all_toList,Jj];intro c hc
 have:=h c hc
 exact GH (by lia)
section
variable {P:Program}{w:World}{K:PySem.W.Frag}{mg:Str→Option Value}{base:Heap}{CX:CXT}{f:Addr}{fd:FuncData}
def FT (K:PySem.W.Frag)(vs:List V)(H:Hp):Prop:=∃ (k:Nat) (ps pp:Addr) (n i j:Nat) (v x y:V) (t:Tr),vs=[.int (k:Int),.ref ps,x,y,.ref pp]∧k < 5∧H ps=some (.tup [.int (n:Int),v])∧bu H v t∧aP n t∧n≤40∧H pp=some (.tup [.int (i:Int),.int (j:Int)])∧i < 2 ^ n∧j < 2 ^ n∧(fg K H n x∨(iX n x∧fg K H n y))
abbrev jj:Stmt:=top 68
theorem rq:az ["_law_which","_law_sheet","_law_x","_law_y","_law_place"] ["_law_which","_law_sheet","_law_x","_law_y","_law_place"] (aj jj):={}
def kw (Y:Yx K mg):Sp:=fun vs H Q E=>FT K vs H∧∀ H',am H H'→E (.ref Y.c_NoPlace) none H'
theorem rQ (T:Tx K mg)(Y:Yx K mg)(q:br (CXe P w)){Tb:List (Addr × Str)}(F:aT K "_law_asked" "_law_asked" jj f fd .none)(C_rim:Fok P w K mg base (CXe P w) 46 "rim" ["sheet","x","y"] [] (rj Y))(C_steps_from:Fok P w K mg base (CXe P w) 46 "steps_from" ["sheet","x","y"] [] (fo Y))(C_rings:Fok P w K mg base (CXe P w) 50 "rings" ["sheet","x","y"] [] (jy P w Tb Y))(C_way_between:Fok P w K mg base (CXe P w) 46 "way_between" ["sheet","x","y","to_x","to_y"] [] (rh Y)):
  bd P w K mg base (CXe P w) 51 f fd ["_law_which","_law_sheet","_law_x","_law_y","_law_place"] (kw Y):=by
 refine F.okX rq (fun vs H Q E h =>?_) (fun cdv A outer s H vs Q E hr h =>?_)
 ·obtain⟨⟨_,_,_,_,_,_,_,_,_,_,rfl,_⟩,_⟩:=h;rfl
 obtain⟨⟨k,ps,pp,n,i,j,v,x,y,t,rfl,hk,hps,ht,gt,hn,hpp,hi,hj,bp⟩,e'⟩:=h;refine⟨_,(ac (aR (aG dE (pv 0) ae) (ag (av (bI C_rim hr fX (aa (pv 1) (aa (pv 2) (aa (pv 3) af)))))) aE) (ac (aR (aG dE (pv 0) ae) (ag (av (bI C_steps_from hr fX (aa (pv 1) (aa (pv 2) (aa (pv 3) af)))))) aE) (ac (aR (aG dE (pv 0) ae) (ag (av (bI C_rings hr fX (aa (pv 1) (aa (pv 2) (aa (pv 3) af)))))) aE) (ac (aR (aG dE (pv 0) ae) (ag (av (bI C_way_between hr fX (aa (pv 1) (aa (pv 2) (aa (pv 3) (aa (aB aF (pv 4) ae) (aa (aB aF (pv 4) ae) af)))))))) aE) (ag (av (bI C_way_between hr fX (aa (pv 1) (aa (aB aF (pv 4) ae) (aa (aB aF (pv 4) ae) (aa (pv 2) (aa (pv 3) af)))))))))))),?_⟩;have bad:jC Y [.ref ps,x,y] H E:=⟨.ref ps,x,y,n,t,rfl,⟨ps,v,rfl,hps,ht⟩,hn,bp,e'⟩;rcases k with _|_|_|_|_|k
 ·exact⟨rfl,ap (fR (Or.inr bad))⟩
 ·exact⟨rfl,ap (cH ⟨rfl,ap (fR (Or.inr bad))⟩)⟩
 ·exact⟨rfl,ap (cH ⟨rfl,ap (cH ⟨rfl,ap (fR (Or.inr bad))⟩)⟩)⟩
 ·exact⟨rfl,ap (cH ⟨rfl,ap (cH ⟨rfl,ap (cH ⟨rfl,ap (fR ⟨pp,_,_,_,rfl,rfl,SqT.of hpp,rfl,pp,_,_,_,rfl,rfl,SqT.of hpp,rfl,.inr (.inl ⟨_,_,_,_,_,rfl,bad⟩)⟩)⟩)⟩)⟩)⟩
 ·exact⟨rfl,ap (cH ⟨rfl,ap (cH ⟨rfl,ap (cH ⟨rfl,ap (cH ⟨pp,_,_,_,rfl,rfl,SqT.of hpp,rfl,pp,_,_,_,rfl,rfl,SqT.of hpp,rfl,.inr (.inr ⟨ps,n,i,j,v,x,y,t,rfl,hps,ht,gt,hn,hi,hj,bp,e'⟩)⟩)⟩)⟩)⟩)⟩
 ·omega
abbrev gn:Stmt:=top 69
theorem jf:az ["_law_which","_law_sheet","_law_x","_law_y","_law_place","_law_e"] ["_law_which","_law_sheet","_law_x","_law_y","_law_place"] (aj gn):={}
def i9 (K:PySem.W.Frag):Sp:=fun vs H Q _=>FT K vs H∧∀ H',am H H'→Q (.bl true) H'
theorem oO (T:Tx K mg)(Y:Yx K mg)(q:br (CXe P w))(F:aT K "_law_refused" "_law_refused" gn f fd .none)(C__law_asked:Fok P w K mg base (CXe P w) 51 "_law_asked" ["_law_which","_law_sheet","_law_x","_law_y","_law_place"] [] (kw Y))(C__law_word:Dm P w K mg base (CXe P w) 1 "_law_word" ["_law_e"] (mw Y)):
  bd P w K mg base (CXe P w) 52 f fd ["_law_which","_law_sheet","_law_x","_law_y","_law_place"] (i9 K):=by
 refine F.ok jf (fun vs H Q E h =>?_) (fun cdv A outer s H vs Q E hr h =>?_)
 ·obtain⟨⟨_,_,_,_,_,_,_,_,_,_,rfl,_⟩,_⟩:=h;rfl
 obtain⟨a,q'⟩:=h;obtain⟨k,ps,pp,n,i,j,v,x,y,t,rfl,_⟩:=id a;refine⟨_,(ac (DX jf.nd (i:=5) rfl rfl rfl rfl rfl Y.m_SheetError rfl (by decide) (fun W pn R pt=>(ag (bz (As C__law_asked hr pt (aa (pv 0) (aa (pv 1) (aa (pv 2) (aa (pv 3) (aa (pv 4) af))))))))) (fun e=>(ag (av (iz dE (At C__law_word q hr.inX (aa (pv 5) af)) cm))))) (ag (av gT))),?_⟩;refine⟨a,fun H1 s1=>⟨Y.s_NoPlace,fun e he=>⟨e,rfl,⟨ah,fun H2 s2 =>?_⟩⟩⟩⟩;exact⟨rfl,q' H2 (s1.trans ((am.new he _).trans s2))⟩
abbrev fH:Stmt:=top 70
theorem iP:az ["_law_sheet","_law_place","_law_code","_law_many"] ["_law_sheet","_law_place","_law_code"] (aj fH):={}
inductive ie  (K:PySem.W.Frag)(Tb:List (Addr × Str))(vs:List V)(H:Hp)(Q:VK):Prop
 | mk (ps pp:Addr) (n i j:Nat) (v:V) (t:Tr) (q0:Sq) (h_0:vs=[.ref ps,.ref pp,sV q0.z]) (h_1:H ps=some (.tup [.int (n:Int),v])) (h_2:bu H v t) (h_3:aP n t) (h_4:n≤40) (h_5:cnt t≤1500) (h_6:H pp=some (.tup [.int (i:Int),.int (j:Int)])) (h_7:q0∈sqs [] t 0 0 n) (h_8:(q0.x≤i∧i < q0.x + q0.w∧q0.y≤j∧j < q0.y + q0.w)) (h_9:fP Tb H) (h_10:∀ H',dF Tb H H'→fP Tb H'→Q (.bl true) H'):ie K Tb vs H Q
def iM  (K:PySem.W.Frag)(Tb:List (Addr × Str)):Sp:=fun vs H Q _=>ie K Tb vs H Q
theorem mX (T:Tx K mg)(Y:Yx K mg)(q:br (CXe P w)){Tb:List (Addr × Str)}(F:aT K "_law_answered" "_law_answered" fH f fd .none)(C_rim:Fok P w K mg base (CXe P w) 46 "rim" ["sheet","x","y"] [] (rj Y))(C_steps_from:Fok P w K mg base (CXe P w) 46 "steps_from" ["sheet","x","y"] [] (fo Y))(C_rings:Fok P w K mg base (CXe P w) 50 "rings" ["sheet","x","y"] [] (jy P w Tb Y))(C_way_between:Fok P w K mg base (CXe P w) 46 "way_between" ["sheet","x","y","to_x","to_y"] [] (rh Y)):
  bd P w K mg base (CXe P w) 52 f fd ["_law_sheet","_law_place","_law_code"] (iM K Tb):=by
 refine F.ok iP (fun vs H Q E h =>?_) (fun cdv A outer s H vs Q E hr h =>?_)
 ·obtain⟨_,_,_,_,_,_,_,_,rfl,_⟩:=h;rfl
 obtain⟨ps,pp,n,i,j,v,t,q0,rfl,hps,ht,gt,hn,hc,hpp,hq0,ins,hTb,q'⟩:=h;refine⟨_,(ac (aq (i:=3) iP (ai C_rim q hr (aa (pv 0) (aa (aB aF (pv 1) ae) (aa (aB aF (pv 1) ae) af))))) (ac (aR (PW.pt (oA (ck (bS (aw (bq "int") rfl T.b_isinstance au (aa (pv 3) (aa (cQ T.b_int gE) af))))) (oA (bS (aw (bq "bool") rfl T.b_isinstance au (aa (pv 3) (aa (cQ T.b_bool xR) af)))) (lS (aG qA (pv 3) ae))))) (ag (av gT)) aE) (ac (aR (ck (bS (aw (bq "list") rfl T.b_isinstance au (aa (ai C_steps_from q hr (aa (pv 0) (aa (aB aF (pv 1) ae) (aa (aB aF (pv 1) ae) af)))) (aa (cQ T.b_list sK) af))))) (ag (av gT)) aE) (ac (aR (ck (bS (aw (bq "list") rfl T.b_isinstance au (aa (ai C_rings q hr (aa (pv 0) (aa (aB aF (pv 1) ae) (aa (aB aF (pv 1) ae) af)))) (aa (cQ T.b_list sK) af))))) (ag (av gT)) aE) (ag (av (iz (vQ hr) (ai C_way_between q hr (aa (pv 0) (aa (aB aF (pv 1) ae) (aa (aB aF (pv 1) ae) (aa (aB aF (pv 1) ae) (aa (aB aF (pv 1) ae) af)))))) (bh (ay (pv 2) aA))))))))),?_⟩
 obtain⟨_,f2,_,f4,_⟩:=dk t [] 0 0 n gt q0 hq0;have xn:i < 2 ^ n:=by lia
 have yn:j < 2 ^ n:=by lia
 refine⟨pp,_,_,_,rfl,rfl,SqT.of hpp,rfl,pp,_,_,_,rfl,rfl,SqT.of hpp,rfl,.inl ⟨ps,n,i,j,v,t,q0,rfl,hps,ht,gt,hn,hc,hq0,ins,fun A zs H1 C s1 =>?_⟩⟩;have four:4≤tH (ci (sqs [] t 0 0 n) A q0.z):=by
  obtain⟨hl0,hin0⟩:=v6 gt C hq0;refine zQ (List.ne_nil_of_mem hin0) (wc C hq0) (fun q hq=>hl0.pos q (hl0.sub q hq)) (fun q hq r hr=>hl0.apart q (hl0.sub q hq) r (hl0.sub r hr)) fun q hq r hr=>mo C.hB (hl0.sub q hq) (hl0.sub r hr)
 generalize tH (ci (sqs [] t 0 0 n) A q0.z)=N at *;refine⟨_,_,_,rfl,.int N,Bb,ap (cH ?_)⟩;refine⟨_,_,_,rfl,.int N,Bc,ap (cH ?_)⟩;refine (dj (cq (ap (bU (fun c=>absurd (show N < 4 from G6 c) (by lia)) (fun _ =>?_)))));have hpp1:=s1 _ _ hpp;refine⟨pp,_,_,_,rfl,rfl,SqT.of hpp1,rfl,pp,_,_,_,rfl,rfl,SqT.of hpp1,rfl,.inl ⟨ps,n,i,j,v,t,rfl,s1 _ _ hps,ht.up s1.tups,gt,hn,hc,xn,yn,fun l2 us2 H2 s2 u2 =>?_⟩⟩;refine⟨_,_,_,rfl,.lst u2,Ba,ap (cH ?_)⟩;have s02:=s1.trans s2;have hpp2:=s02 _ _ hpp;refine⟨pp,_,_,_,rfl,rfl,SqT.of hpp2,rfl,pp,_,_,_,rfl,rfl,SqT.of hpp2,rfl,.inl ⟨ps,n,i,j,v,t,q0,rfl,s02 _ _ hps,ht.up s02.tups,gt,hn,hc,hq0,ins,s02.tabs hTb,fun A3 zs3 ys3 l3 us3 H3 _ _ _ st3 tb3 _ u3 _ _ =>?_⟩⟩;refine⟨_,_,_,rfl,.lst u3,Ba,ap (cH ?_)⟩;have st03:=s02.toT.trans st3;have kt:bO H H3:=st03.tups hTb;have hpp3:=kt _ _ hpp;refine⟨pp,_,_,_,rfl,rfl,SqT.of hpp3,rfl,pp,_,_,_,rfl,rfl,SqT.of hpp3,rfl,pp,_,_,_,rfl,rfl,SqT.of hpp3,rfl,pp,_,_,_,rfl,rfl,SqT.of hpp3,rfl,.inl ⟨ps,n,i,j,v,t,q0,rfl,kt _ _ hps,ht.up kt,gt,hn,hc,hq0,ins,fun l4 H4 s4 u4 =>?_⟩⟩;refine⟨(leZ rfl),fun l5 hl5 =>?_⟩;have sh:SeqAt.shaped (.list [.str (txt q0.z)])=true:=by
  show ((PyData.strOk (txt q0.z) && true) && decide (max 0 0 + 1≤64))=true;rw[x9 (de (eE t [] 0 0 n gt q0 hq0)).1];rfl
 have s5:=am.new hl5 (.lst [sV q0.z]);refine⟨_,_,.lst (s5 _ _ u4) (.cons (.str _) .nil),.lst ah (.cons (.str _) .nil),sh,sh,?_⟩;have e:PyData.eqv (.list [.str (txt q0.z)]) (.list [.str (txt q0.z)])=true:=by
  show ((txt q0.z == txt q0.z) && true)=true;simp
 show Q (.bl (PyData.eqv (.list [.str (txt q0.z)]) (.list [.str (txt q0.z)]))) _;rw[e];exact q' _ (st03.trans (s4.trans s5).toT) ((s4.trans s5).tabs tb3)
end
theorem wQ (n:Nat):(1:Int) * 2 ^ ((n:Int)).toNat=((2 ^ n:Nat):Int):=by rw[HL];simp
theorem F8 {T:List (Addr × Str)}{K:PySem.W.Frag}{H H':Hp}{a:Addr}{xs:List V}(s:dF T H H')(t:fP T H)(h:SqL K H a xs):SqL K H' a xs:=by
 rcases h with (h|⟨o,h⟩)|h
 ·exact .inl (.inl (s.keep t h (by intro ps z;cases z)))
 ·exact .inl (.inr ⟨o,s.keep t h (by intro ps z;cases z)⟩)
 ·exact .inr h
section
variable {P:Program}{w:World}{K:PySem.W.Frag}{mg:Str→Option Value}{base:Heap}{CX:CXT}{f:Addr}{fd:FuncData}
abbrev kC:Stmt:=top 71
theorem bR:az ["_law_script","_law_level","_law_many","_law_tree","_law_sheet","_law_some","_law_code","_law_colour","_law_left","_law_top","_law_wide","_law_place","_law_k","_law_x","_law_y","_law_cell","_law_which","_law_turn"] ["_law_script"] (aj kC):={}
inductive xV  (K:PySem.W.Frag)(Tb:List (Addr × Str))(vs:List V)(H:Hp)(Q:VK):Prop
 | mk (a:Addr) (ns:List Int) (h_0:vs=[.ref a]) (h_1:SqL K H a (ns.map V.int)) (h_2:ns.length≤63) (h_3:fP Tb H) (h_4:∀ H',Q (.bl true) H'):xV K Tb vs H Q
def zJ  (K:PySem.W.Frag)(Tb:List (Addr × Str)):Sp:=fun vs H Q _=>xV K Tb vs H Q
theorem Ec (T:Tx K mg)(q:br (CXe P w)){Tb:List (Addr × Str)}(F:aT K "law" "law" kC f fd .none)(C__law_at:Fok P w K mg base (CXe P w) 1 "_law_at" ["_law_script","_law_k"] [] (jA K))(C__law_level_by:Fok P w K mg base (CXe P w) 1 "_law_level_by" ["_law_cell"] [] iL)(C__law_tree_by:Fok P w K mg base (CXe P w) 43 "_law_tree_by" ["_law_script","_law_first","_law_level","_law_many"] [] (i8 K))(C__law_squares:Fok P w K mg base (CXe P w) 42 "_law_squares" ["_law_tree","_law_code","_law_x","_law_y","_law_wide"] [] (fq 41))(C__law_mix:Fok P w K mg base (CXe P w) 1 "_law_mix" ["_law_cell","_law_k"] [] fv)
  (C__law_answered:Fok P w K mg base (CXe P w) 52 "_law_answered" ["_law_sheet","_law_place","_law_code"] [] (iM K Tb)) (C__law_odd:Fok P w K mg base (CXe P w) 1 "_law_odd" ["_law_cell","_law_wide"] [] (oh K)) (C__law_refused:Fok P w K mg base (CXe P w) 52 "_law_refused" ["_law_which","_law_sheet","_law_x","_law_y","_law_place"] [] (i9 K)) :
  bd P w K mg base (CXe P w) 53 f fd ["_law_script"] (zJ K Tb):=by
 refine F.ok bR (fun vs H Q E h =>?_) (fun cdv A outer s H vs Q E hr h =>?_)
 ·obtain⟨_,_,rfl,_⟩:=h;rfl
 obtain⟨a,ns,rfl,hS,h63,hTb,q'⟩:=h;refine⟨_,(ac (aq (i:=1) bR (ai C__law_level_by q hr (aa (ai C__law_at q hr (aa (pv 0) (aa ae af))) af))) (ac (aq (i:=2) bR (aw (gZ rfl) rfl T.b_min pR (aa (ak aM (ai C__law_at q hr (aa (pv 0) (aa ae af))) ae) (aa (ak gB (ak gB ae (ak bG ae (bA mf rfl T.b_int gE (aa (iz oJ (pv 1) ae) af)))) (bA mf rfl T.b_int gE (aa (iz oJ (pv 1) ae) af))) af)))) (ac (aq (i:=3) bR (ai C__law_tree_by q hr (aa (pv 0) (aa ae (aa (pv 1) (aa (pv 2) af)))))) (ac (aq (i:=4) bR (aL (ay (pv 1) (ay (pv 3) aA)))) (ac (aq (i:=5) bR (ai C__law_squares q hr (aa (pv 3) (aa cm (aa ae (aa ae (aa (ak vP ae (pv 1)) af))))))) (ac (vL (aB bc (pv 5) (ak aM (ai C__law_mix q hr (aa (ai C__law_at q hr (aa (pv 0) (aa ae af))) (aa ae af))) (aw bX rfl T.b_len dM (aa (pv 5) af)))) (j8 rfl (bw (bj (i:=6) bR) (bw (bj (i:=7) bR) (bw (bj (i:=8) bR) (bw (bj (i:=9) bR) (bw (bj (i:=10) bR) iw))))))) (ac (aq (i:=11) bR (aL (ay (ak aK (pv 8) (ak aM (ai C__law_mix q hr (aa (ai C__law_at q hr (aa (pv 0) (aa ae af))) (aa ae af))) (pv 10))) (ay (ak aK (pv 9) (ak aM (ai C__law_mix q hr (aa (ai C__law_at q hr (aa (pv 0) (aa ae af))) (aa ae af))) (pv 10))) aA)))) (ac (aR (ck (bS (ai C__law_answered q hr (aa (pv 4) (aa (pv 11) (aa (pv 6) af)))))) (ag (av gT)) aE) (ac (bg Hd rfl (bT rfl T.b_range (aa ae af)) (bj (i:=12) bR) (ac (aq (i:=13) bR (aB aF (pv 11) ae)) (ac (aq (i:=14) bR (aB aF (pv 11) ae)) (ac (aq (i:=15) bR (ak aK (ai C__law_at q hr (aa (pv 0) (aa (ak aK ae (pv 12)) af))) (pv 12))) (ac (rG (aR (aG qz (ak aM (pv 15) ae) ae) (ag (aq (i:=13) bR (ai C__law_odd q hr (aa (ak a_ (pv 15) ae) (aa (ak vP ae (pv 1)) af))))) aE)) (ac (rG (aR (aG oJ (ak aM (pv 15) ae) ae) (ag (aq (i:=14) bR (ai C__law_odd q hr (aa (ak a_ (pv 15) ae) (aa (ak vP ae (pv 1)) af))))) aE)) (ac (aq (i:=16) bR (ak aM (ak aK (pv 12) (ai C__law_at q hr (aa (pv 0) (aa ae af)))) ae)) (ag (bg Hd rfl (bT rfl T.b_range (aa ae af)) (bj (i:=17) bR) (ag (aR (ck (bS (ai C__law_refused q hr (aa (pv 16) (aa (pv 4) (aa (pv 13) (aa (pv 14) (aa (pv 11) af)))))))) (ag (av gT)) aE))))))))))) (ag (av (ai C__law_answered q hr (aa (pv 4) (aa (pv 11) (aa (pv 6) af))))))))))))))),?_⟩;refine⟨a,ns,0,rfl,hS,h63,cell ns 0,rfl,fun n hn =>?_⟩;obtain⟨many,hmany,em⟩:∃ m:Nat,m≤12∧(if (8 - 7 * (if decide ((n:Int) > 4)=true then (1:Int) else 0) - if decide ((n:Int) > 12)=true then (1:Int) else 0) < cell ns 2 % 9 then (8 - 7 * (if decide ((n:Int) > 4)=true then (1:Int) else 0) - if decide ((n:Int) > 12)=true then (1:Int) else 0) else cell ns 2 % 9)=(m:Int):=by
  have h1:(n:Int) > 12→(n:Int) > 4:=by lia
  have h2:0≤cell ns 2 % 9∧cell ns 2 % 9 < 9:=by lia
  by_cases c1:(n:Int) > 4<;>by_cases c2:(n:Int) > 12
  ·rw[GH c1,GH c2];exact⟨0,by decide,by simp only[if_true];split<;>lia⟩
  ·rw[GH c1,Hb c2];exact⟨(min 1 (cell ns 2 % 9)).toNat,by lia,by simp only[if_true,GA,if_false];split<;>lia⟩
  ·exact absurd (h1 c2) c1
  ·rw[Hb c1,Hb c2];exact⟨(cell ns 2 % 9).toNat,by lia,by simp only[GA,if_false];split<;>lia⟩
 refine⟨a,ns,2,rfl,hS,h63,(by show (0:Int) < 9;decide),?_⟩;refine (Or.inr ⟨_,rfl,.inl ⟨by decide,by decide⟩,.inr ⟨_,rfl,_,_,rfl,?_⟩⟩);refine⟨a,ns,4,n,many,Hn (fun z=>[V.ref a,V.int 4,V.int (n:Int),V.int z]) em,hS,h63,by simp,hn,hmany,fun v t H1 s1 ht gt ct =>?_⟩;refine⟨(leZ rfl),nw fun ps H2 hps s2 u2 =>?_⟩;have cpow:E2 1 (n:Int):=⟨by simp,by lia,by decide⟩;have d0:dig ("" : Str)=[]:=by decide +kernel
 have l0:("" : Str).length=0:=by decide +kernel
 refine⟨cpow,v,t,("" : Str),n,0,0,(by rw[← wQ];rfl),ht.up s2.tups,gt,gX▸IsC.nil,by lia,by lia,by decide,by lia,fun l us H3 s3 hl u3 hus =>?_⟩
 rw[d0]at hus;have lus:=hus.len;have lc:=b_ t [] 0 0 n;have cp:=xQ t;obtain⟨L,eL⟩:∃ L,L=sqs [] t 0 0 n:=⟨_,rfl⟩;rw[← eL]at hus lus lc;have s03:=s1.trans (s2.trans s3);have hS3:=s03.seq hS;refine⟨a,ns,3,rfl,hS3,h63,cell ns 3,5,rfl,by simp,fun m hm =>?_⟩;have pl:0 < us.length:=by lia
 obtain⟨u1,hu1⟩:∃ u1,us[m % us.length]? = some u1:=⟨_,G0 (JO _ pl)⟩;obtain⟨q1,eq1,p1,rfl,hp1,hw1⟩:=hus.get hu1;have hq1:q1∈L:=GW eq1;refine⟨_,_,rfl,.inl ⟨_,SqL.of u3,rfl⟩,(by show (0:Int) < ((us.length:Nat):Int);lia),l,_,_,_,rfl,rfl,SqL.of u3,dB hu1,?_⟩;have ht3:=ht.up (s2.trans s3).tups;have hps3:=s3 _ _ u2;refine⟨p1,_,rfl,SqT.of hp1,rfl,_,_,rfl,_,_,rfl,_,_,rfl,_,_,rfl,_,_,rfl,rfl,?_⟩;refine⟨a,ns,3,rfl,hS3,h63,cell ns 3,6,rfl,by simp,fun m6 hm6=>⟨(by show (0:Int) < ((q1.w:Nat):Int);lia),?_⟩⟩;refine⟨a,ns,3,rfl,hS3,h63,cell ns 3,7,rfl,by simp,fun m7 hm7=>⟨(by show (0:Int) < ((q1.w:Nat):Int);lia),(leZ rfl),fun pp hpp =>?_⟩⟩;obtain⟨i,ei,hi⟩:∃ i:Nat,(q1.x:Int) + (m6:Int) % (q1.w:Int)=(i:Int)∧q1.x≤i∧i < q1.x + q1.w:=⟨q1.x + m6 % q1.w,by simp,Jh _ _,Jt (JO _ hw1) _⟩;obtain⟨j,ej,hj⟩:∃ j:Nat,(q1.y:Int) + (m7:Int) % (q1.w:Int)=(j:Int)∧q1.y≤j∧j < q1.y + q1.w:=⟨q1.y + m7 % q1.w,by simp,Jh _ _,Jt (JO _ hw1) _⟩;have s4:=am.new hpp (.tup [.int (i:Int),.int (j:Int)]);have u4:upd H3 pp (.tup [.int (i:Int),.int (j:Int)]) pp=some (.tup [.int (i:Int),.int (j:Int)]):=ah;have e4:upd H3 pp (.tup [.int ((q1.x:Int) + (m6:Int) % (q1.w:Int)),.int ((q1.y:Int) + (m7:Int) % (q1.w:Int))])=upd H3 pp (.tup [.int (i:Int),.int (j:Int)]):=by rw[ei,ej]
 dsimp only;rw[e4];generalize upd H3 pp (.tup [.int (i:Int),.int (j:Int)])=H4 at *;have ins:q1.x≤i∧i < q1.x + q1.w∧q1.y≤j∧j < q1.y + q1.w:=⟨hi.1,hi.2,hj.1,hj.2⟩;have tb4:=(s03.trans s4).tabs hTb;have ht4:=ht3.up s4.tups;have hps4:=s4 _ _ hps3;rw[eL]at hq1;refine⟨ps,pp,n,i,j,v,t,q1,rfl,hps4,ht4,gt,hn,by lia,u4,hq1,ins,tb4,fun H5 st5 tb5=>(ap (cH ?_))⟩;have t45:=st5.tups tb4;have ht5:=ht4.up t45;have hps5:=t45 _ _ hps4;have u5:=t45 _ _ u4;have hS5:=F8 st5 tb4 (s4.seq hS3);obtain⟨_,f2,_,f4,_⟩:=dk t [] 0 0 n gt q1 hq1;have xn:i < 2 ^ n:=by lia
 have yn:j < 2 ^ n:=by lia
 refine⟨_,rfl,by decide,by decide,bV (fun (k:Nat) σ H6=>am H5 H6∧∃ o2 o5 o7 o8 o9 o10 o12 o13 o14 o15 o16 o17:Option V,σ=[some (.ref a),some (.int (n:Int)),o2,some v,some (.ref ps),o5,some (sV q1.z),o7,o8,o9,o10,some (.ref pp),o12,o13,o14,o15,o16,o17]) ⟨am.refl _,_,_,_,_,_,_,_,_,_,_,_,_,rfl⟩ ?_ ?_⟩
 rotate_left
 ·rintro σ H6 ⟨s6,o2,o5,o7,o8,o9,o10,o12,o13,o14,o15,o16,o17,rfl⟩;exact⟨ps,pp,n,i,j,v,t,q1,rfl,s6 _ _ hps5,ht5.up s6.tups,gt,hn,by lia,s6 _ _ u5,hq1,ins,s6.tabs tb5,fun H7 _ _=>q' H7⟩
 rintro k σ H6 hk ⟨s6,o2,o5,o7,o8,o9,o10,o12,o13,o14,o15,o16,o17,rfl⟩;have hk5:k < 5:=hk;rw[show (0:Int) + (k:Int)=(k:Int) from Jf _];have u6:=s6 _ _ u5;have hS6:=s6.seq hS5;refine⟨pp,_,_,_,rfl,rfl,SqT.of u6,rfl,?_⟩;refine⟨pp,_,_,_,rfl,rfl,SqT.of u6,rfl,?_⟩;refine⟨a,ns,12 + k,(by show [V.ref a,V.int ((12:Int) + (k:Int))]=[V.ref a,V.int ((12 + k:Nat):Int)];rw[show (12:Int) + (k:Int)=((12 + k:Nat):Int) by lia]),hS6,h63,dj (cq ?_)⟩;dsimp only;generalize cell ns (12 + k) + (k:Int)=c at *;have px:(1:Int) * 2 ^ ((n:Int)).toNat=((2 ^ n:Nat):Int):=wQ n;refine⟨fun σ H7=>am H6 H7∧∃ x:V,((c % 3≠1∧fg K H7 n x)∨(c % 3=1∧x=.int (i:Int)))∧σ=[some (.ref a),some (.int (n:Int)),o2,some v,some (.ref ps),o5,some (sV q1.z),o7,o8,o9,o10,some (.ref pp),some (.int (k:Int)),some x,some (.int (j:Int)),some (.int c),o16,o17],?_,?_⟩
 ·refine⟨(by show (0:Int) < 3;decide),rfl,ap (bU (fun c1 =>?_) (fun c1 =>?_))⟩
  ·have c2:c % 3≠1:=fun e=>by
    have c1':(!decide (V.int (c % 3)=V.int 1))=true:=c1;rw[e,GH rfl]at c1';cases c1'
   exact⟨cK (by decide) (by decide),cpow,c / 3,n,Hn (fun z=>[V.int (c / 3),V.int z]) px,fun x H7 s7 bx=>⟨s7,x,.inl ⟨c2,bx⟩,rfl⟩⟩
  ·have c2:c % 3=1:=Classical.byContradiction fun e=>c1 (by
    show (!decide (V.int (c % 3)=V.int 1))=true;rw[Hb fun z=>e (V.int.inj z)];rfl)
   exact⟨am.refl _,_,.inr ⟨c2,rfl⟩,rfl⟩
 rintro σ H7 ⟨s7,x,hx,rfl⟩;refine⟨fun σ H8=>am H7 H8∧∃ y:V,(c % 3=1→fg K H8 n y)∧σ=[some (.ref a),some (.int (n:Int)),o2,some v,some (.ref ps),o5,some (sV q1.z),o7,o8,o9,o10,some (.ref pp),some (.int (k:Int)),some x,some y,some (.int c),o16,o17],?_,?_⟩
 ·refine⟨(by show (0:Int) < 3;decide),cq (ap (bU (fun c1 =>?_) (fun c1 =>?_)))⟩
  ·exact⟨cK (by decide) (by decide),cpow,c / 7,n,Hn (fun z=>[V.int (c / 7),V.int z]) px,fun y H8 s8 bx=>⟨s8,y,fun _=>bx,rfl⟩⟩
  ·refine⟨am.refl _,_,fun e=>absurd (GH (show (0:Int) < c % 3 by lia)) c1,rfl⟩
 rintro σ H8 ⟨s8,y,hy,rfl⟩;have s68:=s7.trans s8;have s58:=s6.trans s68;obtain⟨wh,hwh,ewh⟩:∃ wh:Nat,wh < 5∧((k:Int) + cell ns 3) % 5=(wh:Int):=⟨(((k:Int) + cell ns 3) % 5).toNat,by lia,by lia⟩;refine⟨a,ns,3,rfl,s58.seq hS5,h63,(by show (0:Int) < 5;decide),?_⟩;dsimp only;rw[ewh];have bp:fg K H8 n x∨(iX n x∧fg K H8 n y):=by
  rcases hx with⟨_,bx⟩|⟨c1,rfl⟩
  ·exact .inl (bx.up s8)
  ·exact .inr ⟨⟨(i:Int),rfl,by lia,by lia⟩,hy c1⟩
 refine⟨_,rfl,by decide,by decide,bV (fun (m:Nat) σ H9=>am H8 H9∧∃ o17:Option V,σ=[some (.ref a),some (.int (n:Int)),o2,some v,some (.ref ps),o5,some (sV q1.z),o7,o8,o9,o10,some (.ref pp),some (.int (k:Int)),some x,some y,some (.int c),some (.int (wh:Int)),o17]) ⟨am.refl _,_,rfl⟩ ?_ ?_⟩
 ·rintro m σ H9 hm ⟨s9,o17,rfl⟩;have s59:=s58.trans s9;refine⟨⟨wh,ps,pp,n,i,j,v,x,y,t,rfl,hwh,s59 _ _ hps5,ht5.up s59.tups,gt,hn,s59 _ _ u5,xn,yn,bp.imp (·.up s9) fun h=>⟨h.1,h.2.up s9⟩⟩,fun H10 s10=>(ap (cH ⟨s9.trans s10,_,rfl⟩))⟩
 ·rintro σ H9 ⟨s9,o17,rfl⟩;exact⟨s58.trans s9,_,_,_,_,_,_,_,_,_,_,_,_,rfl⟩
end
theorem kd4 {P:Program}{w:World}{K:PySem.W.Frag}{aC p0 p1 p2 p3:Addr}{dk0 dk1 dk2 dk3:Tok}{nC:Nat}(y:K.lookup aC=some ⟨.type "dict",none,.dict #[⟨PyData.keyHash w.params "up",.str "up" dk0,.ref p0⟩,⟨PyData.keyHash w.params "right",.str "right" dk1,.ref p1⟩,⟨PyData.keyHash w.params "down",.str "down" dk2,.ref p2⟩,⟨PyData.keyHash w.params "left",.str "left" dk3,.ref p3⟩] nC,#[]⟩):
  KD P w K aC [(.inr "up",.ref p0),(.inr "right",.ref p1),(.inr "down",.ref p2),(.inr "left",.ref p3)]:=by
 refine⟨_,[(.inr "up",.ref p0),(.inr "right",.ref p1),(.inr "down",.ref p2),(.inr "left",.ref p3)],y,.cons ⟨rfl,rfl⟩ (.cons ⟨rfl,rfl⟩ (.cons ⟨rfl,rfl⟩ (.cons ⟨rfl,rfl⟩ .nil))),_,_,⟨rfl,rfl,rfl⟩,rfl,fun e he =>?_,.cons (fO ⟨_,rfl⟩) rfl (.cons (fO ⟨_,rfl⟩) rfl (.cons (fO ⟨_,rfl⟩) rfl (.cons (fO ⟨_,rfl⟩) rfl .nil))),(by show ([.inr "up",.inr "right",.inr "down",.inr "left"]:List Key).Nodup;decide +kernel)⟩
 simp only[List.mem_toArray,GU,List.not_mem_nil,or_false]at he;rcases he with rfl | rfl | rfl | rfl
 ·exact⟨.inr "up",fO ⟨_,rfl⟩,rfl⟩
 ·exact⟨.inr "right",fO ⟨_,rfl⟩,rfl⟩
 ·exact⟨.inr "down",fO ⟨_,rfl⟩,rfl⟩
 ·exact⟨.inr "left",fO ⟨_,rfl⟩,rfl⟩
theorem fM {us:List Value}{n:Nat}(h:us.length=n + 1):∃ a t,us=a::t∧t.length=n:=by
 cases us with
 | nil=>cases h
 | cons a t=>exact⟨a,t,rfl,Nat.succ.inj h⟩
theorem Fz {us:List Value}(h:us.length=1):∃ a,us=[a]:=by
 obtain⟨a,u0,e0,h⟩:=fM h;have e:=Hl h;subst e;subst e0;exact⟨a,rfl⟩
theorem Dw {us:List Value}(h:us.length=2):∃ a b,us=[a,b]:=by
 obtain⟨a,u0,e0,h⟩:=fM h;obtain⟨b,u1,e1,h⟩:=fM h;have e:=Hl h;subst e;subst e1;subst e0;exact⟨a,b,rfl⟩
theorem Dv {us:List Value}(h:us.length=3):∃ a b c,us=[a,b,c]:=by
 obtain⟨a,u0,e0,h⟩:=fM h;obtain⟨b,u1,e1,h⟩:=fM h;obtain⟨c,u2,e2,h⟩:=fM h;have e:=Hl h;subst e;subst e2;subst e1;subst e0;exact⟨a,b,c,rfl⟩
theorem Fy {us:List Value}(h:us.length=4):∃ a b c d,us=[a,b,c,d]:=by
 obtain⟨a,u0,e0,h⟩:=fM h;obtain⟨b,u1,e1,h⟩:=fM h;obtain⟨c,u2,e2,h⟩:=fM h;obtain⟨d,u3,e3,h⟩:=fM h;have e:=Hl h;subst e;subst e3;subst e2;subst e1;subst e0;exact⟨a,b,c,d,rfl⟩
theorem Fx {us:List Value}(h:us.length=5):∃ a b c d e,us=[a,b,c,d,e]:=by
 obtain⟨a,u0,e0,h⟩:=fM h;obtain⟨b,u1,e1,h⟩:=fM h;obtain⟨c,u2,e2,h⟩:=fM h;obtain⟨d,u3,e3,h⟩:=fM h;obtain⟨e,u4,e4,h⟩:=fM h;have e:=Hl h;subst e;subst e4;subst e3;subst e2;subst e1;subst e0;exact⟨a,b,c,d,e,rfl⟩
theorem Gf {us:List Value}{d:Value}(h:(us++[d]).length=2):∃ a,us=[a]:=by
 match us,h with
 | [a],_=>exact⟨a,rfl⟩
 | [],h=>simp at h
 | _::_::_,h=>simp at h
structure Df (K:PySem.W.Frag)(x:Str)(st:Stmt)(f:Addr)(fd:FuncData):Prop where
 F:aT K x x st f fd .none
 a:PySem.W.nsIn K mainGlobals x=some (some (.ref f))
theorem df {K:PySem.W.Frag}{x:Str}{st:Stmt}{f:Addr}{oc:Value}{od an:Option Addr}{osl:Array (Option Value)}{kV doc pm cdv ct:Value}(a:PySem.W.nsIn K mainGlobals x=some (some (.ref f)))(l:K.lookup f=some ⟨oc,od,.func (PySem.W.fnOf x x (bH st) (aY st) (aj st) .none kV doc pm an cdv ct),osl⟩)
  (c:PySem.W.codeIn K cdv x=true) (k:PySem.W.keepIn K (.ref f)=true):Df K x st f (PySem.W.fnOf x x (bH st) (aY st) (aj st) .none kV doc pm an cdv ct):=⟨nM l c k,a⟩
theorem bd1 {K:PySem.W.Frag}{x q:Str}{st:Stmt}{f:Addr}{fd:FuncData}{dV:Value}{p0:Str}(F:aT K x q st f fd dV)(h:∀ (kV doc pm:Value) (an:Option Addr) (cdv ct:Value) (a:Value),bindArgs (PySem.W.fnOf x q (bH st) (aY st) (aj st) dV kV doc pm an cdv ct) ⟨[a],[]⟩=pure [(p0,a)]:=by intros;rfl):cL K fd [p0] []:=F.binds fun _ _ _ _ _ _ us hl=>by
 obtain⟨a,rfl⟩:=Fz hl;exact h _ _ _ _ _ _ _ 
theorem bd2 {K:PySem.W.Frag}{x q:Str}{st:Stmt}{f:Addr}{fd:FuncData}{dV:Value}{p0 p1:Str}(F:aT K x q st f fd dV)(h:∀ (kV doc pm:Value) (an:Option Addr) (cdv ct:Value) (a b:Value),bindArgs (PySem.W.fnOf x q (bH st) (aY st) (aj st) dV kV doc pm an cdv ct) ⟨[a,b],[]⟩=pure [(p0,a),(p1,b)]:=by intros;rfl):cL K fd [p0,p1] []:=F.binds fun _ _ _ _ _ _ us hl=>by
 obtain⟨a,b,rfl⟩:=Dw hl;exact h _ _ _ _ _ _ _ _ 
theorem bd3 {K:PySem.W.Frag}{x q:Str}{st:Stmt}{f:Addr}{fd:FuncData}{dV:Value}{p0 p1 p2:Str}(F:aT K x q st f fd dV)(h:∀ (kV doc pm:Value) (an:Option Addr) (cdv ct:Value) (a b c:Value),bindArgs (PySem.W.fnOf x q (bH st) (aY st) (aj st) dV kV doc pm an cdv ct) ⟨[a,b,c],[]⟩=pure [(p0,a),(p1,b),(p2,c)]:=by intros;rfl):cL K fd [p0,p1,p2] []:=F.binds fun _ _ _ _ _ _ us hl=>by
 obtain⟨a,b,c,rfl⟩:=Dv hl;exact h _ _ _ _ _ _ _ _ _ 
theorem bd4 {K:PySem.W.Frag}{x q:Str}{st:Stmt}{f:Addr}{fd:FuncData}{dV:Value}{p0 p1 p2 p3:Str}(F:aT K x q st f fd dV)(h:∀ (kV doc pm:Value) (an:Option Addr) (cdv ct:Value) (a b c d:Value),bindArgs (PySem.W.fnOf x q (bH st) (aY st) (aj st) dV kV doc pm an cdv ct) ⟨[a,b,c,d],[]⟩=pure [(p0,a),(p1,b),(p2,c),(p3,d)]:=by intros;rfl):cL K fd [p0,p1,p2,p3] []:=F.binds fun _ _ _ _ _ _ us hl=>by
 obtain⟨a,b,c,d,rfl⟩:=Fy hl;exact h _ _ _ _ _ _ _ _ _ _ 
theorem bd5 {K:PySem.W.Frag}{x q:Str}{st:Stmt}{f:Addr}{fd:FuncData}{dV:Value}{p0 p1 p2 p3 p4:Str}(F:aT K x q st f fd dV)(h:∀ (kV doc pm:Value) (an:Option Addr) (cdv ct:Value) (a b c d e:Value),bindArgs (PySem.W.fnOf x q (bH st) (aY st) (aj st) dV kV doc pm an cdv ct) ⟨[a,b,c,d,e],[]⟩=pure [(p0,a),(p1,b),(p2,c),(p3,d),(p4,e)]:=by intros;rfl):cL K fd [p0,p1,p2,p3,p4] []:=F.binds fun _ _ _ _ _ _ us hl=>by
 obtain⟨a,b,c,d,e,rfl⟩:=Fx hl;exact h _ _ _ _ _ _ _ _ _ _ _ 
theorem EU {l:PySem.W.OpenLaw}{w:World}{K:PySem.W.Frag}{h:Heap}{mg:Str→Option Value}{fa f0 f1 f2 f3 f4 f5 f6 f7 f8 f9 f10 f11 f12 f13 f14 f15 f16 f17 f18 f19 f20 f21 f22 f23 f24 f25 f26 f27 f28 f29 f30 f31 f32 f33 f34 f35 f36 f37 f38 f39 f40 f41 f42 f43 f44 f45:Addr}{g0 g1 g2 g3 g4 g5 g6 g8 g9 g10 g11 g12 g13 g14 g15 g16 g17 g18 g19 g20 g21 g22 g23 g24 g25 g26 g27 g28 g29 g31 g32 g33 g34 g35 g36 g37 g38 g39 g40 g41 g42 g43 g44:FuncData}(X:K.In h)(G:h.Ns mainGlobals mg)(hfa:mg "law" = some (.ref fa))
  {od7 an7 od30 an30 od45 an45:Option Addr} {sl7 sl30 sl45:Array (Option Value)} {oc7 kV7 dc7 pm7 cd7 ct7 oc30 kV30 dc30 pm30 cd30 ct30 oc45 kV45 dc45 pm45 cd45 ct45:Value}
  {dt7:Addr} {do7:Option Addr} {dn7:Nat} {dsl7:Array (Option Value)} {dk7:Tok}
  (d_0:Df K "is_side" lJ f0 g0)
  (d_1:Df K "is_code" lK f1 g1)
  (d_2:Df K "need_code" ji f2 g2)
  (d_3:Df K "need_side" jh f3 g3)
  (d_4:Df K "beside" ou f4 g4)
  (d_5:Df K "is_whole" j6 f5 g5)
  (d_6:Df K "is_level" j7 f6 g6)
  (a7:PySem.W.nsIn K mainGlobals "need_level" = some (some (.ref f7))) (l7:K.lookup f7=some ⟨oc7,od7,.func (PySem.W.fnOf "need_level" "need_level" (bH cN) (aY cN) (aj cN) (.ref dt7) kV7 dc7 pm7 an7 cd7 ct7),sl7⟩) (c7:PySem.W.codeIn K cd7 "need_level" = true) (k7:PySem.W.keepIn K (.ref f7)=true)
  (d7:K.lookup dt7=some ⟨.type "tuple",do7,.seq #[.int 0 dk7] dn7,dsl7⟩)
  (d_8:Df K "width_of" jX f8 g8)
  (d_9:Df K "need_place" io f9 g9)
  (d_10:Df K "code_at" lN f10 g10)
  (d_11:Df K "corner" oo f11 g11)
  (d_12:Df K "overlap" lE f12 g12)
  (d_13:Df K "common" ot f13 g13)
  (d_14:Df K "leaves_below" fE f14 g14)
  (d_15:Df K "leaves" om f15 g15)
  (d_16:Df K "leaves_along" fF f16 g16)
  (d_17:Df K "beyond_leaf" gw f17 g17)
  (d_18:Df K "touches" lC f18 g18)
  (d_19:Df K "leaf_at" lF f19 g19)
  (d_20:Df K "alike_around" fJ f20 g20)
  (d_21:Df K "members_from" fD f21 g21)
  (d_22:Df K "rim" zN f22 g22)
  (d_23:Df K "steps_from" ik f23 g23)
  (d_24:Df K "way_between" gi f24 g24)
  (d_25:Df K "bare_parts" ip f25 g25)
  (d_26:Df K "ends_of_part" fI f26 g26)
  (d_27:Df K "pieces_round" fB f27 g27)
  (d_28:Df K "piece_behind" fC f28 g28)
  (d_29:Df K "ring_from" jg f29 g29)
  (a30:PySem.W.nsIn K mainGlobals "rings" = some (some (.ref f30))) (l30:K.lookup f30=some ⟨oc30,od30,.func (PySem.W.fnOf "rings" "rings" (bH im) (aY im) (aj im) .none kV30 dc30 pm30 an30 cd30 ct30),sl30⟩) (c30:PySem.W.codeIn K cd30 "rings" = true) (k30:PySem.W.keepIn K (.ref f30)=true)
  (d_31:Df K "_law_at" on f31 g31)
  (d_32:Df K "_law_mix" lI f32 g32)
  (d_33:Df K "_law_level_by" fG f33 g33)
  (d_34:Df K "_law_code_by" gr f34 g34)
  (d_35:Df K "_law_colour_by" eI f35 g35)
  (d_36:Df K "_law_four" jZ f36 g36)
  (d_37:Df K "_law_painted" gp f37 g37)
  (d_38:Df K "_law_tree_by" gj f38 g38)
  (d_39:Df K "_law_squares" gm f39 g39)
  (d_40:Df K "_law_word" jY f40 g40)
  (d_41:Df K "_law_odd" lH f41 g41)
  (d_42:Df K "_law_asked" jj f42 g42)
  (d_43:Df K "_law_refused" gn f43 g43)
  (d_44:Df K "_law_answered" fH f44 g44)
  (a45:PySem.W.nsIn K mainGlobals "law" = some (some (.ref f45))) (l45:K.lookup f45=some ⟨oc45,od45,.func (PySem.W.fnOf "law" "law" (bH kC) (aY kC) (aj kC) .none kV45 dc45 pm45 an45 cd45 ct45),sl45⟩) (c45:PySem.W.codeIn K cd45 "law" = true) (k45:PySem.W.keepIn K (.ref f45)=true)
  (z0:PySem.W.nsIn K mainGlobals "isinstance" = some none)
  (z1:PySem.W.nsIn K mainGlobals "int" = some none)
  (z2:PySem.W.nsIn K mainGlobals "bool" = some none)
  {zt3:Tok} (z3:PySem.W.nsIn K mainGlobals "MOST" = some (some (.int 40 zt3)))
  (z4:PySem.W.nsIn K mainGlobals "all" = some none)
  (z5:PySem.W.nsIn K mainGlobals "str" = some none)
  (z6:PySem.W.nsIn K mainGlobals "len" = some none)
  {zt7:Tok} (z7:PySem.W.nsIn K mainGlobals "QUARTERS" = some (some (.str "0123" zt7)))
  (z8:PySem.W.nsIn K mainGlobals "range" = some none)
  (z9:PySem.W.nsIn K mainGlobals "min" = some none)
  (z10:PySem.W.nsIn K mainGlobals "max" = some none)
  (z11:PySem.W.nsIn K mainGlobals "tuple" = some none)
  (z12:PySem.W.nsIn K mainGlobals "sorted" = some none)
  (z13:PySem.W.nsIn K mainGlobals "dict" = some none)
  (z14:PySem.W.nsIn K mainGlobals "list" = some none)
  (z15:PySem.W.nsIn K mainGlobals "ValueError" = some none)
  {aS aC p0 p1 p2 p3:Addr} {oS r0 r1 r2 r3:Option Addr} {ts0 ts1 ts2 ts3 dk0 dk1 dk2 dk3:Tok} {nC nS:Nat} {slS:Array (Option Value)}
  (u0:PySem.W.nsIn K mainGlobals "SIDES" = some (some (.ref aS))) (u1:K.lookup aS=some ⟨.type "tuple",oS,.seq #[.str "up" ts0,.str "right" ts1,.str "down" ts2,.str "left" ts3] nS,slS⟩)
  (u2:PySem.W.nsIn K mainGlobals "CROSSINGS" = some (some (.ref aC))) (u3:K.lookup aC=some ⟨.type "dict",none,.dict #[⟨PyData.keyHash w.params "up",.str "up" dk0,.ref p0⟩,⟨PyData.keyHash w.params "right",.str "right" dk1,.ref p1⟩,⟨PyData.keyHash w.params "down",.str "down" dk2,.ref p2⟩,⟨PyData.keyHash w.params "left",.str "left" dk3,.ref p3⟩] nC,#[]⟩)
  {ta0 tb0:Tok} {nn0:Nat} {sk0:Array (Option Value)} (u4:K.lookup p0=some ⟨.type "tuple",r0,.seq #[.str "2301" ta0,.str "23" tb0] nn0,sk0⟩)
  {ta1 tb1:Tok} {nn1:Nat} {sk1:Array (Option Value)} (u5:K.lookup p1=some ⟨.type "tuple",r1,.seq #[.str "1032" ta1,.str "02" tb1] nn1,sk1⟩)
  {ta2 tb2:Tok} {nn2:Nat} {sk2:Array (Option Value)} (u6:K.lookup p2=some ⟨.type "tuple",r2,.seq #[.str "2301" ta2,.str "01" tb2] nn2,sk2⟩)
  {ta3 tb3:Tok} {nn3:Nat} {sk3:Array (Option Value)} (u7:K.lookup p3=some ⟨.type "tuple",r3,.seq #[.str "1032" ta3,.str "13" tb3] nn3,sk3⟩)
  {cNoLevel cNoCode cNoColour cNoPlace cNoSide cNoLeaf cTwice cGap cNoText cNoName cNoNumber cNoRow cSheetError:Addr}
  (y0:PySem.W.nsIn K mainGlobals "NoLevel" = some (some (.ref cNoLevel)))
  (y1:PySem.W.nsIn K mainGlobals "NoCode" = some (some (.ref cNoCode)))
  (y2:PySem.W.nsIn K mainGlobals "NoColour" = some (some (.ref cNoColour)))
  (y3:PySem.W.nsIn K mainGlobals "NoPlace" = some (some (.ref cNoPlace)))
  (y4:PySem.W.nsIn K mainGlobals "NoSide" = some (some (.ref cNoSide)))
  (y5:PySem.W.nsIn K mainGlobals "NoLeaf" = some (some (.ref cNoLeaf)))
  (y6:PySem.W.nsIn K mainGlobals "Twice" = some (some (.ref cTwice)))
  (y7:PySem.W.nsIn K mainGlobals "Gap" = some (some (.ref cGap)))
  (y8:PySem.W.nsIn K mainGlobals "NoText" = some (some (.ref cNoText)))
  (y9:PySem.W.nsIn K mainGlobals "NoName" = some (some (.ref cNoName)))
  (y10:PySem.W.nsIn K mainGlobals "NoNumber" = some (some (.ref cNoNumber)))
  (y11:PySem.W.nsIn K mainGlobals "NoRow" = some (some (.ref cNoRow)))
  (y12:PySem.W.nsIn K mainGlobals "SheetError" = some (some (.ref cSheetError)))
  (y13:PySem.W.excIn K cNoSide bmV "ValueError.__new__" = true)
  (y14:PySem.W.findIn K (.ref cNoSide) "__getattribute__" = some (some (.builtin "BaseException.__getattribute__")))
  (y15:PySem.W.findIn K (.ref cNoSide) "__getattr__" = some none)
  (y16:PySem.W.findIn K (.ref cNoSide) "__class__" = some (some (.builtin "object.__class__")))
  (y17:PySem.W.subIn K (.ref cNoSide) (.type "object")=some true)
  (y18:PySem.W.subIn K (.ref cNoSide) (.type "BaseException")=some true)
  {cdNoSide:ClassData}
  (y19:PySem.W.clsIn K cNoSide=some cdNoSide)
  (y20:PySem.W.exmOne K (.ref cNoSide) (.ref cSheetError)=some true)
  (y21:PySem.W.kitOne K (.ref cNoSide) (.type "ValueError")=some true)
  (y22:PySem.W.kitOne K (.ref cNoSide) (.ref cNoLevel)=some false)
  (y23:PySem.W.kitOne K (.ref cNoSide) (.ref cNoCode)=some false)
  (y24:PySem.W.kitOne K (.ref cNoSide) (.ref cNoColour)=some false)
  (y25:PySem.W.kitOne K (.ref cNoSide) (.ref cNoPlace)=some false)
  (y26:PySem.W.kitOne K (.ref cNoSide) (.ref cNoLeaf)=some false)
  (y27:PySem.W.kitOne K (.ref cNoSide) (.ref cTwice)=some false)
  (y28:PySem.W.kitOne K (.ref cNoSide) (.ref cGap)=some false)
  (y29:PySem.W.kitOne K (.ref cNoSide) (.ref cNoText)=some false)
  (y30:PySem.W.kitOne K (.ref cNoSide) (.ref cNoName)=some false)
  (y31:PySem.W.kitOne K (.ref cNoSide) (.ref cNoNumber)=some false)
  (y32:PySem.W.kitOne K (.ref cNoSide) (.ref cNoRow)=some false)
  (y33:PySem.W.excIn K cNoPlace bmV "ValueError.__new__" = true)
  (y34:PySem.W.findIn K (.ref cNoPlace) "__getattribute__" = some (some (.builtin "BaseException.__getattribute__")))
  (y35:PySem.W.findIn K (.ref cNoPlace) "__getattr__" = some none)
  (y36:PySem.W.findIn K (.ref cNoPlace) "__class__" = some (some (.builtin "object.__class__")))
  (y37:PySem.W.subIn K (.ref cNoPlace) (.type "object")=some true)
  (y38:PySem.W.subIn K (.ref cNoPlace) (.type "BaseException")=some true)
  {cdNoPlace:ClassData}
  (y39:PySem.W.clsIn K cNoPlace=some cdNoPlace)
  (y40:PySem.W.exmOne K (.ref cNoPlace) (.ref cSheetError)=some true)
  (y41:PySem.W.kitOne K (.ref cNoPlace) (.type "ValueError")=some true)
  (y42:PySem.W.kitOne K (.ref cNoPlace) (.ref cNoLevel)=some false)
  (y43:PySem.W.kitOne K (.ref cNoPlace) (.ref cNoCode)=some false)
  (y44:PySem.W.kitOne K (.ref cNoPlace) (.ref cNoColour)=some false)
  (y45:PySem.W.kitOne K (.ref cNoPlace) (.ref cNoSide)=some false)
  (y46:PySem.W.kitOne K (.ref cNoPlace) (.ref cNoLeaf)=some false)
  (y47:PySem.W.kitOne K (.ref cNoPlace) (.ref cTwice)=some false)
  (y48:PySem.W.kitOne K (.ref cNoPlace) (.ref cGap)=some false)
  (y49:PySem.W.kitOne K (.ref cNoPlace) (.ref cNoText)=some false)
  (y50:PySem.W.kitOne K (.ref cNoPlace) (.ref cNoName)=some false)
  (y51:PySem.W.kitOne K (.ref cNoPlace) (.ref cNoNumber)=some false)
  (y52:PySem.W.kitOne K (.ref cNoPlace) (.ref cNoRow)=some false)
  {ts:List Addr} {tp30 tc30:Addr} {tl30:Value} {td30:Option Addr} {tv30:Array Value} {ts30:Array (Option Value)}
  (ta30:cd30=.ref tc30) (tb30:K.lookup tc30=some ⟨tl30,td30,.fields tv30,ts30⟩) (te30:tv30[11]? = some (.ref tp30)) (tf30:PySem.W.codeHdIn K tc30 tp30=true) (n30:K.lookup tp30=none) (m30:tp30∈ts)
  (nd:([tp30]:List Addr).Nodup)
  : ∃ (fd:FuncData) (Ps:List Addr) (sp:Sp),(∀ (s:Shared) (v:Value),BindsTo s fd ⟨[v],[]⟩ [("_law_script",v)])∧(∀ Pt∈Ps,Pt∈ts∧K.lookup Pt=none∧∃ c,PySem.W.CodeHd h c Pt) ∧
   (∀ base:Heap,K.In base→base.Ns mainGlobals mg→lw mg base→bd l.prog w K mg base (CXe l.prog w) 53 fa fd ["_law_script"] sp) ∧
   ∀ (H:Hp) (a:Addr) (ns:List Int),ns.length≤63→(∀ Pt∈Ps,H Pt=some (.tbl #[]))→SqL K H a (ns.map V.int)→sp [.ref a] H (fun v _=>v=.bl true) fun _ _ _=>False:=by
 have e:=hfa.symm.trans (PySem.W.mg_of X G a45);cases e;have T:Tx K mg:=⟨PySem.W.mg_none_of X G z0,PySem.W.mg_none_of X G z1,PySem.W.mg_none_of X G z2,⟨_,PySem.W.mg_of X G z3⟩,PySem.W.mg_none_of X G z4,PySem.W.mg_none_of X G z5,PySem.W.mg_none_of X G z6,⟨_,PySem.W.mg_of X G z7⟩,PySem.W.mg_none_of X G z8,PySem.W.mg_none_of X G z9,PySem.W.mg_none_of X G z10,PySem.W.mg_none_of X G z11,PySem.W.mg_none_of X G z12,PySem.W.mg_none_of X G z13,PySem.W.mg_none_of X G z14,PySem.W.mg_none_of X G z15⟩;have U:Ty l.prog w K mg:=⟨⟨aS,PySem.W.mg_of X G u0,_,_,_,u1,rfl,rfl,(by show 4≤sizeLine;decide),.cons ⟨_,rfl⟩ (.cons ⟨_,rfl⟩ (.cons ⟨_,rfl⟩ (.cons ⟨_,rfl⟩ .nil)))⟩,aC,p0,p1,p2,p3,PySem.W.mg_of X G u2,kd4 u3,⟨_,_,_,u4,rfl,rfl,(by show 2≤sizeLine;decide),.cons ⟨_,rfl⟩ (.cons ⟨_,rfl⟩ .nil)⟩,⟨_,_,_,u5,rfl,rfl,(by show 2≤sizeLine;decide),.cons ⟨_,rfl⟩ (.cons ⟨_,rfl⟩ .nil)⟩,⟨_,_,_,u6,rfl,rfl,(by show 2≤sizeLine;decide),.cons ⟨_,rfl⟩ (.cons ⟨_,rfl⟩ .nil)⟩,⟨_,_,_,u7,rfl,rfl,(by show 2≤sizeLine;decide),.cons ⟨_,rfl⟩ (.cons ⟨_,rfl⟩ .nil)⟩⟩;have Y:Yx K mg:=⟨cNoLevel,cNoCode,cNoColour,cNoPlace,cNoSide,cNoLeaf,cTwice,cGap,cNoText,cNoName,cNoNumber,cNoRow,cSheetError,PySem.W.mg_of X G y0,PySem.W.mg_of X G y1,PySem.W.mg_of X G y2,PySem.W.mg_of X G y3,PySem.W.mg_of X G y4,PySem.W.mg_of X G y5,PySem.W.mg_of X G y6,PySem.W.mg_of X G y7,PySem.W.mg_of X G y8,PySem.W.mg_of X G y9,PySem.W.mg_of X G y10,PySem.W.mg_of X G y11,PySem.W.mg_of X G y12,⟨PySem.W.mg_of X G y4,y13⟩,⟨y14,y15,y16,y17,y18,by rw[y19];rfl⟩,y20,y21,y22,y23,y24,y25,y26,y27,y28,y29,y30,y31,y32,⟨PySem.W.mg_of X G y3,y33⟩,⟨y34,y35,y36,y37,y38,by rw[y39];rfl⟩,y40,y41,y42,y43,y44,y45,y46,y47,y48,y49,y50,y51,y52⟩;have F7:=nM (st:=cN) l7 c7 k7;have F30:=nM (st:=im) l30 c30 k30;have F45:=nM (st:=kC) l45 c45 k45;have b7:=F7.bindsD (ps:=["level","least"]) (ds:=[]) d7 rfl fun _ _ _ _ _ _ us hl=>by obtain⟨a,b,rfl⟩:=Dw ((Hn List.length (Hw us)).symm.trans hl);exact⟨_,rfl,rfl⟩
 have bd7:=F7.bindsD (ps:=["level","least"]) (ds:=[.int 0 dk7]) d7 rfl fun _ _ _ _ _ _ us hl=>by obtain⟨a,rfl⟩:=Gf hl;exact⟨_,rfl,rfl⟩
 have b30:=F30.binds (ps:=["sheet","x","y"]) fun _ _ _ _ _ _ us hl=>by obtain⟨a,b,c,rfl⟩:=Dv hl;exact rfl
 have t30:=zE ta30 tb30 te30 tf30;have FT30:=C1 (st:=im) l30 c30 t30;obtain⟨Tb,eTb⟩:∃ Tb:List (Addr × Str),Tb=[(tp30,vJ)]:=⟨_,rfl⟩;have hnd:(Tb.map (·.1)).Nodup:=by rw[eTb];exact nd
 have hT_rings:(tp30,vJ)∈Tb:=by rw[eTb];simp
 refine⟨PySem.W.fnOf "law" "law" (bH kC) (aY kC) (aj kC) .none kV45 dc45 pm45 an45 cd45 ct45,Tb.map (·.1),zJ K Tb,fun s v=>.of_eq rfl,fun Pt hPt =>?_,fun base KXb _ hB =>?_,fun H a ns hl hO hS=>⟨a,ns,rfl,hS,hl,fP.start hO,fun _=>rfl⟩⟩
 ·rw[eTb]at hPt;have hPt:=GI.mp hPt;subst hPt;exact⟨m30,n30,(s_ X t30).elim fun c h=>⟨c,h.2⟩⟩
 have fk:∀ {x st f fd j ps sp},Df K x st f fd→bd l.prog w K mg base (CXe l.prog w) j f fd ps sp→cL K fd ps []→Fok l.prog w K mg base (CXe l.prog w) j x ps [] sp:=fun d o b=>fok d.F o b (PySem.W.mg_of X G d.a);have fkh:∀ {x st f fd j ps sp},Df K x st f fd→qa l.prog w K mg base (CXe l.prog w) j f fd ps sp→cL K fd ps []→Dm l.prog w K mg base (CXe l.prog w) j x ps sp:=fun d o b=>Gn d.F o b (PySem.W.mg_of X G d.a);have C_is_side:=fk d_0 (vW T U d_0.F) (bd1 d_0.F);have C_is_code:=fk d_1 (uu T d_1.F) (bd1 d_1.F);have C_need_code:=fk d_2 (rP T aU d_2.F C_is_code) (bd1 d_2.F);have C_need_side:=fk d_3 (rO T Y aU d_3.F C_is_side) (bd1 d_3.F);have C_beside:=fk d_4 (yL T Y U aU d_4.F C_need_code C_need_side) (bd2 d_4.F);have C_is_whole:=fk d_5 (tZ T d_5.F) (bd1 d_5.F);have C_is_level:=fk d_6 (t0 T aU d_6.F C_is_whole) (bd1 d_6.F);have C_need_level:Fok l.prog w K mg base (CXe l.prog w) 3 "need_level" ["level","least"] [] (cT):=fok F7 (jP T aU F7 C_is_level) b7 (PySem.W.mg_of X G a7)
 have C_need_level_1:Fok l.prog w K mg base (CXe l.prog w) 3 "need_level" ["level","least"] [.int 0] (cT):=Gp F7 (jP T aU F7 C_is_level) bd7 (.cons ⟨_,rfl⟩ .nil) (PySem.W.mg_of X G a7)
 have C_width_of:=fk d_8 (tW T d_8.F) (bd1 d_8.F);have C_need_place:=fk d_9 (qg T Y aU d_9.F C_width_of C_is_whole) (bd3 d_9.F);have C_code_at:=fk d_10 (vX T Y aU d_10.F C_need_level_1 C_need_place) (bd3 d_10.F);have C_corner:=fk d_11 (yJ T aU d_11.F C_need_code C_need_level C_width_of) (bd2 d_11.F);have C_overlap:=fk d_12 (vS T d_12.F) (bd4 d_12.F);have C_common:=fk d_13 (yK T aU d_13.F C_need_code C_corner C_overlap) (bd3 d_13.F);have C_leaves_below:=fk d_14 (iR T aU d_14.F (bd2 d_14.F) (PySem.W.mg_of X G d_14.a) 41) (bd2 d_14.F);have C_leaves:=fk d_15 (yH T aU d_15.F C_leaves_below) (bd1 d_15.F);have C_leaves_along:=fk d_16 (iS T aU d_16.F (bd3 d_16.F) (PySem.W.mg_of X G d_16.a) 41) (bd3 d_16.F);have C_beyond_leaf:=fk d_17 (oQ T Y U aU d_17.F C_beside C_leaves_along) (bd3 d_17.F);have C_touches:=fk d_18 (vR T Y aU d_18.F C_leaves C_beyond_leaf) (bd1 d_18.F);have C_leaf_at:=fk d_19 (vT T Y aU d_19.F C_code_at) (bd3 d_19.F);have C_alike_around:=fk d_20 (mZ T aU d_20.F C_leaves C_touches) (bd1 d_20.F);have C_members_from:=fk d_21 (mV T d_21.F) (bd2 d_21.F);have C_rim:=fk d_22 (Eb T Y aU d_22.F C_width_of C_common C_leaf_at C_alike_around C_members_from) (bd3 d_22.F);have C_steps_from:=fk d_23 (qf T Y aU d_23.F C_leaf_at C_alike_around C_members_from) (bd3 d_23.F);have C_way_between:=fk d_24 (oM T Y aU d_24.F C_leaf_at C_alike_around C_members_from) (bd5 d_24.F);have C_bare_parts:=fk d_25 (qh T Y U aU d_25.F C_corner C_beyond_leaf) (bd4 d_25.F);have C_ends_of_part:=fk d_26 (mY T d_26.F) (bd4 d_26.F);have C_pieces_round:=fk d_27 (mT T aU d_27.F C_leaves C_corner C_bare_parts C_ends_of_part) (bd2 d_27.F);have C_piece_behind:=fk d_28 (mU T d_28.F) (bd2 d_28.F);have C_ring_from:=fk d_29 (rN T aU d_29.F C_piece_behind) (bd2 d_29.F);have C_rings:Fok l.prog w K mg base (CXe l.prog w) 50 "rings" ["sheet","x","y"] [] (jy l.prog w Tb Y):=fok F30 (AF T Y aU FT30 KXb hB hT_rings hnd C_leaf_at C_alike_around C_members_from C_pieces_round C_ring_from) b30 (PySem.W.mg_of X G a30)
 have C__law_at:=fk d_31 (yI T d_31.F) (bd2 d_31.F);have C__law_mix:=fk d_32 (vV T d_32.F) (bd2 d_32.F);have C__law_level_by:=fk d_33 (mW T d_33.F) (bd1 d_33.F);have C__law_code_by:=fk d_34 (oP T aU d_34.F C__law_mix) (bd3 d_34.F);have C__law_colour_by:=fk d_35 (lW T aU d_35.F C__law_mix C__law_at) (bd3 d_35.F);have C__law_four:=fk d_36 (tY T d_36.F) (bd1 d_36.F);have C__law_painted:=fk d_37 (jo T aU d_37.F C__law_four (bd3 d_37.F) (PySem.W.mg_of X G d_37.a) 40) (bd3 d_37.F);have C__law_tree_by:=fk d_38 (oN T aU d_38.F C__law_at C__law_mix C__law_code_by C__law_colour_by C__law_painted) (bd4 d_38.F);have C__law_squares:=fk d_39 (jn T aU d_39.F (bd5 d_39.F) (PySem.W.mg_of X G d_39.a) 41) (bd5 d_39.F);have C__law_word:=fkh d_40 (tX T Y d_40.F) (bd1 d_40.F);have C__law_odd:=fk d_41 (vU T d_41.F) (bd2 d_41.F);have C__law_asked:=fk d_42 (rQ T Y aU d_42.F C_rim C_steps_from C_rings C_way_between) (bd5 d_42.F);have C__law_refused:=fk d_43 (oO T Y aU d_43.F C__law_asked C__law_word) (bd5 d_43.F);have C__law_answered:=fk d_44 (mX T Y aU d_44.F C_rim C_steps_from C_rings C_way_between) (bd3 d_44.F);exact Ec T aU F45 C__law_at C__law_level_by C__law_tree_by C__law_squares C__law_mix C__law_answered C__law_odd C__law_refused
theorem F0 {l:PySem.W.OpenLaw}{q:Program}{loose:List Str}{XP:(Str→Option Value)→Heap→Prop}{YP:World→Heap→Prop}{d:DefRec}{K:Params→PySem.W.Frag}{ts:List Addr}(hn:l.most=some 63)(hdf:d.params.defaults=[])
  (hY:∀ (w:World) (h:Heap),YP w h→(K w.params).In h) (hT:∀ (w:World) (h:Heap),YP w h→∀ P∈ts,h.get? P=some (PySem.W.tabObj #[]))
  (F:∀ (w:World) (mg:Str→Option Value) (fa:Addr) (h:Heap),(K w.params).In h→h.Ns mainGlobals mg→mg d.name=some (.ref fa) →
   ∃ (fd:FuncData) (Ps:List Addr) (sp:Sp),(∀ (s:Shared) (u:Value),BindsTo s fd ⟨[u],[]⟩ [("_law_script",u)])∧(∀ Pt∈Ps,Pt∈ts∧(K w.params).lookup Pt=none∧∃ c,PySem.W.CodeHd h c Pt) ∧
    (∀ base:Heap,(K w.params).In base→base.Ns mainGlobals mg→lw mg base→bd l.prog w (K w.params) mg base (CXe l.prog w) 53 fa fd ["_law_script"] sp) ∧
    ∀ (H:Hp) (a:Addr) (ns:List Int),ns.length≤63→(∀ P∈Ps,H P=some (.tbl #[]))→SqL (K w.params) H a (ns.map V.int)→sp [.ref a] H (fun v _=>v=.bl true) fun _ _ _=>False) :
  PySem.W.WalkO q loose XP YP l.row.toRowW d [] (fun f vs=>PySem.call f vs) :=
 L2.zx (n:=63) (k:=53) (x := "_law_script") (CX:=fun w=>(CXe l.prog w)) hn (by decide) hdf ⟨rfl,by decide,by decide⟩ hY hT F fun _ _ _ _ _ z=>aU _ _ _ _ _ z
end Qs
end
end
-- The head lays a twin equation for each constant of the run;those of the largest ones are most of its size and are not needed. A name that stands already is not laid anew.
open Lean in
local macro_rules
 | `(#check $s:str) =>return mkNullNode (← (s.getString.splitOn " ").toArray.mapM fun n => `(theorem $(mkIdent (.str `PySem.W.Fast ("tw" ++ n))) : True := ⟨⟩))
#check "5312829150592726597 6773606352915036161 4137298953247958605 6574019481249126473 7301358446576475727 3764596640057210367 12220690709139890234 8218267436882477048 13368874519287132734 1246512764511339467 16293411803583601 11777385777141175122 2754598956265066345 9980284632833787147 12946229246114767749 3048627774272129180 15713972240716550505 14252323897084562549 6968336047538985954 8745585445690120791 6975150440216825553 915566762141129203 8817766753205788516 5308615196535833650 17761854367226324005 6325322818593340794 17764493452538450217 10296107703886126915 4087595596091350507 7614471200223302590 6848986686589275118 14314467466575128075 9258788417392886404 2311939951353363967 7556994604330574482 6955554916089499270 10305014953071304390 4851653944053166466 15323306877160882269 16780928296623637375 262181197256633527 4399958513499954219 10444084553534292965 2363394402236764070 9752566964290492482 14436686248753330342 7358693847896570924 17553769538409861439 9668780415744895954 3972356087583539452 11321590664793964146 17520586750969835732 6748903489437088609 1777308857204643470 17542723561200837911 1336186536410081776 3511392017782702266 15484603366841935849 1934185864986645198 12700324216169854683 15093740250125829763 16023065797946048277 7360328024926932580 7519457286257578464 2259033518511046557 12086482710435556399 1396292136527512191 9441585068473766443 4911980078802490340 615242927262006875 5231438424541531092 15815781533694478821 8725773963826389424 49259608546277289 12875191834435839144 16907090033876437543 4048654449254250730 6067463135431783386 17543448040279774190 9856425666719348915 348357633705877253 12088677452337547599 912758358836754868 725303821801320010 3630570507023232366 12758035530728929305 1807101842879826867 2614369147979672158 2613888007002048977 5407045325026933262 8867822905751562397 5328122897693410741 5811354313126637532 8367122985469505370 18269169209059538836 1736483195111113558 2374698575824797318 11881436975610957753 17112902692327441201 8051826156327118296 8795120751189127205 6533333919166040985 1453918024606973179 15405363854546173960 18141383385930147935 7861011548222922131 9719917106681866277 6501007443582384289 11111419363799464030 15817637964898917833 15526149885342737541 3117065797454898342 4164269602929688667 6687738885322780087 4661754142489255995 11041568260233789069 860083318123150457 11623741370092474661 9445508465782125502 16092644415298802243 5141964711722829541 15331939547729652815 1469716311383658143 4922442800723288400 5292685912140758193 17131478120314499638 2592005047774616714 5336235959539657938 7697909005305098419 4505044925385724084 12756190197678247491 6928241150039638624 9142789680051061016 7951040435366712894 3435853226088317120 13798712626237717331 12162044311155746442 8336476606249448027 15074107240485417075 14401094715527891324 4827636412071675325 7419550218714582560 7674083951166884437 11454783389370556213 3124111033470509953 8620207611930682963 10283698805980244821 11558194500435193675 18261476226017965643 17086979767517521572 8080324486312025547 432163402971811811 10068519307169323781 18281103208727522427 18237114723235757314 8568637754196481499 11386053398533696703 8189480553578810689 6243740730132416373 16406810213083837845 4153326620682256814 1364812635355108184 7072202952425027676 15219672586896714065 10377902973527369685 6713478206801792853 9552135667854306547 2385532906502945669 14051108618743890239 12422052751341434752 9965993201441800065 13417376156608683952 889596895039989695 4095584803302542801 7991733036612552784 15183565175379683209 4659233060226157382 6109052099248131923 2093802930633995877 11587798266294129316 3887801670909322317 17920424602174772280 9548032103829623240 17806333848643265215 3716936076712519212 12732894841862071653 584510149479215758 8109134127448587830 14496478490730751196 11624006787481631790 11223888240408406170 3279836995898225718 13981007151632224163 16540142377781364901 13922184798751639099 13074427484626220140 17757453641626394652 6427501999818366931 6412387991961095845 7785526694199898971 14494471239298986492 16733702896373609732 6179214221490791330 8116672342000450698 11537689090560621435 16320916194326168201 2517940271802533247 1360824677883652759 5706333900182429797 9166347416000441920 12923661376024719364 17669017160072999864 7825915676334049435 14492345969281958340 665165465706593608 1239718199409072258 5393920178895568697 685255214773177923 11924485762230055562 16179513698855597730 9615806558475119568 14143851475969470618 766872765594580380 16097391326042699598 11473328638304077141 11244557347037966674 6745146032806273154 7074764419732059520 7052631656223277796 10622654916733541601 11983234472974708963 1175906655679051522 2815336845906370924 1812792859764512994 8915579406004145089 14661918556988187512 14540281714078495626 4757027946930591158 6182287447432824725 5307632265046632984 7051213968913661314 9094728422094368160 11147115056512284888 16474100741604184604 2801437894080390365 13705628037524912814 17411149814928153816 16292054905004396711 17195995670127922377 7678289979420309254 1307617950903980609 984150910569872787 4259424759327210859 11746185259865267998 2605200407538509511 7215815421351737604 1063980188857886877 6670117800590084382 8299437017898392706 9458655431376776962 16809506212347636383 8175826963684879605 3412128499421122963 1096786244829724690 15436753513494772342 17393786205048621740 907314959336374039 4221807738645178019 12817256978476960762 12928467664751876116 15392306408318933344 9376660957754656538 13918737939884398515 4615738143835187670 6936760768701849555 10099796986547985052 1352851481177222979 6556750027792009537 14843754219249995214 17034150726735792951 3409487549411494392 11898503395305486130 11182401566612235180 15229511323653829914 7679534809749349239 8947628857622305057 3045839383679922375 8492000837489374366 8388037992237368346 15309862989885846176 2964233394887758038 4519041973729200725 16050775863144236107"
open PySem PySem.W PyProof.Rows
set_option maxRecDepth 100000 in
set_option maxHeartbeats 0 in
theorem PySem.Challenge.cw_quartersheet_k68_places_refused_holds : PySem.Challenge.rw_quartersheet_k68_places_refused.Holds := by
 w_on;o_law;k_head;(case hw=>w_witness2)
 k_fill
 refine Qs.F0 (l:=PySem.Challenge.rw_quartersheet_k68_places_refused) rfl rfl (fun w h Y=>PySem.W.km_in_of Y) (fun w h Y=>PySem.W.km_tabs_of Y) ?F
 case F =>
  intro w mg fa h KX G hmg
  refine' Qs.EU KX G hmg (Qs.df ..) (Qs.df ..) (Qs.df ..) (Qs.df ..) (Qs.df ..) (Qs.df ..) (Qs.df ..) _ _ _ _ _ (Qs.df ..) (Qs.df ..) (Qs.df ..) (Qs.df ..) (Qs.df ..) (Qs.df ..) (Qs.df ..) (Qs.df ..) (Qs.df ..) (Qs.df ..) (Qs.df ..) (Qs.df ..) (Qs.df ..) (Qs.df ..) (Qs.df ..) (Qs.df ..) (Qs.df ..) (Qs.df ..) (Qs.df ..) (Qs.df ..) (Qs.df ..) (Qs.df ..) _ _ _ _ (Qs.df ..) (Qs.df ..) (Qs.df ..) (Qs.df ..) (Qs.df ..) (Qs.df ..) (Qs.df ..) (Qs.df ..) (Qs.df ..) (Qs.df ..) (Qs.df ..) (Qs.df ..) (Qs.df ..) (Qs.df ..) _ _ _ _ _ _ _ _ _ _ _ _ _ _ _ _ _ _ _ _ _ _ _ _ _ _ _ _ _ _ _ _ _ _ _ _ _ _ _ _ _ _ _ _ _ _ _ _ _ _ _ _ _ _ _ _ _ _ _ _ _ _ _ _ _ _ _ _ _ _ _ _ _ _ _ _ _ _ _ _ _ _ _ _ _ _ _ _
  all_goals try first | k_is | exact rfl | kernel_rfl | decide | k_exc | kts_exm | kit_is
