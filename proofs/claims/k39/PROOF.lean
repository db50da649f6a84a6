import PyProof.Rows.All
import Wide.All
import OpenK.AllK
import Wide.FinOn
import PyProof.EqAt
import PyProof.EqKinds
import PyProof.TupleCall
import Lean
import KE.KDictList
import PyProof.MaxThree
import KE.LcSums
import PyProof.Rows.FactsN_abs
import PyProof.FactsAll.list_3
import PyProof.SeqI3
import PyProof.EnumIter
import PyProof.EnumMake
import PyProof.EnumFor
import PyProof.ZipIter
import PyProof.FactsAll.zip_1
import PyProof.DictIter
import PyProof.MinMaxWalk
import PyProof.Rows.TupDisplay
import PyProof.Rows.SetFrom
import PyProof.FactsAll.NoneType_1
import PyProof.StrCalls2
import PySem.Challenge.RW_whistlebook_k39_whole_to_the_last_round
open PySem.W(Frag)
open Sum(inl inr)
local macro_rules|`(⋯)=>`(by first|decide +kernel|omega|walk_at "ar")
abbrev zsk:=@List.length_map
abbrev zsl:=@List.getElem?_eq_getElem
abbrev zsm:=@List.getElem?_eq_some_iff
abbrev zsn:=@List.length_append
abbrev zso:=@List.mem_cons
abbrev zsp:=@List.mem_singleton
abbrev zsq:=@List.map_append
abbrev zsr:=@List.getElem?_map
abbrev zss:=@decide_eq_true
abbrev zst:=@Nat.le_refl
abbrev zsu:=@List.mem_map
abbrev zsv:=@List.mem_append
abbrev zsw:=@decide_eq_false
abbrev zsx:=@List.map_cons
abbrev zsy:=@List.mem_of_getElem?
abbrev zsz:=@List.size_toArray
abbrev zs0:=@Int.toNat_natCast
abbrev zs1:=@Nat.lt_of_lt_of_le
abbrev zs2:=@Nat.le_trans
abbrev zs3:=@Bool.false_ne_true
abbrev zs4:=@List.mem_cons_of_mem
abbrev zs5:=@beq_eq_false_iff_ne
abbrev zs6:=@List.mem_append_right
abbrev zs7:=@List.take_length
abbrev zs8:=@List.length_cons
abbrev zs9:=@Nat.zero_le
abbrev zta:=@List.mem_append_left
abbrev ztb:=@Nat.ne_of_lt
abbrev ztc:=@List.getD_eq_getElem?_getD
abbrev ztd:=@List.nodup_cons
abbrev zte:=@List.mem_cons_self
abbrev ztf:=@List.getElem_mem
abbrev ztg:=@List.take_succ_eq_append_getElem
abbrev zth:=@List.getElem?_append_right
abbrev zti:=@List.getElem?_append_left
abbrev ztj:=@List.getElem?_set_ne
abbrev ztk:=@List.lookup_cons
abbrev ztl:=@Int.emod_lt_of_pos
abbrev ztm:=@List.getElem?_set_self
abbrev ztn:=@List.getElem_of_mem
abbrev zto:=@List.not_mem_nil
abbrev ztp:=@List.mem_filter
abbrev ztq:=@List.mem_range
abbrev ztr:=@Option.map_some
abbrev zts:=@Int.emod_nonneg
abbrev ztt:=@List.length_filter_le
abbrev ztu:=@List.length_range
abbrev ztv:=@List.take_add_one
abbrev ztw:=@Bool.false_eq_true
abbrev ztx:=@Int.zero_add
abbrev zty:=@Nat.le_succ_of_le
abbrev ztz:=@Option.isSome_iff_exists
abbrev zt0:=@Nat.lt_of_le_of_lt
abbrev zt1:=@List.filter_cons
abbrev zt2:=@Bool.and_eq_true
abbrev zt3:=@List.append_assoc
abbrev zt4:=@List.length_set
abbrev zt5:=@List.nodup_iff_pairwise_ne
abbrev zt6:=@Nat.lt_irrefl
abbrev zt7:=@List.map_map
abbrev zt8:=@List.filter_cons_of_neg
abbrev zt9:=@List.filter_cons_of_pos
abbrev zua:=@List.length_take_le
abbrev zub:=@List.length_take
abbrev zuc:=@Option.map_eq_some_iff
abbrev zud:=@List.find?_cons
abbrev zue:=@Nat.not_lt_zero
abbrev zuf:=@List.any_cons
abbrev zug:=@List.reverse_cons
abbrev zuh:=@Nat.lt_succ_of_lt
abbrev zui:=@List.all_eq_true
abbrev zuj:=@List.filterMap_cons
abbrev zuk:=@List.length_zipWith
abbrev zul:=@List.map_congr_left
abbrev zum:=@Int.toNat_of_nonneg
abbrev zun:=@List.mem_filterMap
abbrev zuo:=@Bool.eq_iff_iff
abbrev zup:=@List.append_nil
abbrev zuq:=@List.filter_append
set_option Elab.async false
set_option linter.all false
set_option maxRecDepth 100000
namespace L2
open PySem PySem.Spec PyProof.Rows
abbrev Key:=Sum Int Str
def Hv:Key->Value->Bool
 | .inl k,v=>Value.isInt k v
 | .inr x,v=>Value.isStrOf x v
def zi4(w:World):Key->Int
 | .inl k=>hashInt k
 | .inr x=>hashStr w x
theorem Yx:∀ {k:Key} {v:Value},Hv k v=true->(∃ i t,k=inl i/\v=Value.int i t)\/(∃ x t,k=inr x/\v=Value.str x t)
 | .inl i,v,h=>by
   obtain⟨t,e⟩:=Value.isInt_shape (k:=i) (v:=v) h;exact .inl ⟨i,t,rfl,e⟩
 | .inr x,v,h=>by
   obtain⟨t,e⟩:=Value.isStrOf_shape (x:=x) (v:=v) h;exact .inr ⟨x,t,rfl,e⟩
theorem zaq(i:Int)(t:Tok):Hv (.inl i) (.int i t)=true:=by simp[Hv,Value.isInt]
theorem zar(x:Str)(t:Tok):Hv (.inr x) (.str x t)=true:=by simp[Hv,Value.isStrOf]
theorem zf8(a b:Int):decide ((inl a:Key)=inl b)=(a == b):=by
 by_cases e:a=b
 ·subst e;simp
 ·have h:¬ (inl a:Key)=inl b:=fun q=>e (inl.inj q);rw[zsw h];exact(zs5.mpr e).symm
theorem zf9(a b:Str):decide ((inr a:Key)=inr b)=decide (a=b):=by
 by_cases e:a=b
 ·subst e;simp
 ·have h:¬ (inr a:Key)=inr b:=fun q=>e (inr.inj q);rw[zsw h,zsw e]
theorem zga(a:Int)(b:Str):decide ((inl a:Key)=inr b)=false:=zsw (fun q=>nomatch q)
theorem zgb(a:Str)(b:Int):decide ((inr a:Key)=inl b)=false:=zsw (fun q=>nomatch q)
def Yo(prog:Program)(w:World):PySem.KeyKind prog w Key where
 is:=Hv
 hash:=zi4 w
 inj:=fun v a b ha hb=>by
  rcases Yx ha with ⟨i,t,rfl,rfl⟩|⟨x,t,rfl,rfl⟩
  ·rcases Yx hb with ⟨j,u,rfl,e⟩|⟨y,u,rfl,e⟩
   ·injection e with e1 _;rw[e1]
   ·exact nomatch e
  ·rcases Yx hb with ⟨j,u,rfl,e⟩|⟨y,u,rfl,e⟩
   ·exact nomatch e
   ·injection e with e1 _;rw[e1]
 byValue:=fun k v h=>by
  rcases Yx h with ⟨i,t,rfl,rfl⟩|⟨x,t,rfl,rfl⟩<;>rfl
 pyHash:=fun hv h=>by
  rcases Yx hv with ⟨i,t,rfl,rfl⟩|⟨x,t,rfl,rfl⟩
  ·exact wpAny_pyHash_int h
  ·exact wpAny_pyHash_str h
 eqBool:=fun hu hv h=>by
  rcases Yx hu with ⟨i,t,rfl,rfl⟩|⟨x,t,rfl,rfl⟩
  ·rcases Yx hv with ⟨j,u,rfl,rfl⟩|⟨y,u,rfl,rfl⟩
   ·rw[zf8] at h;exact wpAny_eqBool_int h
   ·rw[zga] at h;exact SeqAt.EqAt.int_str i t y u _ _ _ _ h
  ·rcases Yx hv with ⟨j,u,rfl,rfl⟩|⟨y,u,rfl,rfl⟩
   ·rw[zgb] at h;exact SeqAt.EqAt.str_int x t j u _ _ _ _ h
   ·rw[zf9] at h;exact wpAny_eqBool_str h
 «strs»:=fun k x t v h=>by
  rcases Yx h with ⟨i,u,rfl,e⟩|⟨y,u,rfl,e⟩
  ·exact nomatch e
  ·injection e with e1 _;subst e1;cases v<;>rfl
theorem En(prog:Program)(w:World)(i:Int)(t:Tok):(Yo prog w).is (.inl i) (.int i t)=true:=zaq i t
theorem Eo(prog:Program)(w:World)(x:Str)(t:Tok):(Yo prog w).is (.inr x) (.str x t)=true:=zar x t
inductive V where
 | non|bl (b:Bool)|int (i:Int)|str (x:Str)|byt (b:Array UInt8)|flt (b:UInt64)|ref (a:Addr)|ty (n:String)
 deriving DecidableEq
def RelV:V->Value->Prop
 | .non,u=>u=Value.none
 | .bl b,u=>u=Value.bool b
 | .int i,u=>∃ t,u=Value.int i t
 | .str x,u=>∃ t,u=Value.str x t
 | .byt b,u=>∃ t,u=Value.bytes b t
 | .flt b,u=>∃ t,u=Value.float b t
 | .ref a,u=>u=Value.ref a
 | .ty n,u=>u=Value.type n
abbrev Vals:List V->List Value->Prop:=Paired RelV
theorem Vals.length(r:Vals xs us):xs.length=us.length:=Paired.length r
theorem Vals.get:∀ {xs:List V} {us:List Value} {i:Nat} {x:V},Vals xs us->xs[i]?=some x->∃ u,us[i]?=some u/\RelV x u
 | _,_,_,_,.nil,e=>by simp at e
 | _,_,0,_,.cons r _,e=>by simp at e;subst e;exact⟨_,rfl,r⟩
 | _,_,i+1,x,.cons _ t,e=>by
   obtain⟨u,h1,h2⟩:=Vals.get (i:=i) (x:=x) t (by simpa using e);exact⟨u,by simpa using h1,h2⟩
theorem Vals.set(r:RelV x u):∀ {xs:List V} {us:List Value} (i:Nat),Vals xs us->Vals (xs.set i x) (us.set i u)
 | _,_,_,.nil=>.nil
 | _,_,0,.cons _ t=>.cons r t
 | _,_,i+1,.cons q t=>.cons q (Vals.set r i t)
theorem Vals.append:∀ {xs ys:List V} {us ws:List Value},Vals xs us->Vals ys ws->Vals (xs++ys) (us++ws)
 | _,_,_,_,.nil,s=>s
 | _,_,_,_,.cons r t,s=>.cons r (Vals.append t s)
theorem Vals.take:∀ {xs:List V} {us:List Value} (n:Nat),Vals xs us->Vals (xs.take n) (us.take n)
 | _,_,0,_=>.nil
 | _,_,_+1,.nil=>.nil
 | _,_,n+1,.cons r t=>.cons r (Vals.take n t)
theorem Vals.drop:∀ {xs:List V} {us:List Value} (n:Nat),Vals xs us->Vals (xs.drop n) (us.drop n)
 | _,_,0,r=>r
 | _,_,_+1,.nil=>.nil
 | _,_,n+1,.cons _ t=>Vals.drop n t
def RelO:Option V->Option Value->Prop
 | some v,some u=>RelV v u
 | none,none=>True
 | _,_=>False
def KV{κ:Type}:List (κ×V)->List (κ×Value)->Prop:=Paired fun (p:κ×V) (q:κ×Value)=>p.1=q.1/\RelV p.2 q.2
def kV:Key->V
 | .inl i=>.int i
 | .inr x=>.str x
inductive HO where
 | lst (xs:List V)
 | tup (xs:List V)
 | dK (kvs:List (Key×V))|dT (kvs:List (List Key×V))
 | set (S:Int->Bool) (n:Nat)
 | ins (C dx:Addr) (fs:List (Str×V))
 | own (x:Addr)
 | xd (fs:List (Str×V))
 | met (f x:Addr)
 | rng (lo hi:Int)
 | frz (o:Obj) (u:HO)
 | tbl (ps:Array Value)
 | ext (φ:Heap->Prop)
abbrev Hp:=Addr->Option HO
def upd(H:Hp)(a:Addr)(o:HO):Hp:=fun b=>if b=a then some o else H b
theorem Zb:upd H a o a=some o:=by unfold upd;rw[if_pos rfl]
theorem Zh(h:b≠a):upd H a o b=H b:=by unfold upd;rw[if_neg h]
theorem Kh:upd (upd H a o) a u=upd H a u:=by
 funext b;unfold upd;split<;>rfl
theorem Yp{H:Hp}{a b:Addr}{o u:HO}(h:H a=some o)(h':H b=some u)(d:o≠u):a≠b:=by
 intro e;subst e;rw[h] at h';exact d (Option.some.inj h')
theorem Zg{H:Hp}{a b:Addr}{o:HO}(h:H a=some o)(h':H b=none):a≠b:=by
 intro e;subst e;rw[h] at h';cases h'
section
variable(P:Program)(w:World)
def Y0(H:Hp)(h:Heap)(a:Addr):HO->Prop
 | .lst xs=>xs.length<=sizeLine/\∃ (its:List Value) (n:Nat),Vals xs its/\h.get? a=some { cls:=.type "list",data:=.seq its.toArray n }
 | .tup xs=>xs.length<=sizeLine/\∃ its:List Value,Vals xs its/\IsTup h a its.toArray
 | .dK kvs=>kvs.length<=sizeLine/\(a == sysModules)=false/\∃ vs,KV kvs vs/\h.DictOf (Yo P w) a vs
 | .dT kvs=>kvs.length<=sizeLine/\(a == sysModules)=false/\∃ xs:List (List Key×Addr×Value),
   Paired (fun (p:List Key×V) (q:List Key×Addr×Value)=>p.1=q.1/\H q.2.1=some (.tup (p.1.map kV))/\RelV p.2 q.2.2) kvs xs /\
   ∃ o es ep,h.get? a=some o/\o.ExactDict/\o.data=.dict es ep/\es.toList=xs.map (entryOfKey (tupleKind (Yo P w)))/\(xs.map (·.1)).Nodup
 | .set S n=>h.SetOf (intKind P w) a S n
 | .ins C dx fs=>H dx=some (.own a)/\fs.length<=1000/\dx≠a/\h.get? a=some (PySem.W.instObj C dx) /\
   ∃ mA,h.Ns1 dx mA/\(∀ f,RelO (fs.lookup f) (mA f))/\PySem.Within mA (fs.map (·.1))
 | .own _=>∃ o,h.get? a=some o
 | .xd fs=>∃ mA,h.Ns1 a mA/\∀ f,RelO (fs.lookup f) (mA f)
 | .rng lo hi=>∃ t u v,h.get? a=some { cls:=.type "range",data:=.fields #[.int lo t,.int hi u,.int 1 v] }
 | .frz o u=>h.get? a=some o/\Y0 H h a u
 | .tbl ps=>h.get? a=some { cls:=.none,data:=.fields ps }
 | .met f x=>h.get? a=some (PySem.W.methodObj (.ref f) (.ref x))
 | .ext φ=>φ h/\(∃ o,h.get? a=some o)/\∀ h1 h2:Heap,φ h1->(∀ o,h1.get? a=some o->h2.get? a=some o)->φ h2
def HOk(H:Hp)(h:Heap):Prop:=∀ a o,H a=some o->Y0 P w H h a o
end
section
variable{P:Program}{w:World}{H H':Hp}{h h':Heap}{a:Addr}{o:HO}
theorem Y0.lt(x:Y0 P w H h a o):a<h.objs.size:=by
 cases o with
 | lst xs=>obtain⟨_,_,_,_,e⟩:=x;exact Heap.lt_size e
 | tup xs=>obtain⟨_,_,_,p⟩:=x;exact p.lt
 | dK kvs=>obtain⟨_,_,_,_,o,_,_,e,_⟩:=x;exact Heap.lt_size e
 | dT kvs=>obtain⟨_,_,_,_,o,_,_,e,_⟩:=x;exact Heap.lt_size e
 | set S n=>obtain⟨o,_,_,_,e,_⟩:=x;exact Heap.lt_size e
 | ins C dx fs=>obtain⟨_,_,_,e,_⟩:=x;exact Heap.lt_size e
 | own y=>obtain⟨_,e⟩:=x;exact Heap.lt_size e
 | xd fs=>obtain⟨_,⟨_,_,_,e,_⟩,_⟩:=x;exact Heap.lt_size e
 | rng lo hi=>obtain⟨_,_,_,e⟩:=x;exact Heap.lt_size e
 | frz ob u=>obtain⟨e,_⟩:=x;exact Heap.lt_size e
 | tbl ps=>exact Heap.lt_size (show h.get? a=some _ from x)
 | met f y=>exact Heap.lt_size (show h.get? a=some _ from x)
 | ext φ=>obtain⟨_,⟨_,e⟩,_⟩:=x;exact Heap.lt_size e
theorem Paired.mapP:∀ {l₁:List α} {l₂:List β},Paired F l₁ l₂->(∀ a b,F a b->G a b)->Paired G l₁ l₂
 | _,_,.nil,_=>.nil
 | _,_,.cons r t,f=>.cons (f _ _ r) (Paired.mapP t f)
theorem Y0.stay(x:Y0 P w H h a o)(k:∀ b u,(b=a\/H b=some (.own a))->h.get? b=some u->h'.get? b=some u)
  (ho:∀ b,H b=some (.own a)->H' b=some (.own a)) (ht:∀ b xs,H b=some (.tup xs)->H' b=some (.tup xs)):Y0 P w H' h' a o:=by
 induction o with
 | lst xs=>obtain⟨z,its,n,r,e⟩:=x;exact⟨z,its,n,r,k _ _ (.inl rfl) e⟩
 | tup xs=>obtain⟨z,its,r,ob,e,c⟩:=x;exact⟨z,its,r,ob,k _ _ (.inl rfl) e,c⟩
 | dK kvs=>obtain⟨z,y,vs,r,ob,es,ep,e,c⟩:=x;exact⟨z,y,vs,r,ob,es,ep,k _ _ (.inl rfl) e,c⟩
 | dT kvs =>
   obtain⟨z,y,xs,r,ob,es,ep,e,c⟩:=x;exact⟨z,y,xs,Paired.mapP r fun p q z=>⟨z.1,ht _ _ z.2.1,z.2.2⟩,ob,es,ep,k _ _ (.inl rfl) e,c⟩
 | set S n=>obtain⟨ob,es,ep,t,e,c⟩:=x;exact⟨ob,es,ep,t,k _ _ (.inl rfl) e,c⟩
 | ins C dx fs =>
   obtain⟨d,z,ne,e,mA,⟨od,es,ep,e2,c⟩,r⟩:=x;exact⟨ho _ d,z,ne,k _ _ (.inl rfl) e,mA,⟨od,es,ep,k _ _ (.inr d) e2,c⟩,r⟩
 | own y=>obtain⟨ob,e⟩:=x;exact⟨ob,k _ _ (.inl rfl) e⟩
 | xd fs=>obtain⟨mA,⟨od,es,ep,e,c⟩,r⟩:=x;exact⟨mA,⟨od,es,ep,k _ _ (.inl rfl) e,c⟩,r⟩
 | rng lo hi=>obtain⟨t,u,v,e⟩:=x;exact⟨t,u,v,k _ _ (.inl rfl) e⟩
 | frz ob u ih=>obtain⟨e,q⟩:=x;exact⟨k _ _ (.inl rfl) e,ih q⟩
 | tbl ps =>
   have e:h.get? a=some { cls:=.none,data:=.fields ps }:=x;show h'.get? a=some { cls:=.none,data:=.fields ps };exact k a _ (.inl rfl) e
 | met f y =>
   have e:h.get? a=some (PySem.W.methodObj (.ref f) (.ref y)):=x;show h'.get? a=some (PySem.W.methodObj (.ref f) (.ref y));exact k a _ (.inl rfl) e
 | ext φ=>obtain⟨p,⟨o,e⟩,st⟩:=x;exact⟨st _ _ p fun o q=>k _ _ (.inl rfl) q,⟨o,k _ _ (.inl rfl) e⟩,st⟩
theorem HOk.lt(x:HOk P w H h)(e:H a=some o):a<h.objs.size:=(x a o e).lt
theorem HOk.fresh(x:HOk P w H h)(e:h.objs.size<=a):H a=none:=by
 cases q:H a with
 | none=>rfl
 | some u=>exact absurd (zs1 (x.lt q) e) (zt6 _)
theorem HOk.kept(x:HOk P w H h)(k:∀ b u,h.get? b=some u->h'.get? b=some u):HOk P w H h':=fun a o e =>
 (x a o e).stay (fun b u _ q=>k b u q) (fun _ q=>q) fun _ _ q=>q
theorem HOk.laid(x:HOk P w H h)(k:∀ b u,h.get? b=some u->h'.get? b=some u)(hp:h.objs.size<=a)(new:Y0 P w (upd H a o) h' a o):HOk P w (upd H a o) h':=fun b u e=>by
 have hn:=x.fresh hp;by_cases hb:b=a
 ·subst hb;rw[Zb] at e;cases e;exact new
 ·rw[Zh hb] at e;exact(x b u e).stay (fun c v _ q=>k c v q) (fun c q=>by rw[Zh (Zg q hn)];exact q) fun c xs q=>by rw[Zh (Zg q hn)];exact q
end
def Rd(H:Hp)(a:Addr)(u:HO):Prop:=H a=some u\/∃ o,H a=some (.frz o u)
theorem Rd.ok(r:Rd H a u)(x:HOk P w H h):Y0 P w H h a u:=by
 rcases r with r|⟨o,r⟩
 ·exact x a u r
 ·obtain⟨_,q⟩:=x a _ r;exact q
def Mut:Option HO->Prop
 | some (.lst _)=>True
 | some (.dK _)=>True
 | some (.dT _)=>True
 | some (.set _ _)=>True
 | some (.ins _ _ _)=>True
 | some (.ext _)=>True
 | _=>False
section
variable{P:Program}{w:World}{H:Hp}{h h':Heap}{x e:Addr}{o':HO}
theorem HOk.write(ok:HOk P w H h)(mu:Mut (H x))(he:e=x\/H e=some (.own x))(k:∀ b u,b≠e->h.get? b=some u->h'.get? b=some u)(heo:∃ u,h'.get? e=some u)
  (new:Y0 P w (upd H x o') h' x o'):HOk P w (upd H x o') h':=fun b u q=>by
 have nown:∀ c y,H c=some (.own y)->c≠x:=fun c y r z=>by subst z;rw[r] at mu;exact mu
 have ntup:∀ c xs,H c=some (.tup xs)->c≠x:=fun c xs r z=>by subst z;rw[r] at mu;exact mu
 by_cases hb:b=x
 ·subst hb;rw[Zb] at q;cases q;exact new
 ·rw[Zh hb] at q;by_cases hbe:b=e
  ·have q':H b=some (.own x):=by
    rcases he with z|z
    ·exact absurd (hbe.trans z) hb
    ·rw[hbe];exact z
   rw[q] at q';cases q';obtain⟨v,hv⟩:=heo;exact⟨v,by rw[hbe];exact hv⟩
  ·refine(ok b u q).stay (fun c v hc r=>k c v ?_ r) (fun c r=>by rw[Zh (nown c b r)];exact r) fun c xs r=>by rw[Zh (ntup c xs r)];exact r
   rcases hc with rfl|hc
   ·exact hbe
   ·rintro rfl;rcases he with z|z
    ·exact nown c b hc z
    ·rw[hc] at z;cases z;exact hb rfl
end
structure Un(fs ex:List Addr)(H H':Hp)(h h':Heap):Prop where
 keep:∀ b o,h.get? b=some o->H b=none->b∉fs->b∉ex->h'.get? b=some o
 slot:∀ b o,h.get? b=some o->H b=none->b∈fs->b∉ex->∃ sl,h'.get? b=some { o with slots:=sl }
 free:∀ b o,h.get? b=some o->H b=none->b∉ex->H' b=none
 there:∀ b o,h.get? b=some o->b∉ex->∃ o',h'.get? b=some o'
 tups:∀ b xs,H b=some (.tup xs)->H' b=some (.tup xs)
 frzs:∀ b o u,H b=some (.frz o u)->H' b=some (.frz o u)
 tbls:∀ b ps,H b=some (.tbl ps)->∃ more,H' b=some (.tbl (ps++more))
section
variable{fs fs' ex ex':List Addr}{H H1 H2:Hp}{h h1 h2 h':Heap}{a x e:Addr}{o:HO}
theorem Un.any(u:Un fs ex H H1 h h1)(q:h.get? b=some ob)(n:H b=none)(hx:b∉ex):∃ sl,h1.get? b=some { ob with slots:=sl }:=by
 by_cases hb:b∈fs
 ·exact u.slot b ob q n hb hx
 ·exact⟨ob.slots,u.keep b ob q n hb hx⟩
theorem Un.kept(k:∀ b u,h.get? b=some u->h'.get? b=some u):Un fs ex H H h h' :=
 ⟨fun b ob q _ _ _=>k b ob q,fun b ob q _ _ _=>⟨ob.slots,k b ob q⟩,fun _ _ _ n _=>n,fun b ob q _=>⟨ob,k b ob q⟩,fun _ _ q=>q,fun _ _ _ q=>q,fun _ ps q=>⟨#[],by rw[q];simp⟩⟩
theorem Un.refl:Un fs ex H H h h:=Un.kept fun _ _ q=>q
theorem Un.laid(k:∀ b u,h.get? b=some u->h'.get? b=some u)(hp:h.objs.size<=a)(hn:H a=none):Un fs ex H (upd H a o) h h' where
 keep:=fun b u q _ _ _=>k b u q
 slot:=fun b u q _ _ _=>⟨u.slots,k b u q⟩
 free:=fun b u q n _=>by rw[Zh (ztb (zs1 (Heap.lt_size q) hp))];exact n
 there:=fun b u q _=>⟨u,k b u q⟩
 tups:=fun b xs q=>by rw[Zh (Zg q hn)];exact q
 frzs:=fun b u xs q=>by rw[Zh (Zg q hn)];exact q
 tbls:=fun b ps q=>⟨#[],by rw[Zh (Zg q hn),q];simp⟩
theorem Un.write(mu:Mut (H x))(he:e=x\/H e=some (.own x))(k:∀ b u,b≠e->h.get? b=some u->h'.get? b=some u)(heo:∃ u,h'.get? e=some u):Un fs ex H (upd H x o) h h':=by
 have hx:∀ b,H b=none->b≠x:=fun b n z=>by subst z;rw[n] at mu;exact mu
 have hb:∀ b,H b=none->b≠e:=fun b n z=>by
  subst z;rcases he with r|r
  ·exact hx b n r
  ·rw[n] at r;cases r
 have hm:∀ b u,H b=some u->¬ Mut (some u)->b≠x:=fun b u q nm z=>by subst z;rw[q] at mu;exact nm mu
 refine⟨fun b u q n _ _=>k b u (hb b n) q,fun b u q n _ _=>⟨u.slots,k b u (hb b n) q⟩,fun b u q n _=>by rw[Zh (hx b n)];exact n,fun b u q _=>?_,
  fun b xs q=>by rw[Zh (hm b _ q fun z=>z)];exact q,fun b u xs q=>by rw[Zh (hm b _ q fun z=>z)];exact q,fun b ps q=>⟨#[],by rw[Zh (hm b _ q fun z=>z),q];simp⟩⟩
 by_cases hbe:b=e
 ·subst hbe;exact heo
 ·exact⟨u,k b u hbe q⟩
end
def trk(h:Heap)(H:Hp):List Addr:=(List.range h.objs.size).filter fun a=>(H a).isSome
def Fc(h:Heap)(H:Hp):Heap:=PySem.W.hideAll h (trk h H)
theorem zas(h:Heap)(H:Hp):(Fc h H).objs.size=h.objs.size:=PySem.W.hideAll_size _ _
theorem zce(e:h.get? b=some o)(n:H b=none):(Fc h H).get? b=some o :=
 PySem.W.hideAll_get _ e fun hm=>by
  have q:(H b).isSome=true:=(ztp.mp hm).2;rw[n] at q;simp at q
theorem zeh(e:(Fc h H).get? b=some o):h.get? b=some o/\H b=none:=by
 have e':h.get? b=some o:=PySem.W.of_hideAll (trk h H) e;refine⟨e',?_⟩;cases q:H b with
 | none=>rfl
 | some x =>
   have hm:b∈trk h H:=ztp.mpr ⟨ztq.mpr (Heap.lt_size e'),by simp[q]⟩;have z:(Fc h H).get? b=none:=PySem.W.hideAll_none (trk h H) hm;rw[z] at e;cases e
structure Mod(K:Frag)(mg:Str->Option Value)(base:Heap):Prop where
 kin:K.In base
 glob:base.Ns mainGlobals mg
 blt:∃ mb,base.Ns builtinsNs mb/\∀ x:Str,x≠"__name__"->mb x=bootBuiltins x
 nolimit:base.NoLimit
structure Cx where
 prog:Program
 w:World
 K:Frag
 mg:Str->Option Value
 base:Heap
 A:Around
 N:List Str
 s₀:Shared
 H₀:Hp
 env:Env
 outer:List Env
 stack:List Env
 ex:List Addr
 fn:Str->Bool
 calm:Bool
 pn:List (Addr×Obj)
 xe:Value->Shared->Prop
 lk:List (Option V):=[]
def frs(l:List Env):List Addr:=l.filterMap (·.frame)
abbrev Cx.fs(X:Cx):List Addr:=frs X.outer
def Vis(sc:Scope)(x:Str):Prop:=sc.names.lookup x=some .local\/sc.names.lookup x=some .cell\/sc.names.lookup x=some .free
def Loc(sc:Scope)(x:Str):Prop:=sc.names.lookup x=some .local\/sc.names.lookup x=some .cell
def Look(env:Env)(h:Heap)(m:Str->Option Value)(x:Str)(u:Value):Prop :=
 (env.kindOf x=some .local/\m x=some u)\/((env.kindOf x=some .cell\/env.kindOf x=some .free)/\∃ c,env.cells.lookup x=some c/\h.IsCell c (some u))
structure Cx.Ok(X:Cx):Prop where
 mod:Mod X.K X.mg X.base
 kind:X.env.scope.kind=.function
 glob:X.env.globals=mainGlobals
 blt:X.env.builtins=builtinsNs
 above:X.s₀.heap.objs.size<=X.env.locals
 inj:∀ x y c,X.env.cells.lookup x=some c->X.env.cells.lookup y=some c->x=y
 has:∀ x,(X.env.kindOf x=some .cell\/X.env.kindOf x=some .free)->∃ c,X.env.cells.lookup x=some c
 cab:∀ x c,X.fn x=true->X.env.cells.lookup x=some c->X.s₀.heap.objs.size<=c
 hd:X.calm=true->X.A.handled=none
 frames:X.A.frames=some X.stack
 stk:X.stack=X.outer\/(X.stack=X.env :: X.outer/\X.env.frame=some X.env.locals)
 exf:∀ b∈X.ex,b≠X.env.locals/\∀ x c,X.env.cells.lookup x=some c->c≠b
 bs:∀ b o,X.base.get? b=some o->X.s₀.heap.get? b=some o/\X.H₀ b=none
 bsz:X.base.objs.size<=X.s₀.heap.objs.size
 noex:∀ b o,X.base.get? b=some o->b∉X.ex
 exfs:∀ b∈X.ex,b∉X.fs
 funs:X.s₀.heap.FunFrames X.base X.outer
 frf:∀ b∈X.fs,X.H₀ b=none
structure Inv(X:Cx)(pins:List (Addr×Obj))(σ:List (Option V))(H:Hp)(s:Shared):Prop where
 ok:X.Ok
 os:s.os=X.s₀.os
 bare:AllBare s.gens
 base:Un X.fs X.ex X.H₀ H X.s₀.heap s.heap
 loc:∃ m,s.heap.Ns X.env.locals m/\∀ (i:Nat) (x:Str) (v:V),X.N[i]?=some x->(σ[i]?=some (some v)\/X.lk[i]?=some (some v))->Vis X.env.scope x->∃ u,RelV v u/\Look X.env s.heap m x u
 cell:∀ x c,X.env.cells.lookup x=some c->∃ v,s.heap.IsCell c v
 free:H X.env.locals=none
 freeC:∀ x c,X.env.cells.lookup x=some c->H c=none
 pin:∀ p∈X.pn++pins,s.heap.get? p.1=some p.2/\H p.1=none/\p.1≠X.env.locals/\p.1∉X.fs/\∀ v,p.2.data≠.cell v
 hok:HOk X.prog X.w H s.heap
 len:σ.length=X.N.length
section
variable{X:Cx}{pins:List (Addr×Obj)}{σ:List (Option V)}{H H':Hp}{s:Shared}{h':Heap}
theorem Cx.Ok.nofr(ok:X.Ok)(e:X.base.get? b=some o):b∉X.fs:=fun hb=>by
 have:=(ok.funs.mem hb).1;rw[e] at this;cases this
theorem Inv.bs(I:Inv X pins σ H s):∀ b o,X.base.get? b=some o->s.heap.get? b=some o/\H b=none:=fun b o e =>
 ⟨I.base.keep b o (I.ok.bs b o e).1 (I.ok.bs b o e).2 (I.ok.nofr e) (I.ok.noex b o e),I.base.free b o (I.ok.bs b o e).1 (I.ok.bs b o e).2 (I.ok.noex b o e)⟩
theorem Inv.bk(I:Inv X pins σ H s):∀ b o,X.base.get? b=some o->s.heap.get? b=some o:=fun b o e=>(I.bs b o e).1
theorem Inv.mod(I:Inv X pins σ H s):Mod X.K X.mg X.base:=I.ok.mod
theorem Inv.kIn(I:Inv X pins σ H s):X.K.In s.heap:=I.ok.mod.kin.keeps I.bk
theorem Inv.lt(I:Inv X pins σ H s):X.env.locals<s.heap.objs.size:=let ⟨_,hn,_⟩:=I.loc;hn.lt
theorem Inv.sz(I:Inv X pins σ H s):X.s₀.heap.objs.size<=s.heap.objs.size:=zs2 I.ok.above (Nat.le_of_lt I.lt)
theorem Inv.nofs(I:Inv X pins σ H s)(h:s.heap.objs.size<=a):a∉X.fs:=fun hb=>by
 obtain⟨_,o,ho,_⟩:=I.ok.funs.mem hb;exact absurd (zs1 (Heap.lt_size ho) (zs2 I.sz h)) (zt6 _)
theorem Inv.cne(I:Inv X pins σ H s):∀ x c,X.env.cells.lookup x=some c->c≠X.env.locals:=fun x c e z=>by
 obtain⟨v,o,ho,hd⟩:=I.cell x c e;obtain⟨m,⟨o',es,ep,ho',hd',_⟩,_⟩:=I.loc;rw[z,ho'] at ho;cases ho;rw[hd'] at hd;cases hd
theorem Inv.funs(I:Inv X pins σ H s):s.heap.FunFrames X.base X.outer:=by
 have all:∀ (l:List Env),(∀ b∈frs l,b∈X.fs)->X.s₀.heap.FunFrames X.base l->s.heap.FunFrames X.base l:=by
  intro l
  induction l with
  | nil=>intro _ _;trivial
  | cons env r ih =>
    intro hs hl;obtain⟨hk,⟨L,o,hf,hn,ho,hd⟩,hr⟩:=hl;have hL:L∈X.fs:=hs L (by unfold frs;rw[zuj,hf];exact zte);obtain⟨sl,e⟩:=I.base.slot L o ho (I.ok.frf L hL) hL fun z=>I.ok.exfs L z hL;exact⟨hk,⟨L,_,hf,hn,e,hd⟩,ih (fun b hb=>hs b (by unfold frs;rw[zuj,hf];exact zs4 _ hb)) hr⟩
 exact all X.outer (fun _ hb=>hb) I.ok.funs
theorem Inv.stack(I:Inv X pins σ H s):s.heap.FunFrames X.base X.stack:=by
 rcases I.ok.stk with e|⟨e,hf⟩
 ·rw[e];exact I.funs
 ·rw[e];obtain⟨m,hn,_⟩:=I.loc;refine .cons (by rw[I.ok.kind];decide) hf hn ?_ I.funs;exact Heap.get?_none_of_le (zs2 I.ok.bsz I.ok.above)
theorem Inv.stkSub(I:Inv X pins σ H s):∀ b∈frs X.stack,b∈X.env.locals :: X.fs:=fun b hb=>by
 rcases I.ok.stk with e|⟨e,hf⟩
 ·rw[e] at hb;exact zs4 _ hb
 ·rw[e] at hb;unfold frs at hb;rw[zuj,hf] at hb;exact hb
theorem Inv.stkFree(I:Inv X pins σ H s):∀ b∈frs X.stack,H b=none:=fun b hb=>by
 rcases zso.mp (I.stkSub b hb) with e|hb
 ·rw[e];exact I.free
 ·obtain⟨_,o,ho,_⟩:=I.ok.funs.mem hb;exact I.base.free b o ho (I.ok.frf b hb) fun z=>I.ok.exfs b z hb
theorem Inv.step{g':Array GenState}{t':Nat}{d':Drawn}{ch:List Addr}(I:Inv X pins σ H s)
  (hch:∀ b∈ch,(b∈X.ex\/X.s₀.heap.objs.size<=b)/\b≠X.env.locals/\(∀ x c,X.env.cells.lookup x=some c->c≠b)/\∀ p∈X.pn++pins,p.1≠b)
  (keep:∀ b o,b≠X.env.locals->b∉X.fs->b∉ch->s.heap.get? b=some o->H b=none->h'.get? b=some o)
  (slot:∀ b o,b≠X.env.locals->b∈X.fs->b∉ch->s.heap.get? b=some o->H b=none->∃ sl,h'.get? b=some { o with slots:=sl }) (free:∀ b o,b∉ch->s.heap.get? b=some o->H b=none->H' b=none)
  (there:∀ b o,b∉ch->s.heap.get? b=some o->∃ o',h'.get? b=some o')
  (tups:∀ b xs,H b=some (.tup xs)->H' b=some (.tup xs)) (frzs:∀ b o u,H b=some (.frz o u)->H' b=some (.frz o u)) (tbls:∀ b ps,H b=some (.tbl ps)->∃ more,H' b=some (.tbl (ps++more)))
  (ns:∀ m,s.heap.Ns X.env.locals m->h'.Ns X.env.locals m) (hok:HOk X.prog X.w H' h') (hg:AllBare g') :
  Inv X pins σ H' { s with heap:=h',gens:=g',drawn:=d',toks:=t' }:=by
 have neL:∀ b o,X.s₀.heap.get? b=some o->b≠X.env.locals:=fun b o e=>ztb (zs1 (Heap.lt_size e) I.ok.above);have neC:∀ b o,X.s₀.heap.get? b=some o->b∉X.ex->b∉ch:=fun b o e hx hb=>by
  rcases(hch b hb).1 with z|z
  ·exact hx z
  ·exact absurd (zs1 (Heap.lt_size e) z) (zt6 _)
 have cellK:∀ x c,X.env.cells.lookup x=some c->∀ v,s.heap.IsCell c v->h'.IsCell c v:=fun x c e v ⟨o,ho,hd⟩=>by
  have nch:c∉ch:=fun z=>(hch c z).2.2.1 x c e rfl;by_cases hc:c∈X.fs
  ·obtain⟨sl,q⟩:=slot c o (I.cne x c e) hc nch ho (I.freeC x c e);exact⟨_,q,hd⟩
  ·exact⟨o,keep c o (I.cne x c e) hc nch ho (I.freeC x c e),hd⟩
 refine⟨I.ok,I.os,hg,⟨fun b o e n hb hx=>?_,fun b o e n hb hx=>?_,fun b o e n hx=>?_,fun b o e hx=>?_,fun b xs e=>tups b xs (I.base.tups b xs e),fun b o xs e=>frzs b o xs (I.base.frzs b o xs e),fun b ps e=>?_⟩,?_,fun x c e=>?_,?_,fun x c e=>?_,fun p hp=>?_,hok,I.len⟩
 ·exact keep b o (neL b o e) hb (neC b o e hx) (I.base.keep b o e n hb hx) (I.base.free b o e n hx)
 ·obtain⟨sl,e1⟩:=I.base.slot b o e n hb hx;obtain⟨sl',e2⟩:=slot b _ (neL b o e) hb (neC b o e hx) e1 (I.base.free b o e n hx);exact⟨sl',e2⟩
 ·obtain⟨o',e1⟩:=I.base.there b o e hx;exact free b o' (neC b o e hx) e1 (I.base.free b o e n hx)
 ·obtain⟨o',e1⟩:=I.base.there b o e hx;exact there b o' (neC b o e hx) e1
 ·obtain⟨m1,e1⟩:=I.base.tbls b ps e;obtain⟨m2,e2⟩:=tbls b _ e1;exact⟨m1++m2,by rw[e2,Array.append_assoc]⟩
 ·obtain⟨m,hn,hl⟩:=I.loc;refine⟨m,ns m hn,fun i x v e1 e2 e3=>?_⟩;obtain⟨u,r,l⟩:=hl i x v e1 e2 e3;refine⟨u,r,?_⟩;rcases l with l|⟨k,c,e,z⟩
  ·exact .inl l
  ·exact .inr ⟨k,c,e,cellK x c e _ z⟩
 ·obtain⟨v,z⟩:=I.cell x c e;exact⟨v,cellK x c e v z⟩
 ·obtain⟨m,⟨o,_,_,ho,_⟩,_⟩:=I.loc;exact free _ o (fun z=>(hch _ z).2.1 rfl) ho I.free
 ·obtain⟨v,o,ho,hd⟩:=I.cell x c e;exact free c o (fun z=>(hch c z).2.2.1 x c e rfl) ho (I.freeC x c e)
 ·obtain⟨e,n,ne,nf,d⟩:=I.pin p hp;have nch:p.1∉ch:=fun z=>(hch p.1 z).2.2.2 p hp rfl;exact⟨keep p.1 p.2 ne nf nch e n,free p.1 p.2 nch e n,ne,nf,d⟩
theorem Inv.un{t':Nat}(I:Inv X pins σ H s)(u:Un X.fs [] H H' s.heap h')(hok:HOk X.prog X.w H' h'):Inv X pins σ H' { s with heap:=h',toks:=t' }:=by
 obtain⟨m,⟨o,es,ep,ho,r⟩,_⟩:=id I.loc;obtain⟨sl,hL⟩:=u.any ho I.free (by simp);exact I.step (g':=s.gens) (d':=s.drawn) (ch:=[]) (fun _ z=>nomatch z) (fun b o _ hb _ e n=>u.keep b o e n hb (by simp)) (fun b o _ hb _ e n=>u.slot b o e n hb (by simp)) (fun b o _ e n=>u.free b o e n (by simp)) (fun b o _ e=>u.there b o e (by simp)) u.tups u.frzs u.tbls (fun m' hm=>by
  obtain⟨o',es',ep',ho',r'⟩:=hm;rw[ho] at ho';cases ho';exact⟨_,es',ep',hL,r'⟩) hok I.bare
theorem Inv.call{g':Array GenState}{t':Nat}{d':Drawn}{ch:List Addr}(I:Inv X pins σ H s)(u:Un (frs X.stack) ch H H' s.heap h')(hok:HOk X.prog X.w H' h')(hg:AllBare g')
  (hch:∀ b∈ch,(b∈X.ex\/X.s₀.heap.objs.size<=b)/\b≠X.env.locals/\(∀ x c,X.env.cells.lookup x=some c->c≠b)/\∀ p∈X.pn++pins,p.1≠b) :
  Inv X pins σ H' { s with heap:=h',gens:=g',drawn:=d',toks:=t' }:=by
 obtain⟨m,⟨o,es,ep,ho,r⟩,_⟩:=id I.loc;obtain⟨sl,hL⟩:=u.any ho I.free fun z=>(hch _ z).2.1 rfl;exact I.step (ch:=ch) hch (fun b o hL hb hc e n=>u.keep b o e n (fun z=>(zso.mp (I.stkSub b z)).elim hL hb) hc) (fun b o _ _ hc e n=>u.any e n hc) (fun b o hc e n=>u.free b o e n hc) (fun b o hc e=>u.there b o e hc) u.tups u.frzs u.tbls (fun m' hm=>by
  obtain⟨o',es',ep',ho',r'⟩:=hm;rw[ho] at ho';cases ho';exact⟨_,es',ep',hL,r'⟩) hok hg
theorem Inv.turned{t':Nat}{it:Addr}(I:Inv X pins σ H s)(k:∀ b o,b≠it->s.heap.get? b=some o->h'.get? b=some o)(hn:H it=none)(hL:it≠X.env.locals)
  (h1:it∈X.ex\/X.s₀.heap.objs.size<=it) (h2:∀ x c,X.env.cells.lookup x=some c->c≠it) (h3:∀ p∈X.pn++pins,p.1≠it):Inv X pins σ H { s with heap:=h',toks:=t' }:=by
 have nit:∀ b u,H b=some u->b≠it:=fun b u e z=>by rw[z,hn] at e;cases e
 refine I.step (g':=s.gens) (d':=s.drawn) (ch:=[it]) (fun b hb=>?_) (fun b o _ _ hc e _=>k b o (fun z=>hc (by simp[z])) e) (fun b o _ _ hc e _=>⟨o.slots,k b o (fun z=>hc (by simp[z])) e⟩) (fun _ _ _ _ n=>n)
  (fun b o hc e=>⟨o,k b o (fun z=>hc (by simp[z])) e⟩) (fun _ _ e=>e) (fun _ _ _ e=>e) (fun b ps e=>⟨#[],by rw[e];simp⟩) (fun m hm=>?_) (fun b u e=>?_) I.bare
 ·have e:b=it:=by simpa using hb
  subst e;exact⟨h1,hL,h2,h3⟩
 ·obtain⟨o,es,ep,ho,r⟩:=hm;exact⟨o,es,ep,k _ o (Ne.symm hL) ho,r⟩
 ·refine(I.hok b u e).stay (fun c v hc q=>k c v ?_ q) (fun _ q=>q) fun _ _ q=>q;rcases hc with z|z
  ·rw[z];exact nit b u e
  ·exact nit c _ z
theorem Inv.tok(I:Inv X pins σ H s)(t:Nat):Inv X pins σ H { s with toks:=t }:=I.un (h':=s.heap) (t':=t) Un.refl I.hok
theorem Inv.kept(I:Inv X pins σ H s)(k:∀ b u,s.heap.get? b=some u->h'.get? b=some u):Inv X pins σ H { s with heap:=h',toks:=t' }:=I.un (Un.kept k) (I.hok.kept k)
theorem Inv.laid(I:Inv X pins σ H s)(k:∀ b u,s.heap.get? b=some u->h'.get? b=some u)(hp:s.heap.objs.size<=a)(new:Y0 X.prog X.w (upd H a o) h' a o) :
  Inv X pins σ (upd H a o) { s with heap:=h',toks:=t' }:=I.un (Un.laid k hp (I.hok.fresh hp)) (I.hok.laid k hp new)
theorem Inv.write(I:Inv X pins σ H s)(mu:Mut (H x))(he:e=x\/H e=some (.own x))(k:∀ b u,b≠e->s.heap.get? b=some u->h'.get? b=some u)(heo:∃ u,h'.get? e=some u)
  (new:Y0 X.prog X.w (upd H x o) h' x o):Inv X pins σ (upd H x o) { s with heap:=h',toks:=t' }:=I.un (Un.write mu he k heo) (I.hok.write mu he k heo new)
theorem Inv.weak(I:Inv X pins σ H s)(hl:σ'.length=σ.length)(w:∀ (i:Nat) v,σ'[i]?=some (some v)->σ[i]?=some (some v)):Inv X pins σ' H s :=
 ⟨I.ok,I.os,I.bare,I.base,let ⟨m,hn,hl'⟩:=I.loc;⟨m,hn,fun i x v e1 e2 e3=>hl' i x v e1 (e2.imp_left (w i v)) e3⟩,I.cell,I.free,I.freeC,I.pin,I.hok,hl.trans I.len⟩
theorem Inv.pins_of(I:Inv X pins σ H s)(h:∀ p∈pins',s.heap.get? p.1=some p.2/\H p.1=none/\p.1≠X.env.locals/\p.1∉X.fs/\∀ v,p.2.data≠.cell v):Inv X pins' σ H s :=
 ⟨I.ok,I.os,I.bare,I.base,I.loc,I.cell,I.free,I.freeC,fun p hp=>(zsv.mp hp).elim (fun z=>I.pin p (zta _ z)) (h p),I.hok,I.len⟩
theorem Ep{N:List Str}(hN:N.Nodup){i j:Nat}{x:Str}(a:N[i]?=some x)(b:N[j]?=some x):i=j:=by
 obtain⟨h1,e1⟩:=zsm.mp a;obtain⟨h2,e2⟩:=zsm.mp b;exact(List.getElem_inj hN).mp (e1.trans e2.symm)
def C2(X:Cx)(i:Nat)(x:Str):Prop:=(X.fn x=true\/X.env.scope.names.lookup x=some .local)/\∀ v,X.lk[i]?≠some (some v)
theorem Wd{i:Nat}:∀ v:V,([]:List (Option V))[i]?≠some (some v):=fun _ h=>by simp at h
theorem Hw{M:Model}{A:Around}{E:Value->Shared->Prop}{i:Nat}{x:Str}{v:V}{u:Value}{Q:Unit->Shared->Prop}(I:Inv X pins σ H s)(hN:X.N.Nodup)(hi:X.N[i]?=some x)(hx:Loc X.env.scope x)(r:RelV v u)
  (h:∀ s',Inv X pins (σ.set i (some v)) H s'->(∃ a,Heap.SameBut a s.heap s'.heap/\(a=X.env.locals\/X.env.cells.lookup x=some a))->Q () s') (hf:C2 X i x:=by first|exact⟨.inl rfl,Wd⟩|exact⟨.inr rfl,Wd⟩|assumption|exact⟨.inl rfl,by assumption⟩|exact⟨.inr rfl,by assumption⟩):wpAny M A (storeName X.env x u) Q E s:=by
 obtain⟨m,hn,hl⟩:=id I.loc;have hcls:(X.env.scope.kind == .class||(X.env.scope.kind == .module&&X.env.locals != X.env.globals))=false:=by rw[I.ok.kind];rfl
 have hiσ:i<σ.length:=by rw[I.len];exact(zsm.mp hi).1
 have cne:=I.cne;have tracked:∀ {a:Addr} {h':Heap},(∃ o,s.heap.get? a=some o/\H a=none)->Heap.SameBut a s.heap h'->HOk X.prog X.w H h':=fun {a h'} ha hs b ob e=>by
  obtain⟨_,_,hfree⟩:=ha;refine(I.hok b ob e).stay (fun c w' hc q=>(hs.2 c ?_).trans q) (fun _ q=>q) fun _ _ q=>q;rintro rfl;rcases hc with rfl|hc
  ·rw[hfree] at e;cases e
  ·rw[hfree] at hc;cases hc
 rcases hx with hk|hk
 ·refine wpAny_storeName_local hk hn (fun h' hn' hs=>?_) hcls;obtain⟨oL,_,_,hoL,_⟩:=id hn;refine h _ ⟨I.ok,I.os,I.bare,⟨fun b o e n hb hx=>?_,fun b o e n hb hx=>?_,I.base.free,fun b o e hx=>?_,I.base.tups,I.base.frzs,I.base.tbls⟩,⟨_,hn',fun j y v' e1 e2 e3=>?_⟩,fun y c e=>?_,I.free,I.freeC,fun p hp=>?_,tracked ⟨oL,hoL,I.free⟩ hs,by simpa using I.len⟩ ⟨_,hs,.inl rfl⟩
  ·exact(hs.2 b (ztb (zs1 (Heap.lt_size e) I.ok.above))).trans (I.base.keep b o e n hb hx)
  ·obtain⟨sl,e1⟩:=I.base.slot b o e n hb hx;exact⟨sl,(hs.2 b (ztb (zs1 (Heap.lt_size e) I.ok.above))).trans e1⟩
  ·obtain⟨o',e1⟩:=I.base.there b o e hx;exact⟨o',(hs.2 b (ztb (zs1 (Heap.lt_size e) I.ok.above))).trans e1⟩
  ·by_cases hj:j=i
   ·subst hj;rw[hi] at e1;cases e1;rcases e2 with e2|e2
    case' inr=>exact absurd e2 (hf.2 _)
    rw[ztm hiσ] at e2;cases e2;exact⟨u,r,.inl ⟨hk,by simp⟩⟩
   ·have e2:σ[j]?=some (some v')\/X.lk[j]?=some (some v'):=e2.imp_left fun z=>by rw[ztj (Ne.symm hj)] at z;exact z
    obtain⟨u',r',q⟩:=hl j y v' e1 e2 e3;refine⟨u',r',?_⟩;rcases q with ⟨k,e⟩|⟨k,c,e,z⟩
    ·refine .inl ⟨k,?_⟩;have:y≠x:=fun e=>hj (Ep hN e1 (e▸hi));simp[this,e]
    ·exact .inr ⟨k,c,e,z.sameBut hs (cne y c e)⟩
  ·obtain⟨w',z⟩:=I.cell y c e;exact⟨w',z.sameBut hs (cne y c e)⟩
  ·obtain⟨e,n,ne,nf,d⟩:=I.pin p hp;exact⟨(hs.2 p.1 ne).trans e,n,ne,nf,d⟩
 ·have hfn:X.fn x=true:=by
   rcases hf.1 with z|z
   ·exact z
   ·rw[z] at hk;cases hk
  obtain⟨c,hc⟩:=I.ok.has x (.inl hk);obtain⟨w',z⟩:=I.cell x c hc;refine wpAny_storeName_cell I.ok.kind hk hc z (fun h' hc' hs=>?_);obtain⟨oc,hoc,hocd⟩:=id z;refine h { s with heap:=h' } ⟨I.ok,I.os,I.bare,⟨fun b o e n hb hx=>?_,fun b o e n hb hx=>?_,I.base.free,fun b o e hx=>?_,I.base.tups,I.base.frzs,I.base.tbls⟩,⟨m,hn.sameBut hs (Ne.symm (cne x c hc)),fun j y v' e1 e2 e3=>?_⟩,fun y c' e=>?_,I.free,I.freeC,fun p hp=>?_,tracked ⟨oc,hoc,I.freeC x c hc⟩ hs,by simpa using I.len⟩ ⟨c,hs,.inr hc⟩
  ·exact(hs.2 b (ztb (zs1 (Heap.lt_size e) (I.ok.cab x c hfn hc)))).trans (I.base.keep b o e n hb hx)
  ·obtain⟨sl,e1⟩:=I.base.slot b o e n hb hx;exact⟨sl,(hs.2 b (ztb (zs1 (Heap.lt_size e) (I.ok.cab x c hfn hc)))).trans e1⟩
  ·obtain⟨o',e1⟩:=I.base.there b o e hx;exact⟨o',(hs.2 b (ztb (zs1 (Heap.lt_size e) (I.ok.cab x c hfn hc)))).trans e1⟩
  ·by_cases hj:j=i
   ·subst hj;rw[hi] at e1;cases e1;rcases e2 with e2|e2
    case' inr=>exact absurd e2 (hf.2 _)
    rw[ztm hiσ] at e2;cases e2;exact⟨u,r,.inr ⟨.inl hk,c,hc,hc'⟩⟩
   ·have e2:σ[j]?=some (some v')\/X.lk[j]?=some (some v'):=e2.imp_left fun z=>by rw[ztj (Ne.symm hj)] at z;exact z
    obtain⟨u',r',q⟩:=hl j y v' e1 e2 e3;refine⟨u',r',?_⟩;rcases q with q|⟨k,c',e,z'⟩
    ·exact .inl q
    ·refine .inr ⟨k,c',e,z'.sameBut hs ?_⟩;rintro rfl;exact hj (Ep hN e1 (I.ok.inj _ _ _ e hc▸hi))
  ·by_cases hcc:c'=c
   ·subst hcc;exact⟨_,hc'⟩
   ·obtain⟨w2,z2⟩:=I.cell y c' e;exact⟨w2,z2.sameBut hs hcc⟩
  ·obtain⟨e,n,ne,nf,d⟩:=I.pin p hp;refine⟨(hs.2 p.1 ?_).trans e,n,ne,nf,d⟩;intro q;rw[q,hoc] at e;have q':oc=p.2:=Option.some.inj e;exact d w' (by rw[<- q'];exact hocd)
theorem Er(I:Inv X pins σ H s)(hN:X.N.Nodup)(hi:X.N[i]?=some x)(hx:Loc X.env.scope x)(r:RelV v u)
  (h:∀ s',Inv X pins (σ.set i (some v)) H s'->Q () s') (hf:C2 X i x:=by first|exact⟨.inl rfl,Wd⟩|exact⟨.inr rfl,Wd⟩|assumption|exact⟨.inl rfl,by assumption⟩|exact⟨.inr rfl,by assumption⟩):wpAny M A (storeName X.env x u) Q E s :=
 Hw I hN hi hx r (fun s' I' _=>h s' I') hf
theorem Inv.call'(I:Inv X pins σ H s)(ho:s'.os=s.os)(u:Un (frs X.stack) ch H H' s.heap s'.heap)(hok:HOk X.prog X.w H' s'.heap)(hg:AllBare s'.gens)
  (hch:∀ b∈ch,(b∈X.ex\/X.s₀.heap.objs.size<=b)/\b≠X.env.locals/\(∀ x c,X.env.cells.lookup x=some c->c≠b)/\∀ p∈X.pn++pins,p.1≠b):Inv X pins σ H' s':=by
 obtain⟨h',g',d',t',o'⟩:=s';have e:o'=s.os:=ho;subst e;exact I.call (g':=g') (t':=t') (d':=d') u hok hg hch
end
abbrev XK:=Value->Option Addr->Hp->Prop
abbrev St:=List (Option V)
abbrev VK:=V->Hp->Prop
abbrev TE:=St->Hp->VK->Prop
abbrev TT:=St->Hp->(Bool->Hp->Prop)->Prop
abbrev TA:=St->Hp->(List V->Hp->Prop)->Prop
structure Ox where
 nx:St->Hp->Prop
 rt:VK
 bk:St->Hp->Prop:=fun _ _=>False
 ct:St->Hp->Prop:=fun _ _=>False
abbrev TS:=Ox->St->Hp->Prop
def EP(X:Cx)(pins:List (Addr×Obj))(σ:St)(Q:VK)(u:Value)(s':Shared):Prop:=∃ v H',Inv X pins σ H' s'/\RelV v u/\Q v H'
def TP(X:Cx)(pins:List (Addr×Obj))(σ:St)(Q:Bool->Hp->Prop)(b:Bool)(s':Shared):Prop:=∃ H',Inv X pins σ H' s'/\Q b H'
def AP(X:Cx)(pins:List (Addr×Obj))(σ:St)(Q:List V->Hp->Prop)(us:List Value)(s':Shared):Prop:=∃ vs H',Inv X pins σ H' s'/\Vals vs us/\Q vs H'
def SP(X:Cx)(pins:List (Addr×Obj))(D:Ox)(f:Flow)(s':Shared):Prop :=
 match f with
 | .next=>∃ σ' H',Inv X pins σ' H' s'/\D.nx σ' H'
 | .brk=>∃ σ' H',Inv X pins σ' H' s'/\D.bk σ' H'
 | .cont=>∃ σ' H',Inv X pins σ' H' s'/\D.ct σ' H'
 | .ret u=>∃ v σ' H',Inv X pins σ' H' s'/\RelV v u/\D.rt v H'
def PE(X:Cx)(e:Expr)(t:TE):Prop :=
 ∀ (pins:List (Addr×Obj)) (s:Shared) (σ:St) (H:Hp) (Q:VK),Inv X pins σ H s->t σ H Q->wpAny (model X.prog X.w) X.A (eval e X.env) (EP X pins σ Q) X.xe s
def PT(X:Cx)(e:Expr)(t:TT):Prop :=
 ∀ (pins:List (Addr×Obj)) (s:Shared) (σ:St) (H:Hp) (Q:Bool->Hp->Prop),Inv X pins σ H s->t σ H Q->wpAny (model X.prog X.w) X.A (isTrue e X.env (eval e X.env)) (TP X pins σ Q) X.xe s
def PW(X:Cx)(e:Expr)(t:TT):Prop :=
 ∀ (whole:Sem Value) (pins:List (Addr×Obj)) (s:Shared) (σ:St) (H:Hp) (Q:Bool->Hp->Prop),Inv X pins σ H s->t σ H Q->wpAny (model X.prog X.w) X.A (isTrue e X.env whole) (TP X pins σ Q) X.xe s
theorem PW.pt(h:PW X e t):PT X e t:=h _
def PA(X:Cx)(es:List Expr)(t:TA):Prop :=
 ∀ (pos:Pos) (pins:List (Addr×Obj)) (s:Shared) (σ:St) (H:Hp) (Q:List V->Hp->Prop),Inv X pins σ H s->t σ H Q->wpAny (model X.prog X.w) X.A (spliced (backTo pos (starEach es X.env))) (AP X pins σ Q) X.xe s
def PS(X:Cx)(st:Stmt)(t:TS):Prop :=
 ∀ (pins:List (Addr×Obj)) (s:Shared) (σ:St) (H:Hp) (D:Ox),Inv X pins σ H s->t D σ H->wpAny (model X.prog X.w) X.A (exec st X.env) (SP X pins D) X.xe s
def PSs(X:Cx)(st:List Stmt)(t:TS):Prop :=
 ∀ (pins:List (Addr×Obj)) (s:Shared) (σ:St) (H:Hp) (D:Ox),Inv X pins σ H s->t D σ H->wpAny (model X.prog X.w) X.A (execs st X.env) (SP X pins D) X.xe s
theorem thn(h:wpAny M A t Q E s)(hQ:∀ a s,Q a s->Q' a s):wpAny M A t Q' E s:=wpAny_mono h hQ fun _ _ x=>x
section
variable{X:Cx}
inductive zei(i:Nat)(σ:L2.St)(H:Hp)(Q:VK):Prop where
 | mk(v)(_:σ[i]?=some (some v))(_:Q v H)
def tC(v:V):TE:=fun _ H Q=>Q v H
theorem zgc(hN:X.N[i]?=some x)(hv:Vis X.env.scope x)(hd:(x == ("__debug__":Str))=false:=by decide)(hcd:(x == ("__classdict__":Str))=false:=by decide):PE X (.Name x pos) (zei i):=by
 intro pins s σ H Q I h;obtain⟨v,e,h⟩:=h;obtain⟨m,hn,hl⟩:=I.loc;obtain⟨u,r,l⟩:=hl i x v hN (.inl e) hv;have fin:EP X pins σ Q u s:=⟨v,H,I,r,h⟩;rcases l with ⟨hk,hm⟩|⟨hk,c,hc,hcell⟩
 ·exact wpAny_Name (wpAny_loadName_local I.ok.kind hk hn hm fin) hd
 ·rcases hk with hk|hk
  ·exact wpAny_Name (wpAny_loadName_cell I.ok.kind hk hc hcell fin) hd
  ·exact wpAny_Name (wpAny_loadName_free I.ok.kind hk hc hcell fin hcd) hd
theorem Zi{i j pos}:PE X (.Constant (.int i) j pos) (tC (.int i)):=fun _ _ _ H _ I h=>wpAny_Constant_int ⟨.int i,H,I.tok _,⟨_,rfl⟩,h⟩
theorem We{b j pos}:PE X (.Constant (.bool b) j pos) (tC (.bl b)):=fun _ _ _ H _ I h=>Constant_bool ⟨.bl b,H,I,rfl,h⟩
theorem Y6{j pos}:PE X (.Constant .none j pos) (tC .non):=fun _ _ _ H _ I h=>Constant_none ⟨.non,H,I,rfl,h⟩
theorem Zr{x j pos}:PE X (.Constant (.str x) j pos) (tC (.str x)):=fun _ _ _ H _ I h=>Calls.Constant_str ⟨.str x,H,I.tok _,⟨_,rfl⟩,h⟩
def Gl(X:Cx)(x:Str):Prop:=X.env.kindOf x=some .globalImplicit
theorem Qs(I:Inv X pins σ H s)(hg:Gl X x)(hm:X.mg x=some u)(h:Q u s)
  (hd:(x == ("__debug__":Str))=false:=by decide):wpAny (model X.prog X.w) X.A (eval (.Name x pos) X.env) Q E s :=
 Calls.Name_function_global I.ok.kind hg (Calls.loadGlobal_global (by rw[I.ok.glob];exact I.mod.glob.keeps I.bk) hm h) hd
theorem Po(I:Inv X pins σ H s)(hg:Gl X x)(hm:X.mg x=none)(hv:bootBuiltins x=some u)(h:Q u s)
  (hn:x≠"__name__":=by decide) (hd:(x == ("__debug__":Str))=false:=by decide):wpAny (model X.prog X.w) X.A (eval (.Name x pos) X.env) Q E s:=by
 obtain⟨mb,h1,h2⟩:=I.mod.blt;exact Calls.Name_function_global I.ok.kind hg (Calls.loadGlobal_builtin (by rw[I.ok.glob];exact I.mod.glob.keeps I.bk) hm (by rw[I.ok.blt];exact h1.keeps I.bk) ((h2 x hn).trans hv) h) hd
theorem zej(hg:Gl X x)(hm:X.mg x=some u)(r:RelV v u)(hd:(x == ("__debug__":Str))=false:=by decide):PE X (.Name x pos) (tC v) :=
 fun _ _ _ H _ I h=>Qs I hg hm ⟨v,H,I,r,h⟩ hd
theorem Qt(hg:Gl X x)(hm:X.mg x=none)(hv:bootBuiltins x=some u)(r:RelV v u)(hn:x≠"__name__":=by decide)(hd:(x == ("__debug__":Str))=false:=by decide):PE X (.Name x pos) (tC v) :=
 fun _ _ _ H _ I h=>Po I hg hm hv ⟨v,H,I,r,h⟩ hn hd
variable{a b:Expr}{ta tb:TE}{pos:Pos}
def PC(X:Cx)(op:CmpOp)(a b:Expr)(t:TE):Prop :=
 ∀ (pins:List (Addr×Obj)) (s:Shared) (σ:St) (H:Hp) (Q:VK),Inv X pins σ H s->t σ H Q ->
   wpAny (model X.prog X.w) X.A (eval a X.env) (fun v s₁=>wpAny (model X.prog X.w) X.A (eval b X.env) (fun u s₂=>wpAny (model X.prog X.w) X.A (compareOp op v u) (EP X pins σ Q) X.xe s₂) X.xe s₁) X.xe s
inductive tBI(Q:Bool->Hp->Prop)(x:V)(H1:Hp):Prop where
 | mk(c)(_:x=.bl c)(_:Q c H1)
def tB(t:TE):TT:=fun σ H Q=>t σ H fun x H1=>tBI Q x H1
theorem Uq(h:PC X op a b t)(h1:behindInMarks op b=false:=by first|exact nobehind _ ⋯ ⋯|rfl):PT X (.Compare a [op] [b] pos) (tB t):=by
 intro pins s σ H Q I hw;refine wpAny_isTrue_Compare1 (thn (h pins s σ H _ I hw) fun v s1 h1=>thn h1 fun u s2 h2=>thn h2 fun c s3 ⟨x,H1,I1,r1,q1⟩=>?_) h1;obtain⟨d,rfl,q⟩:=q1;cases r1;exact wpAny_truthy_bool ⟨H1,I1,q⟩
theorem W3(h:PE X e t)(he:∀ whole,isTrue e X.env whole=(do let v <- whole;standAt e.pos;holding [v] (truthy v)):=by intro _;rfl):PT X e (tB t):=by
 intro pins s σ H Q I hw;refine isTrue_plain (thn (h pins s σ H _ I hw) fun v s1 ⟨x,H1,I1,r1,q1⟩=>?_) (he _);obtain⟨d,rfl,q⟩:=q1;cases r1;exact wpAny_truthy_bool ⟨H1,I1,q⟩
variable{tA tB':TT}{rest:List Expr}
def zgd(t u:TT):TT:=fun σ H Q=>t σ H fun c H1=>if c=true then u σ H1 Q else Q false H1
def tOr(t u:TT):TT:=fun σ H Q=>t σ H fun c H1=>if c=true then Q true H1 else u σ H1 Q
def zi5(t:TT):TT:=fun σ H Q=>t σ H fun c H1=>Q (!c) H1
theorem Fd(ha:PT X a tA):PW X (.BoolOp .And [a] pos) tA:=by
 intro wh pins s σ H Q I h;refine isTrue_and (thn (ha pins s σ H Q I h) fun c s1 e=>?_);cases c with
 | true=>exact isTrue_and_nil e
 | false=>exact e
theorem Vx(ha:PT X a tA):PW X (.BoolOp .Or [a] pos) tA:=by
 intro wh pins s σ H Q I h;refine isTrue_or (thn (ha pins s σ H Q I h) fun c s1 e=>?_);cases c with
 | false=>exact isTrue_or_nil e
 | true=>exact e
theorem Fe(ha:PT X a tA)(hb:PW X (.BoolOp .And (b :: rest) pos) tB'):PW X (.BoolOp .And (a :: b :: rest) pos) (zgd tA tB'):=by
 intro wh pins s σ H Q I h;refine isTrue_and (thn (ha pins s σ H _ I h) fun c s1 ⟨H1,I1,q1⟩=>?_);cases c with
 | true=>exact hb wh pins s1 σ H1 Q I1 q1
 | false=>exact⟨H1,I1,q1⟩
theorem Td(ha:PT X a tA)(hb:PW X (.BoolOp .Or (b :: rest) pos) tB'):PW X (.BoolOp .Or (a :: b :: rest) pos) (tOr tA tB'):=by
 intro wh pins s σ H Q I h;refine isTrue_or (thn (ha pins s σ H _ I h) fun c s1 ⟨H1,I1,q1⟩=>?_);cases c with
 | true=>exact⟨H1,I1,q1⟩
 | false=>exact hb wh pins s1 σ H1 Q I1 q1
theorem Vd(ha:PT X a tA):PT X (.UnaryOp .Not a pos) (zi5 tA):=by
 intro pins s σ H Q I h;exact isTrue_not (ha pins s σ H (fun c H1=>Q (!c) H1) I h)
inductive zge(tb:TE)(σ:L2.St)(Q:VK)(x:V)(H1:Hp):Prop where
 | mk(c)(_:x=.bl c)(_:if c=true then tb σ H1 Q else Q (.bl false) H1)
def zht(ta tb:TE):TE:=fun σ H Q=>ta σ H fun x H1=>zge tb σ Q x H1
inductive zgf(Q:VK)(x:V)(H1:Hp):Prop where
 | mk(c)(_:x=.bl c)(_:Q (.bl (!c)) H1)
def zhu(ta:TE):TE:=fun σ H Q=>ta σ H fun x H1=>zgf Q x H1
theorem Ff{op}(h:PE X a t):PE X (.BoolOp op [a] pos) t:=fun pins s σ H Q I hw=>BoolOp_one (h pins s σ H Q I hw)
theorem Fg(ha:PE X a ta)(hb:PE X (.BoolOp .And (b :: rest) pos) tb):PE X (.BoolOp .And (a :: b :: rest) pos) (zht ta tb):=by
 intro pins s σ H Q I h;refine BoolOp_and (thn (ha pins s σ H _ I h) fun v s1 ⟨x,H1,I1,r1,q1⟩=>?_);obtain⟨c,rfl,q1⟩:=q1;cases r1;refine wpAny_truthy_bool ?_;cases c with
 | true=>exact hb pins s1 σ H1 Q I1 q1
 | false=>exact⟨.bl false,H1,I1,rfl,q1⟩
theorem zgg(ha:PE X a ta):PE X (.UnaryOp .Not a pos) (zhu ta):=by
 intro pins s σ H Q I h;refine UnaryOp_ (thn (ha pins s σ H _ I h) fun v s1 ⟨x,H1,I1,r1,q1⟩=>?_);obtain⟨c,rfl,q1⟩:=q1;cases r1;exact not_of (wpAny_truthy_bool ⟨.bl (!c),H1,I1,rfl,q1⟩)
def tIf(t:TT)(ta tb:TE):TE:=fun σ H Q=>t σ H fun c H1=>if c=true then ta σ H1 Q else tb σ H1 Q
theorem Es(hc:PT X c tA)(ha:PE X a ta)(hb:PE X b tb):PE X (.IfExp c a b pos) (tIf tA ta tb):=by
 intro pins s σ H Q I h;refine wpAny_IfExp (thn (hc pins s σ H _ I h) fun d s1 ⟨H1,I1,q1⟩=>?_);cases d with
 | true=>exact ha pins s1 σ H1 Q I1 q1
 | false=>exact hb pins s1 σ H1 Q I1 q1
end
def SqL(K:Frag)(H:Hp)(a:Addr)(xs:List V):Prop :=
 Rd H a (.lst xs) \/
  ∃ (o:Obj) (its:Array Value) (n:Nat),K.lookup a=some o/\o.cls=.type "list"/\o.dict=none/\o.data=.seq its n/\its.size<=sizeLine/\Vals xs its.toList
def SqT(K:Frag)(H:Hp)(a:Addr)(xs:List V):Prop :=
 Rd H a (.tup xs) \/
  ∃ (o:Obj) (its:Array Value) (n:Nat),K.lookup a=some o/\o.cls=.type "tuple"/\o.data=.seq its n/\its.size<=sizeLine/\Vals xs its.toList
def zi6:Value->Option V
 | .none=>some .non
 | .bool b=>some (.bl b)
 | .int i _=>some (.int i)
 | .str x _=>some (.str x)
 | .bytes b _=>some (.byt b)
 | .float b _=>some (.flt b)
 | .ref a=>some (.ref a)
 | .type n=>some (.ty n)
 | _=>none
theorem RelV.abs(r:RelV x u):zi6 u=some x:=by
 cases x with
 | non=>cases r;rfl
 | bl _=>cases r;rfl
 | int _=>obtain⟨t,rfl⟩:=r;rfl
 | str _=>obtain⟨t,rfl⟩:=r;rfl
 | byt _=>obtain⟨t,rfl⟩:=r;rfl
 | flt _=>obtain⟨t,rfl⟩:=r;rfl
 | ref _=>cases r;rfl
 | ty _=>cases r;rfl
theorem RelV.inj(r:RelV x u)(q:RelV y u):x=y:=Option.some.inj (r.abs.symm.trans q.abs)
theorem Vals.inj:∀ {xs ys:List V} {us:List Value},Vals xs us->Vals ys us->xs=ys
 | _,_,_,.nil,.nil=>rfl
 | _,_,_,.cons r t,.cons r' t'=>by rw[r.inj r',Vals.inj t t']
section
variable{X:Cx}{pins:List (Addr×Obj)}{σ:St}{H:Hp}{s:Shared}{a:Addr}{xs ys:List V}
theorem SqL.of{K:Frag}(h:H a=some (.lst xs)):SqL K H a xs:=.inl (.inl h)
theorem SqT.of{K:Frag}(h:H a=some (.tup xs)):SqT K H a xs:=.inl (.inl h)
theorem Inv.list(I:Inv X pins σ H s)(h:SqL X.K H a xs):∃ its:List Value,Vals xs its/\PlainL s.heap a its.toArray/\xs.length<=sizeLine:=by
 rcases h with h|⟨o,its,n,hk,hc,hd,hs,hz,r⟩
 ·obtain⟨z,its,n,r,e⟩:=h.ok I.hok;exact⟨its,r,⟨_,n,e,rfl,rfl,rfl⟩,z⟩
 ·refine⟨its.toList,r,⟨o,n,I.kIn a o hk,hc,hd,by simpa using hs⟩,?_⟩;have e:=r.length;simp only[Array.length_toList] at e;omega
theorem Inv.tuple(I:Inv X pins σ H s)(h:SqT X.K H a xs):∃ its:List Value,Vals xs its/\IsTup s.heap a its.toArray/\xs.length<=sizeLine:=by
 rcases h with h|⟨o,its,n,hk,hc,hs,hz,r⟩
 ·obtain⟨z,its,r,p⟩:=h.ok I.hok;exact⟨its,r,p,z⟩
 ·refine⟨its.toList,r,⟨o,I.kIn a o hk,hc,n,by simpa using hs⟩,?_⟩;have e:=r.length;simp only[Array.length_toList] at e;omega
theorem Inv.list_inj(I:Inv X pins σ H s)(h:SqL X.K H a xs)(h':SqL X.K H a ys):xs=ys:=by
 obtain⟨its,r,⟨o,n,e,_,_,d⟩,_⟩:=I.list h;obtain⟨its',r',⟨o',n',e',_,_,d'⟩,_⟩:=I.list h';rw[e] at e';cases e';rw[d] at d';injection d' with d1 _;have:its=its':=by simpa using congrArg Array.toList d1
 subst this;exact r.inj r'
theorem Inv.tuple_inj(I:Inv X pins σ H s)(h:SqT X.K H a xs)(h':SqT X.K H a ys):xs=ys:=by
 obtain⟨its,r,⟨o,e,_,n,d⟩,_⟩:=I.tuple h;obtain⟨its',r',⟨o',e',_,n',d'⟩,_⟩:=I.tuple h';rw[e] at e';cases e';rw[d] at d';injection d' with d1 _;have:its=its':=by simpa using congrArg Array.toList d1
 subst this;exact r.inj r'
end
section
variable{X:Cx}{st:Stmt}{rest:List Stmt}{t u:TS}{e:Expr}{te:TE}{pos:Pos}
def zcf:TS:=fun D σ H=>D.nx σ H
def Z0(t u:TS):TS:=fun D σ H=>t { D with nx:=u D } σ H
theorem Zs:PSs X [] zcf:=fun _ _ σ H _ I h=>wpAny_execs_nil ⟨σ,H,I,h⟩
theorem Zc(h1:PS X st t)(h2:PSs X rest u):PSs X (st :: rest) (Z0 t u):=by
 intro pins s σ H D I h;refine wpAny_execs_cons (thn (h1 pins s σ H { D with nx:=u D } I h) fun f s1 q=>?_);cases f with
 | next =>
   obtain⟨σ',H',I',q⟩:=q;exact h2 pins s1 σ' H' D I' q
 | ret v=>exact q
 | brk=>exact q
 | cont=>exact q
theorem Ze(h1:PS X st t):PSs X [st] t:=by
 intro pins s σ H D I h;refine wpAny_execs_cons (thn (h1 pins s σ H D I h) fun f s1 q=>?_);cases f with
 | next=>exact wpAny_execs_nil q
 | ret v=>exact q
 | brk=>exact q
 | cont=>exact q
theorem Inv.quiet(I:Inv X pins σ H s):interactive X.env=false:=by simp[interactive,I.ok.kind]
def zhv(te:TE):TS:=fun D σ H=>te σ H fun _ H1=>D.nx σ H1
theorem Z2(he:PE X e te)(hs:swapsWith e none pos.line X.env=pure false:=by rfl):PS X (.Expr e pos) (zhv te):=by
 intro pins s σ H D I h;exact wpAny_Expr_any (thn (he pins s σ H _ I h) fun v s1 ⟨x,H1,I1,r1,q1⟩=>⟨σ,H1,I1,q1⟩) I.quiet hs
def zhw(te:TE):TS:=fun D σ H=>te σ H D.rt
theorem Zm(he:PE X e te):PS X (.Return (some e) pos) (zhw te):=by
 intro pins s σ H D I h;exact wpAny_Return_some (thn (he pins s σ H _ I h) fun v s1 ⟨x,H1,I1,r1,q1⟩=>⟨x,σ,H1,I1,r1,q1⟩)
def zat(c:TT)(t u:TS):TS:=fun D σ H=>c σ H fun b H1=>if b=true then t D σ H1 else u D σ H1
theorem Z6(hc:PT X c tc)(ha:PSs X a t)(hb:PSs X b u):PS X (.If c a b pos) (zat tc t u):=by
 intro pins s σ H D I h;refine wpAny_If (thn (hc pins s σ H _ I h) fun d s1 ⟨H1,I1,q1⟩=>?_);cases d with
 | true=>exact ha pins s1 σ H1 D I1 q1
 | false=>exact hb pins s1 σ H1 D I1 q1
end
abbrev TG:=V->St->Hp->(St->Hp->Prop)->Prop
abbrev TGs:=List V->St->Hp->(St->Hp->Prop)->Prop
def PG(X:Cx)(target:Expr)(t:TG):Prop :=
 ∀ (pins:List (Addr×Obj)) (s:Shared) (σ:St) (H:Hp) (v:V) (u:Value) (Q:St->Hp->Prop),Inv X pins σ H s->RelV v u->t v σ H Q ->
   wpAny (model X.prog X.w) X.A (assign target X.env u) (fun _ s'=>∃ σ' H',Inv X pins σ' H' s'/\Q σ' H') X.xe s
def PGs(X:Cx)(ts:List Expr)(t:TGs):Prop :=
 ∀ (pins:List (Addr×Obj)) (s:Shared) (σ:St) (H:Hp) (vs:List V) (us:List Value) (Q:St->Hp->Prop),Inv X pins σ H s->Vals vs us->t vs σ H Q ->
   wpAny (model X.prog X.w) X.A (assignInOrder ((assignEach ts X.env).map (·.2)) us) (fun _ s'=>∃ σ' H',Inv X pins σ' H' s'/\Q σ' H') X.xe s
abbrev zhx:=V->V->V->Hp->(Hp->Prop)->Prop
def zhy(X:Cx)(t:zhx):Prop :=
 ∀ (pins:List (Addr×Obj)) (s:Shared) (σ:St) (H:Hp) (o i v:V) (ov iv u:Value) (Q:Hp->Prop),Inv X pins σ H s->RelV o ov->RelV i iv->RelV v u->t o i v H Q ->
   wpAny (model X.prog X.w) X.A (setItem ov iv u) (fun _ s'=>∃ H',Inv X pins σ H' s'/\Q H') X.xe s
section
variable{X:Cx}{pos:Pos}
def Vb(i:Nat):TG:=fun v σ H Q=>Q (σ.set i (some v)) H
theorem Sn(hN:X.N.Nodup)(hi:X.N[i]?=some x)(hx:Loc X.env.scope x)(hf:C2 X i x:=by first|exact⟨.inl rfl,Wd⟩|exact⟨.inr rfl,Wd⟩|assumption|exact⟨.inl rfl,by assumption⟩|exact⟨.inr rfl,by assumption⟩):PG X (.Name x pos) (Vb i):=by
 intro pins s σ H v u Q I r h;exact wpAny_assign_Name (Er I hN hi hx r (fun s' I'=>⟨_,H,I',h⟩) hf)
def zi7:TGs:=fun vs σ H Q=>vs=[]/\Q σ H
def zhz(t:TG)(u:TGs):TGs:=fun vs σ H Q=>∃ v r,vs=v :: r/\t v σ H fun σ' H'=>u r σ' H' Q
theorem Wl:PGs X [] zi7:=by
 intro pins s σ H vs us Q I r h;obtain⟨e,h⟩:=h;subst e;cases r;exact assignInOrder_nil ⟨σ,H,I,h⟩
theorem Zy(h1:PG X e t)(h2:PGs X es u)
  (hs:(assignEach (e :: es) X.env).map (·.2)=assign e X.env :: (assignEach es X.env).map (·.2):=by rfl):PGs X (e :: es) (zhz t u):=by
 intro pins s σ H vs us Q I r h;obtain⟨v,vr,e1,h⟩:=h;subst e1;cases r with
 | cons r rr =>
   rw[hs];refine assignInOrder_cons (thn (h1 pins s σ H _ _ _ I r h) fun _ s1 ⟨σ1,H1,I1,q1⟩=>?_);exact h2 pins s1 σ1 H1 _ _ Q I1 rr q1
def zh0(K:Frag)(n:Nat)(t:TGs):TG:=fun v σ H Q=>∃ a xs,v=.ref a/\SqT K H a xs/\xs.length=n/\t xs σ H Q
theorem zgh(hc:X.calm=true)(h:PGs X es t)
  (hn:(assignEach es X.env).length=n:=by rfl) (hst:(assignEach es X.env).findIdx? (·.1)=none:=by rfl):PG X (.Tuple es k pos) (zh0 X.K n t):=by
 intro pins s σ H v u Q I r hw;obtain⟨a,xs,e1,hq,hl,hw⟩:=hw;subst e1;cases r;obtain⟨its,rv,ht,hz⟩:=I.tuple hq;refine assign_Tuple_tuple (I.ok.hd hc) ht (by simp[hn,<- hl,rv.length]) hst fun h' hx=>?_;have I1:Inv X pins σ H { s with heap:=h' }:=I.kept (t':=s.toks) fun b o e=>hx b o (ztb (Heap.lt_size e)) e;exact h pins _ σ H xs _ Q I1 (by simpa using rv) hw
def zi8(to ti:TE)(t:zhx):TG:=fun v σ H Q=>to σ H fun o H1=>ti σ H1 fun i H2=>t o i v H2 fun H3=>Q σ H3
theorem zgi(ho:PE X o to)(hi:PE X i ti)(hs:zhy X t)
  (ha:∀ v,assign (.Subscript o i pos) X.env v=(do
   let ov <- holding [v] (eval o X.env)
   let iv <- holding [v,ov] (eval i X.env)
   standAt pos
   holding [v,ov,iv] (setItem ov iv v)
   release [v,ov,iv] []):=by intro _;rfl):PG X (.Subscript o i pos) (zi8 to ti t):=by
 intro pins s σ H v u Q I r h;rw[ha];refine wpAny_bind (wpAny_holding (thn (ho pins s σ H _ I h) fun ov s1 ⟨x,H1,I1,r1,q1⟩=>?_));refine wpAny_bind (wpAny_holding (thn (hi pins s1 σ H1 _ I1 q1) fun iv s2 ⟨y,H2,I2,r2,q2⟩=>?_));refine wpAny_bind (wpAny_standAt (wpAny_bind (wpAny_holding (thn (hs pins s2 σ H2 x y v ov iv u _ I2 r1 r2 r q2) fun _ s3 ⟨H3,I3,q3⟩=>?_))));exact wpAny_release ⟨σ,H3,I3,q3⟩
def zau(te:TE)(g:TG):TS:=fun D σ H=>te σ H fun x H1=>g x σ H1 D.nx
theorem Ko(he:PE X e te)(hg:PG X tg g)(hs:swapsWithSole [tg] e pos.line X.env=pure false:=by rfl)(hw:swappedStores [tg] e X.env=pure none:=by rfl)
  (h1:(assignEach [tg] X.env).map (·.2)=[assign tg X.env]:=by rfl):PS X (.Assign [tg] e pos) (zau te g):=by
 intro pins s σ H D I h;refine wpAny_Assign_stores (thn (he pins s σ H _ I h) fun v s1 ⟨x,H1,I1,r1,q1⟩=>?_) hs hw;rw[h1];exact thn (hg pins s1 σ H1 x v _ I1 r1 q1) fun _ s2 q=>q
theorem zgj(hN:X.N.Nodup)(hi:X.N[i]?=some x)(hx:Loc X.env.scope x)(he:PE X e te)(hs:swapsWith e (some (.Name x pos')) pos.line X.env=pure false:=by rfl)(hf:C2 X i x:=by first|exact⟨.inl rfl,Wd⟩|exact⟨.inr rfl,Wd⟩|assumption|exact⟨.inl rfl,by assumption⟩|exact⟨.inr rfl,by assumption⟩) :
  PS X (.Assign [.Name x pos'] e pos) (zau te (Vb i)):=by
 intro pins s σ H D I h;refine wpAny_Assign_Name (thn (he pins s σ H _ I h) fun v s1 ⟨y,H1,I1,r1,q1⟩=>?_) hs;exact Er I1 hN hi hx r1 (fun s2 I2=>⟨_,H1,I2,q1⟩) hf
end
section
variable{X:Cx}{pos:Pos}
def C3(c:TT)(tb:TS):TS:=fun D σ H=>∃ W:Nat->St->Hp->Prop,(∃ m,W m σ H)/\∀ m σ H,W m σ H ->
 c σ H fun b H1=>if b=true then ∃ N:St->Hp->Prop,(∀ σ' H',N σ' H'->∃ m',m' < m/\W m' σ' H')/\tb { D with nx:=N,ct:=N,bk:=D.nx } σ H1 else D.nx σ H1
theorem Kp(hp:PassesOwn (model X.prog X.w) X.A X.env X.xe)(hc:PT X c tc)(hb:PSs X body tb):PS X (.While c body [] pos) (C3 tc tb):=by
 intro pins s σ H D I h;obtain⟨W,⟨m0,w0⟩,turn⟩:=h;refine wpAny_While (codeAny_whileLoop (fun n s'=>∃ σ' H',Inv X pins σ' H' s'/\W n σ' H') ?_ m0 ⟨σ,H,I,w0⟩);rintro n s1 ⟨σ1,H1,I1,w1⟩;refine wpAny_passesOwn hp (thn (hc pins s1 σ1 H1 _ I1 (turn n σ1 H1 w1)) fun b s2 ⟨H2,I2,q2⟩=>?_);cases b with
 | true =>
   obtain⟨N,hN,q2⟩:=q2;rw[if_pos rfl];refine wpAny_passesOwn hp (thn (hb pins s2 σ1 H2 _ I2 q2) fun f s3 q3=>?_);cases f with
   | next =>
     obtain⟨σ3,H3,I3,n3⟩:=q3;obtain⟨m',hm,w3⟩:=hN σ3 H3 n3;exact⟨m',hm,σ3,H3,I3,w3⟩
   | cont =>
     obtain⟨σ3,H3,I3,n3⟩:=q3;obtain⟨m',hm,w3⟩:=hN σ3 H3 n3;exact⟨m',hm,σ3,H3,I3,w3⟩
   | brk=>exact q3
   | ret v=>exact q3
 | false =>
   rw[if_neg zs3];exact wpAny_execs_nil ⟨σ1,H2,I2,q2⟩
end
structure It where
 go:Nat->Hp->Prop
 yld:Nat->Hp->V->Hp->Prop
 stop:Nat->Hp->Prop
def FpOk(X:Cx)(pins:List (Addr×Obj))(H:Hp)(b:Addr):Prop :=
 H b=none/\b≠X.env.locals/\b∉X.fs/\(b∈X.ex\/X.s₀.heap.objs.size<=b)/\(∀ x c,X.env.cells.lookup x=some c->c≠b)/\∀ p∈X.pn++pins,p.1≠b
theorem Inv.fpOk(I:Inv X pins σ H s)(hb:s.heap.objs.size<=b)(hn:H' b=none):FpOk X pins H' b:=by
 refine⟨hn,Nat.ne_of_gt (zs1 I.lt hb),I.nofs hb,.inr (zs2 I.sz hb),fun x c e z=>?_,fun p hp z=>?_⟩
 ·obtain⟨v,q⟩:=I.cell x c e;exact absurd (zs1 q.lt (by rw[z];exact hb)) (zt6 _)
 ·exact absurd (zs1 (Heap.lt_size (I.pin p hp).1) (by rw[z];exact hb)) (zt6 _)
structure Et(P:Program)(w:World)(K:Frag)(tg:Expr)(J:It)(fp:List Addr)(it:Addr)(tn:Nat->Heap->Prop):Prop where
 mem:it∈fp
 obj:∀ i h,tn i h->∀ b∈fp,∃ o,h.get? b=some o/\∀ v,o.data≠.cell v
 keep:∀ i h h',tn i h->(∀ b∈fp,∀ o,h.get? b=some o->h'.get? b=some o)->tn i h'
 item:∀ (X:Cx),X.prog=P->X.w=w->X.K=K->X.calm=true->∀ (i:Nat) (pins:List (Addr×Obj)) (s:Shared) (σ:St) (H:Hp) (E:Value->Shared->Prop),Inv X pins σ H s->(∀ b∈fp,FpOk X pins H b)->tn i s.heap->J.go i H ->
  wpAny (model P w) X.A (pyNext (.ref it)) (fun r s1=>∃ u,r=some u /\
   wpAny (model P w) X.A (letOwnedTupleGo tg (.ref it) u) (fun _ s2=>∃ x H',Inv X pins σ H' s2/\RelV x u/\J.yld i H x H'/\tn (i+1) s2.heap/\∀ b∈fp,H' b=none) E s1) E s
 done:∀ (X:Cx),X.prog=P->X.w=w->X.K=K->X.calm=true->∀ (i:Nat) (pins:List (Addr×Obj)) (s:Shared) (σ:St) (H:Hp) (E:Value->Shared->Prop),Inv X pins σ H s->(∀ b∈fp,FpOk X pins H b)->tn i s.heap->J.stop i H ->
  wpAny (model P w) X.A (pyNext (.ref it)) (fun r s1=>r=none/\Inv X pins σ H s1) E s
 self:∀ (A:Around) (i:Nat) (s:Shared) (Q:Value->Shared->Prop) (E:Value->Shared->Prop),tn i s.heap->Q (.ref it) s->wpAny (model P w) A (pyIter (.ref it)) Q E s
abbrev TI:=St->Hp->(It->Hp->Prop)->Prop
def PIE(X:Cx)(pins:List (Addr×Obj))(σ:St)(tg:Expr)(R:It->Hp->Prop)(itv:Value)(s2:Shared):Prop :=
 ∃ (it:Addr) (fp:List Addr) (tn:Nat->Heap->Prop) (J:It) (H':Hp),itv=.ref it/\Inv X pins σ H' s2/\Et X.prog X.w X.K tg J fp it tn/\tn 0 s2.heap/\(∀ b∈fp,FpOk X pins H' b)/\R J H'
def PI(X:Cx)(tg iter:Expr)(wi:TI):Prop :=
 ∀ (pins:List (Addr×Obj)) (s:Shared) (σ:St) (H:Hp) (R:It->Hp->Prop),Inv X pins σ H s->wi σ H R ->
   wpAny (model X.prog X.w) X.A (eval iter X.env) (fun v s1=>wpAny (model X.prog X.w) X.A (pyIter v) (PIE X pins σ tg R) X.xe s1) X.xe s
theorem zcg(ho:s.heap.get? it=some o)(hc:o.cls=.type n)(hd:o.data=.fields vs)
  (hn:["enumerate","zip","dict_itemiterator","dict_reverseitemiterator","odict_iterator","itertools.zip_longest","itertools.pairwise"].contains n=false) (hQ:Q () s):wpAny M A (letOwnedTupleGo tg (.ref it) u) Q E s:=by
 unfold letOwnedTupleGo;cases tg<;>first
  | exact wpAny_pure hQ
  | (cases u<;>first
    | exact wpAny_pure hQ
    | (refine wpAny_bind (wpAny_load ho ?_)
       rw[hc,hd];show wpAny M A (if (["enumerate","zip","dict_itemiterator","dict_reverseitemiterator","odict_iterator","itertools.zip_longest","itertools.pairwise"].contains n&&vs[0]? == some (rawInt _))=true then _ else _) Q E s;rw[if_neg (by intro h;rw[hn,Bool.false_and] at h;cases h)];exact wpAny_pure hQ))
def Itl(K:Frag)(a:Addr):It :=
 ⟨fun i H=>∃ xs x,SqL K H a xs/\xs[i]?=some x,fun i H x H'=>H'=H/\∀ xs,SqL K H a xs->xs[i]?=some x,fun i H=>∃ xs,SqL K H a xs/\xs.length<=i⟩
def Itr(lo:Int)(n:Nat):It:=⟨fun i _=>i<n,fun i H x H'=>H'=H/\x=.int (lo+i),fun i _=>n<=i⟩
theorem zav{P:Program}{w:World}{K:Frag}{tg:Expr}(a it:Addr):Et P w K tg (Itl K a) [it] it (fun i h=>h.IsListIter it a i) where
 mem:=by simp
 obj:=fun i h st b hb=>by
  have e:b=it:=by simpa using hb
  subst e;obtain⟨o,e,c,d⟩:=st;exact⟨o,e,fun v z=>by rw[d] at z;cases z⟩
 keep:=fun i h h' st k=>st.at fun o e=>k it (by simp) o e
 item:=by
  intro X hP hw hK hc i pins s σ H E I hf st hg;subst hP hw hK;obtain⟨xs,x,hq,hx⟩:=hg;obtain⟨its,rv,p,hz⟩:=I.list hq;obtain⟨u,hu,ru⟩:=rv.get hx;obtain⟨f0,f1,f2,f3,f4,f5⟩:=hf it (by simp);refine wpAny_pyNext_list_item st p.isList (x:=u) (by simpa using hu) fun h' st' sb=>?_;have I1:Inv X pins σ H { s with heap:=h' }:=I.turned (t':=s.toks) (fun b o hb e=>(sb.2 b hb).trans e) f0 f1 f3 f4 f5;obtain⟨o,e,c,d⟩:=id st';exact⟨u,rfl,zcg (s:={ s with heap:=h' }) e c d ⋯ ⟨x,H,I1,ru,⟨rfl,fun ys hy=>by rw[I.list_inj hy hq];exact hx⟩,st',fun b hb=>(hf b hb).1⟩⟩
 done:=by
  intro X hP hw hK hc i pins s σ H E I hf st hg;subst hP hw hK;obtain⟨xs,hq,hx⟩:=hg;obtain⟨its,rv,p,hz⟩:=I.list hq;obtain⟨f0,f1,f2,f3,f4,f5⟩:=hf it (by simp);have hl:=rv.length;exact wpAny_pyNext_list_end (I.ok.hd hc) st p.isList (by simp;omega) fun h' eb=>⟨rfl,I.turned (t':=s.toks) (fun b o hb e=>eb b o hb e) f0 f1 f3 f4 f5⟩
 self:=fun _ _ _ _ _ st h=>wpAny_pyIter_listiter st h
theorem C4{P:Program}{w:World}{K:Frag}{tg:Expr}(it:Addr)(lo:Int)(n:Nat):Et P w K tg (Itr lo n) [it] it (fun i h=>IsRangeIter h it (lo+(i:Nat)*1) ((n:Int)-(i:Nat)) 1) where
 mem:=by simp
 obj:=fun i h st b hb=>by
  have e:b=it:=by simpa using hb
  subst e;exact⟨_,st,fun v z=>by
   have z':Data.fields _=Data.cell v:=z;cases z'⟩
 keep:=fun i h h' st k=>k it (by simp) _ st
 item:=by
  intro X hP hw hK hc i pins s σ H E I hf st hg;subst hP hw hK;obtain⟨f0,f1,f2,f3,f4,f5⟩:=hf it (by simp);have W:=Walks.range (prog:=X.prog) (w:=X.w) (I.ok.hd hc) it lo 1 n;refine W.item i s _ _ hg st fun v h' tk hv st' kk=>?_;obtain⟨t,rfl⟩:=hv;have I1:Inv X pins σ H { s with heap:=h',toks:=tk }:=I.turned (fun b o hb e=>kk b o (by simpa using hb) e) f0 f1 f3 f4 f5;refine⟨_,rfl,zcg (s:={ s with heap:=h',toks:=tk }) (n:="range_iterator") st' rfl rfl ⋯ ⟨.int (lo+i),H,I1,⟨t,?_⟩,⟨rfl,rfl⟩,st',fun b hb=>(hf b hb).1⟩⟩;rw[Int.mul_one]
 done:=by
  intro X hP hw hK hc i pins s σ H E I hf st hg;subst hP hw hK;obtain⟨f0,f1,f2,f3,f4,f5⟩:=hf it (by simp);exact wpAny_pyNext_range_end (I.ok.hd hc) st (by have:n<=i:=hg;omega) fun h' eb=>⟨rfl,I.turned (t':=s.toks) (fun b o hb e=>eb b o hb e) f0 f1 f3 f4 f5⟩
 self:=fun _ _ _ _ _ st h=>wpAny_pyIter_rangeiter st h
section
variable{X:Cx}{tg:Expr}
inductive zgk(K:Frag)(R:It->Hp->Prop)(x:V)(H1:Hp):Prop where
 | mk(a)(_:x=.ref a)(_:(∃ xs,SqL K H1 a xs))(_:R (Itl K a) H1)
def zfu(K:Frag)(tl:TE):TI:=fun σ H R=>tl σ H fun x H1=>zgk K R x H1
theorem zek{l:Expr}{tl:TE}(hl:PE X l tl):PI X tg l (zfu X.K tl):=by
 intro pins s σ H R I h;refine thn (hl pins s σ H _ I h) fun v s1 ⟨x,H1,I1,r1,q1⟩=>?_;obtain⟨a,e,⟨xs,hq⟩,q⟩:=q1;subst e;cases r1;obtain⟨its,rv,p,hz⟩:=I1.list hq;refine wpAny_pyIter_list p.isList ?_;refine⟨s1.heap.objs.size,[s1.heap.objs.size],_,_,H1,rfl,I1.kept (t':=s1.toks) fun b o e=>Heap.get?_push_of_some _ e,zav a _,⟨_,Heap.get?_push_size _ rfl,rfl,rfl⟩,fun b hb=>?_,q⟩;have e:b=s1.heap.objs.size:=by simpa using hb
 subst e;exact I1.fpOk (zst _) (I1.hok.fresh (zst _))
theorem Eu{pins:List (Addr×Obj)}{σ:St}{H:Hp}{s:Shared}{R:It->Hp->Prop}{E:Value->Shared->Prop}{lo hi:Int}{t u v:Tok}{tk:Nat}(I:Inv X pins σ H s)(h1:-(2 ^ 62)<=lo)(h2:lo<2 ^ 62)(h3:-(2 ^ 62)<=hi)(h4:hi<2 ^ 62)
  (q:R (Itr lo (hi-lo).toNat) H):wpAny (model X.prog X.w) X.A (pyIter (.ref s.heap.objs.size)) (PIE X pins σ tg R) E { s with heap:=s.heap.push { cls:=.type "range",data:=.fields #[.int lo t,.int hi u,.int 1 v] },toks:=tk }:=by
 refine wpAny_pyIter_range (IsRange.new ..) (small_one h1 h2 h3 h4) ?_;have I1:Inv X pins σ H { s with heap:=s.heap.push { cls:=.type "range",data:=.fields #[.int lo t,.int hi u,.int 1 v] },toks:=tk }:=I.kept fun b o e=>Heap.get?_push_of_some _ e;refine⟨(s.heap.push { cls:=.type "range",data:=.fields #[.int lo t,.int hi u,.int 1 v] }).objs.size,[(s.heap.push { cls:=.type "range",data:=.fields #[.int lo t,.int hi u,.int 1 v] }).objs.size],_,_,H,rfl,
  I1.kept (t':=tk) fun b o e=>Heap.get?_push_of_some _ e,C4 _ lo (hi-lo).toNat,?_,fun b hb=>?_,q⟩
 ·have e1:lo+((0:Nat):Int)*1=lo:=by simp
  have e2:(((hi-lo).toNat:Nat):Int)-((0:Nat):Int)=Builtin.Range.rangeSize lo hi 1:=by rw[rangeSize_one];split<;>omega
  show IsRangeIter _ _ (lo+((0:Nat):Int)*1) ((((hi-lo).toNat:Nat):Int)-((0:Nat):Int)) 1;rw[e1,e2];exact Heap.get?_push_size _ rfl
 ·have e:b=(s.heap.push { cls:=.type "range",data:=.fields #[.int lo t,.int hi u,.int 1 v] }).objs.size:=by simpa using hb
  subst e;exact I1.fpOk (zst _) (I1.hok.fresh (zst _))
def zh1(ta:TA):TI:=fun σ H R=>ta σ H fun vs H1=>∃ j:Int,vs=[.int j]/\-(2 ^ 62)<=j/\j<2 ^ 62/\R (Itr 0 j.toNat) H1
def zh2(ta:TA):TI:=fun σ H R=>ta σ H fun vs H1=>∃ i j:Int,vs=[.int i,.int j]/\(-(2 ^ 62)<=i/\i<2 ^ 62/\-(2 ^ 62)<=j/\j<2 ^ 62)/\R (Itr i (j-i).toNat) H1
theorem Y5{a:Expr}{ta:TA}{p pos:Pos}(hg:Gl X "range")(hm:X.mg "range"=none)(ha:PA X [a] ta)(hs:starEach [a] X.env=[(false,eval a X.env)]:=by rfl):PI X tg (.Call (.Name "range" p) [a] [] pos) (zh1 ta):=by
 intro pins s σ H R I h;refine Call_ (Po I hg hm boot_range (PyProof.Rows.callWith_type1 (thn (ha pos pins s σ H _ I h) fun us s1 ⟨vs,H1,I1,r1,q1⟩=>?_) hs rfl));obtain⟨j,e,q1,q2,q⟩:=q1;subst e;cases r1 with
 | cons r rr =>
   cases rr;obtain⟨t,rfl⟩:=r;exact call_range_1 (Eu I1 ⋯ ⋯ q1 q2 (by simpa using q))
theorem Hy(hg:Gl X "range")(hm:X.mg "range"=none)(ha:PA X [a,b] ta)(hs:starEach [a,b] X.env=[(false,eval a X.env),(false,eval b X.env)]:=by rfl)(hs2:starEach [b] X.env=[(false,eval b X.env)]:=by rfl) :
  PI X tg (.Call (.Name "range" p) [a,b] [] pos) (zh2 ta):=by
 intro pins s σ H R I h;refine Call_ (Po I hg hm boot_range (PyProof.Rows.callWith_type1 (thn (ha pos pins s σ H _ I h) fun us s1 ⟨vs,H1,I1,r1,q1⟩=>?_) (by rw[hs,hs2]) (by rw[hs2];rfl)));obtain⟨i,j,e,⟨q1,q2,q3,q4⟩,q⟩:=q1;subst e;cases r1 with
 | cons r rr =>
   cases rr with
   | cons r' rr =>
     cases rr;obtain⟨t,rfl⟩:=r;obtain⟨t',rfl⟩:=r';exact call_range_2 (Eu I1 q1 q2 q3 q4 q)
def zch(wi:TI)(g:TG)(tb:TS):TS:=fun D σ H=>wi σ H fun J H1=>∃ W:Nat->Nat->St->Hp->Prop,(∃ m,W 0 m σ H1)/\∀ i m σ H,W i m σ H ->
 (J.stop i H/\D.nx σ H)\/(J.go i H/\∃ N:St->Hp->Prop,(∀ σ' H',N σ' H'->∃ m',m' < m/\W (i+1) m' σ' H')/\∀ x H',J.yld i H x H'->g x σ H' fun σ2 H2=>tb { D with nx:=N,ct:=N,bk:=D.nx } σ2 H2)
def Nu(fp:List Addr)(h:Heap):List (Addr×Obj):=fp.filterMap fun b=>(h.get? b).map fun o=>(b,o)
theorem So(hb:b∈fp)(e:h.get? b=some o):(b,o)∈Nu fp h:=zun.mpr ⟨b,hb,by rw[e];rfl⟩
theorem zaw(hp:p∈Nu fp h):p.1∈fp/\h.get? p.1=some p.2:=by
 obtain⟨b,hb,e⟩:=zun.mp hp;cases q:h.get? b with
 | none=>rw[q] at e;cases e
 | some o =>
   rw[q] at e;have e':(b,o)=p:=Option.some.inj e;subst e';exact⟨hb,q⟩
theorem Inv.pinned(I:Inv X pins σ H s)(hf:∀ b∈fp,FpOk X pins H b)(ho:∀ b∈fp,∃ o,s.heap.get? b=some o/\∀ v,o.data≠.cell v):Inv X (pins++Nu fp s.heap) σ H s :=
 I.pins_of fun p hp=>(zsv.mp hp).elim (fun z=>I.pin p (zs6 _ z)) fun z=>by
  obtain⟨hb,e⟩:=zaw z;obtain⟨f0,f1,f2,_⟩:=hf p.1 hb;obtain⟨o,e',d⟩:=ho p.1 hb;rw[e] at e';cases e';exact⟨e,f0,f1,f2,d⟩
theorem Inv.unpinned(I:Inv X (pins++pl) σ H s):Inv X pins σ H s:=I.pins_of fun p hp=>I.pin p (zs6 _ (zta _ hp))
theorem Yy(hp:PassesOwn (model X.prog X.w) X.A X.env X.xe)(hc:X.calm=true)(hi:PI X tg iter wi)(hg:PG X tg g)(hb:PSs X body tb)
  (hs:∀ x,foldedSetIterable iter X.env x=pure x:=by intro _;rfl):PS X (.For tg iter body [] pos) (zch wi g tb):=by
 intro pins s σ H D I h;refine wpAny_For (thn (hi pins s σ H _ I h) fun v s1 h1=>thn h1 fun itv s2 h2=>?_) hs;obtain⟨it,fp,tn,J,H2,e,I2,T,st2,f2,W,⟨m0,w0⟩,turn⟩:=h2;subst e;have stat:∀ {H':Hp},(∀ b∈fp,H' b=none)->∀ b∈fp,FpOk X pins H' b:=fun hn b hb=>⟨hn b hb,(f2 b hb).2⟩
 refine codeAny_forLoop_any (fun n s'=>∃ i σ' H',Inv X pins σ' H' s'/\tn i s'.heap/\(∀ b∈fp,H' b=none)/\W i n σ' H') ?_ m0 ⟨0,σ,H2,I2,st2,fun b hb=>(f2 b hb).1,w0⟩;rintro n s3 ⟨i,σ3,H3,I3,st3,fr3,w3⟩;rcases turn i n σ3 H3 w3 with ⟨stop,qn⟩|⟨go,N,hN,step⟩
 ·refine wpAny_passesOwn hp (thn (T.done X rfl rfl rfl hc i pins s3 σ3 H3 X.xe I3 (stat fr3) st3 stop) fun r s4 ⟨hr,I4⟩=>?_);subst hr;exact wpAny_execs_nil ⟨σ3,H3,I4,qn⟩
 ·refine wpAny_passesOwn hp (thn (T.item X rfl rfl rfl hc i pins s3 σ3 H3 X.xe I3 (stat fr3) st3 go) fun r s4 ⟨u,hr,h4⟩=>?_);subst hr;refine wpAny_passesOwn hp (thn h4 fun _ s5 ⟨x,H5,I5,r5,y5,st5,fr5⟩=>?_);have I5':=I5.pinned (stat fr5) (T.obj _ _ st5);refine wpAny_passesOwn hp (thn (hg _ s5 σ3 H5 x u _ I5' r5 (step x H5 y5)) fun _ s6 ⟨σ6,H6,I6,q6⟩=>?_);refine wpAny_passesOwn hp (thn (hb _ s6 σ6 H6 _ I6 q6) fun f s7 q7=>?_);have again:∀ {σ7:St} {H7:Hp},Inv X (pins++Nu fp s5.heap) σ7 H7 s7->N σ7 H7->∃ m,m<n/\∃ i σ' H',Inv X pins σ' H' s7/\tn i s7.heap/\(∀ b∈fp,H' b=none)/\W i m σ' H':=fun {σ7 H7} I7 n7=>by
   obtain⟨m',hm,w7⟩:=hN σ7 H7 n7;refine⟨m',hm,i+1,σ7,H7,I7.unpinned,T.keep _ _ _ st5 fun b hb o e=>(I7.pin (b,o) (zs6 _ (zs6 _ (So hb e)))).1,fun b hb=>?_,w7⟩;obtain⟨o,e,d⟩:=T.obj _ _ st5 b hb;exact(I7.pin (b,o) (zs6 _ (zs6 _ (So hb e)))).2.1
  cases f with
  | next=>obtain⟨σ7,H7,I7,n7⟩:=q7;exact again I7 n7
  | cont=>obtain⟨σ7,H7,I7,n7⟩:=q7;exact again I7 n7
  | brk=>obtain⟨σ7,H7,I7,q7⟩:=q7;exact⟨σ7,H7,I7.unpinned,q7⟩
  | ret v=>obtain⟨x7,σ7,H7,I7,r7,q7⟩:=q7;exact⟨x7,σ7,H7,I7.unpinned,r7,q7⟩
end
theorem Xv{K:Frag}{a:Addr}{xs:List V}{g:TG}{tb:TS}{D:Ox}{σ:St}{H:Hp}(Pv:Nat->St->Hp->Prop)(h0:Pv 0 σ H)(hl:∀ i σ H,i<=xs.length->Pv i σ H->SqL K H a xs)
  (hs:∀ i x σ H,xs[i]?=some x->Pv i σ H->g x σ H fun σ2 H2=>tb { D with nx:=Pv (i+1),ct:=Pv (i+1),bk:=D.nx } σ2 H2) (hd:∀ σ H,Pv xs.length σ H->D.nx σ H) :
  ∃ W:Nat->Nat->St->Hp->Prop,(∃ m,W 0 m σ H)/\∀ i m σ H,W i m σ H ->
    ((Itl K a).stop i H/\D.nx σ H)\/((Itl K a).go i H/\∃ N:St->Hp->Prop,(∀ σ' H',N σ' H'->∃ m',m' < m/\W (i+1) m' σ' H')/\∀ x H',(Itl K a).yld i H x H'->g x σ H' fun σ2 H2=>tb { D with nx:=N,ct:=N,bk:=D.nx } σ2 H2):=by
 refine⟨fun i m σ H=>m=xs.length-i/\i<=xs.length/\Pv i σ H,⟨xs.length,by simp,zs9 _,h0⟩,?_⟩;rintro i m σ H ⟨rfl,hi,p⟩;have q:=hl i σ H hi p;by_cases hlt:i<xs.length
 ·refine .inr ⟨⟨xs,xs[i],q,by simp[hlt]⟩,Pv (i+1),fun σ' H' p'=>⟨xs.length-(i+1),by omega,rfl,hlt,p'⟩,fun x H' y=>?_⟩;obtain⟨e,y⟩:=y;subst e;exact hs i x σ _ (y xs q) p
 ·have e:i=xs.length:=by omega
  subst e;exact .inl ⟨⟨xs,q,zst _⟩,hd σ H p⟩
theorem Xl{lo:Int}{n:Nat}{g:TG}{tb:TS}{D:Ox}{σ:St}{H:Hp}(Pv:Nat->St->Hp->Prop)(h0:Pv 0 σ H)
  (hs:∀ i σ H,i<n->Pv i σ H->g (.int (lo+i)) σ H fun σ2 H2=>tb { D with nx:=Pv (i+1),ct:=Pv (i+1),bk:=D.nx } σ2 H2) (hd:∀ σ H,Pv n σ H->D.nx σ H) :
  ∃ W:Nat->Nat->St->Hp->Prop,(∃ m,W 0 m σ H)/\∀ i m σ H,W i m σ H ->
    ((Itr lo n).stop i H/\D.nx σ H)\/((Itr lo n).go i H/\∃ N:St->Hp->Prop,(∀ σ' H',N σ' H'->∃ m',m' < m/\W (i+1) m' σ' H')/\∀ x H',(Itr lo n).yld i H x H'->g x σ H' fun σ2 H2=>tb { D with nx:=N,ct:=N,bk:=D.nx } σ2 H2):=by
 refine⟨fun i m σ H=>m=n-i/\i<=n/\Pv i σ H,⟨n,by simp,zs9 _,h0⟩,?_⟩;rintro i m σ H ⟨rfl,hi,p⟩;by_cases hlt:i<n
 ·refine .inr ⟨hlt,Pv (i+1),fun σ' H' p'=>⟨n-(i+1),by omega,rfl,hlt,p'⟩,fun x H' y=>?_⟩;obtain⟨e,y⟩:=y;subst e y;exact hs i σ _ hlt p
 ·have e:i=n:=by omega
  subst e;exact .inl ⟨zst _,hd σ H p⟩
abbrev R2:=V->V->Hp->VK->Prop
def OpR(X:Cx)(f:Value->Value->Sem Value)(r:R2):Prop :=
 ∀ (pins:List (Addr×Obj)) (s:Shared) (σ:St) (H:Hp) (x y:V) (v u:Value) (Q:VK),Inv X pins σ H s->RelV x v->RelV y u->r x y H Q ->
   wpAny (model X.prog X.w) X.A (f v u) (EP X pins σ Q) X.xe s
def UnR(X:Cx)(f:Value->Sem Value)(r:V->Hp->VK->Prop):Prop :=
 ∀ (pins:List (Addr×Obj)) (s:Shared) (σ:St) (H:Hp) (x:V) (v:Value) (Q:VK),Inv X pins σ H s->RelV x v->r x H Q ->
   wpAny (model X.prog X.w) X.A (f v) (EP X pins σ Q) X.xe s
def Ui(X:Cx)(f:Value)(r:List V->Hp->VK->Prop):Prop :=
 ∀ (pins:List (Addr×Obj)) (s:Shared) (σ:St) (H:Hp) (xs:List V) (us:List Value) (Q:VK),Inv X pins σ H s->Vals xs us->r xs H Q ->
   wpAny (model X.prog X.w) X.A (call f us) (EP X pins σ Q) X.xe s
def zi9(X:Cx)(r:V->Hp->(Bool->Hp->Prop)->Prop):Prop :=
 ∀ (pins:List (Addr×Obj)) (s:Shared) (σ:St) (H:Hp) (x:V) (v:Value) (Q:Bool->Hp->Prop),Inv X pins σ H s->RelV x v->r x H Q ->
   wpAny (model X.prog X.w) X.A (truthy v) (TP X pins σ Q) X.xe s
def tOp(r:R2)(ta tb:TE):TE:=fun σ H Q=>ta σ H fun x H1=>tb σ H1 fun y H2=>r x y H2 Q
def tUn(r:V->Hp->VK->Prop)(ta:TE):TE:=fun σ H Q=>ta σ H fun x H1=>r x H1 Q
inductive rI(C:Int->Int->Prop)(g:Int->Int->V)(x:V)(y:V)(H:Hp)(Q:VK):Prop where
 | mk(i)(j)(_:x=.int i)(_:y=.int j)(_:C i j/\Q (g i j) H)
inductive rI0(g:Int->Int->V)(x:V)(y:V)(H:Hp)(Q:VK):Prop where
 | mk(i)(j)(_:x=.int i)(_:y=.int j)(_:Q (g i j) H)
inductive rU(g:Int->V)(x:V)(H:Hp)(Q:VK):Prop where
 | mk(i)(_:x=.int i)(_:Q (g i) H)
section
variable{X:Cx}{a b c:Expr}{ta tb tc:TE}{pos:Pos}
theorem binT(ha:PE X a ta)(hb:PE X b tb){pins:List (Addr×Obj)}{s:Shared}{σ:St}{H:Hp}{R:V->V->Hp->Prop}(I:Inv X pins σ H s)
  (h:ta σ H fun x H1=>tb σ H1 fun y H2=>R x y H2) {Q:Value->Shared->Prop} {f:Value->Value->Sem Value}
  (hf:∀ v u s2 x y H2,Inv X pins σ H2 s2->RelV x v->RelV y u->R x y H2->wpAny (model X.prog X.w) X.A (f v u) Q X.xe s2) :
  wpAny (model X.prog X.w) X.A (eval a X.env) (fun v s₁=>wpAny (model X.prog X.w) X.A (eval b X.env) (fun u s₂=>wpAny (model X.prog X.w) X.A (f v u) Q X.xe s₂) X.xe s₁) X.xe s:=by
 refine thn (ha pins s σ H _ I h) fun v s1 ⟨x,H1,I1,r1,q1⟩=>?_;refine thn (hb pins s1 σ H1 _ I1 q1) fun u s2 ⟨y,H2,I2,r2,q2⟩=>?_;exact hf v u s2 x y H2 I2 r1 r2 q2
theorem Zq{op:Operator}{r:R2}(ho:OpR X (binaryOp op) r)(ha:PE X a ta)(hb:PE X b tb):PE X (.BinOp a op b pos) (tOp r ta tb):=by
 intro pins s σ H Q I h;exact wpAny_BinOp (binT ha hb I h fun v u s2 x y H2 I2 rx ry q=>ho pins s2 σ H2 x y v u Q I2 rx ry q)
theorem Kq(ho:UnR X (unaryOp op) r)(ha:PE X a ta):PE X (.UnaryOp op a pos) (tUn r ta):=by
 intro pins s σ H Q I h;exact UnaryOp_ (thn (ha pins s σ H _ I h) fun v s1 ⟨x,H1,I1,r1,q1⟩=>ho pins s1 σ H1 x v Q I1 r1 q1)
theorem opI{f:Value->Value->Sem Value}{C:Int->Int->Prop}{g:Int->Int->Int}
  (rule:∀ (i j:Int) (t u:Tok) (s:Shared) (Q:Value->Shared->Prop) (E:Value->Shared->Prop),C i j->Q (.int (g i j) s.toks) { s with toks:=s.toks+1 }->wpAny (model X.prog X.w) X.A (f (.int i t) (.int j u)) Q E s) :
  OpR X f (rI C fun i j=>.int (g i j)):=by
 intro pins s σ H x y v u Q I rx ry h;obtain⟨i,j,rfl,rfl,hc,q⟩:=h;obtain⟨t,rfl⟩:=rx;obtain⟨t',rfl⟩:=ry;exact rule i j t t' s _ _ hc ⟨.int (g i j),H,I.tok _,⟨_,rfl⟩,q⟩
theorem zh3{f:Value->Value->Sem Value}{g:Int->Int->Int}
  (rule:∀ (i j:Int) (t u:Tok) (s:Shared) (Q:Value->Shared->Prop) (E:Value->Shared->Prop),Q (.int (g i j) s.toks) { s with toks:=s.toks+1 }->wpAny (model X.prog X.w) X.A (f (.int i t) (.int j u)) Q E s) :
  OpR X f (rI0 fun i j=>.int (g i j)):=by
 intro pins s σ H x y v u Q I rx ry h;obtain⟨i,j,rfl,rfl,q⟩:=h;obtain⟨t,rfl⟩:=rx;obtain⟨t',rfl⟩:=ry;exact rule i j t t' s _ _ ⟨.int (g i j),H,I.tok _,⟨_,rfl⟩,q⟩
theorem zel{f:Value->Value->Sem Value}{g:Int->Int->Bool}
  (rule:∀ (i j:Int) (t u:Tok) (s:Shared) (Q:Value->Shared->Prop) (E:Value->Shared->Prop),Q (.bool (g i j)) s->wpAny (model X.prog X.w) X.A (f (.int i t) (.int j u)) Q E s) :
  OpR X f (rI0 fun i j=>.bl (g i j)):=by
 intro pins s σ H x y v u Q I rx ry h;obtain⟨i,j,rfl,rfl,q⟩:=h;obtain⟨t,rfl⟩:=rx;obtain⟨t',rfl⟩:=ry;exact rule i j t t' s _ _ ⟨.bl (g i j),H,I,rfl,q⟩
def CDiv(i j:Int):Prop:=0<j/\j<1073741824
def CMul(i j:Int):Prop:=(-(2 ^ 64)<i/\i<2 ^ 64)\/(-(2 ^ 64)<j/\j<2 ^ 64)
theorem CMul.ok(h:CMul i j):IntMulOk i j:=by
 rcases h with ⟨h1,h2⟩|⟨h1,h2⟩
 ·exact .of_left (intBits_le_64 h1 h2)
 ·exact .of_right (intBits_le_64 h1 h2)
theorem Yg:OpR X (binaryOp .Add) (rI0 fun i j=>.int (i+j)):=zh3 fun _ _ _ _ _ _ _ q=>add_int q
theorem Ru:OpR X (binaryOp .Sub) (rI0 fun i j=>.int (i-j)):=zh3 fun _ _ _ _ _ _ _ q=>sub_int q
theorem Rv:OpR X (binaryOp .Mult) (rI CMul fun i j=>.int (i*j)):=opI fun _ _ _ _ _ _ _ hc q=>mul_int q hc.ok
theorem Xi:OpR X (binaryOp .FloorDiv) (rI CDiv fun i j=>.int (i/j)):=opI fun i j _ _ _ _ _ hc q=>by
 have h1:(0:Int)<j:=hc.1;have h2:j<1073741824:=hc.2;exact floordiv_int ⋯ (by rw[Int.fdiv_eq_ediv_of_nonneg i ⋯];exact q) (.inl (PyProof.noPylong_small ⋯))
theorem Y7:OpR X (binaryOp .Mod) (rI (fun _ j=>0<j) fun i j=>.int (i%j)):=opI fun i j _ _ _ _ _ hc q=>by
 have h1:(0:Int)<j:=hc;exact mod_int' ⋯ (by rw[Int.fmod_eq_emod_of_nonneg i ⋯];exact q)
theorem unI{f:Value->Sem Value}{g:Int->Int}
  (rule:∀ (i:Int) (t:Tok) (s:Shared) (Q:Value->Shared->Prop) (E:Value->Shared->Prop),Q (.int (g i) s.toks) { s with toks:=s.toks+1 }->wpAny (model X.prog X.w) X.A (f (.int i t)) Q E s) :
  UnR X f (rU fun i=>.int (g i)):=by
 intro pins s σ H x v Q I rx h;obtain⟨i,rfl,q⟩:=h;obtain⟨t,rfl⟩:=rx;exact rule i t s _ _ ⟨.int (g i),H,I.tok _,⟨_,rfl⟩,q⟩
theorem Pp:UnR X (unaryOp .USub) (rU fun i=>.int (-i)):=unI fun _ _ _ _ _ q=>neg_int q
end
def zh4:V->V->Bool
 | .non,.non=>true|.non,.int _=>true|.int _,.non=>true|.non,.bl _=>true|.bl _,.non=>true|.non,.str _=>true|.str _,.non=>true
 | .int _,.int _=>true|.bl _,.bl _=>true|.str _,.str _=>true|.byt _,.byt _=>true
 | .int _,.str _=>true|.str _,.int _=>true|.bl _,.str _=>true|.str _,.bl _=>true
 | _,_=>false
inductive rEq(x:V)(y:V)(H:Hp)(Q:VK):Prop where
 | mk(_:zh4 x y=true)(_:Q (.bl (decide (x=y))) H)
inductive rNe(x:V)(y:V)(H:Hp)(Q:VK):Prop where
 | mk(_:zh4 x y=true)(_:Q (.bl (!decide (x=y))) H)
theorem Ak:decide (V.int i=V.int j)=(i == j):=by
 rw[zuo];simp
theorem zci:decide (V.bl i=V.bl j)=(i == j):=by
 rw[zuo];simp
theorem Al:decide (V.str i=V.str j)=(i == j):=by
 rw[zuo];simp
theorem Am:decide (V.byt i=V.byt j)=(i.toList == j.toList):=by
 rw[zuo];cases i;cases j;simp
section
variable{X:Cx}{a b c:Expr}{ta tb tc:TE}{pos:Pos}
theorem Yl(I:Inv X pins σ H s)(q:Q (.bl k) H)(e:k=k'):EP X pins σ Q (.bool k') s:=by
 subst e;exact⟨.bl k,H,I,rfl,q⟩
theorem Vt:OpR X (compareOp .Eq) rEq:=by
 intro pins s σ H x y v u Q I rx ry h;obtain⟨hs,q⟩:=h;cases x with
 | non =>
   cases rx;cases y with
   | non=>cases ry;exact PySem.EqNone.eq_none_none (Yl I q (by simp))
   | bl j=>cases ry;exact PySem.EqNone.eq_none_bool (Yl I q (by simp))
   | int j=>obtain⟨t',rfl⟩:=ry;exact PySem.EqNone.eq_none_int (Yl I q (by simp))
   | str j=>obtain⟨t',rfl⟩:=ry;exact PySem.EqNone.eq_none_str (Yl I q (by simp))
   | _=>exact absurd (show false=true from hs) zs3
 | bl i =>
   cases rx;cases y with
   | non=>cases ry;exact PySem.EqNone.eq_bool_none (Yl I q (by simp))
   | bl j=>cases ry;exact eq_bool (Yl I q zci)
   | str j=>obtain⟨t',rfl⟩:=ry;exact PySem.EqMixed.eq_bool_str (Yl I q (by simp))
   | _=>exact absurd (show false=true from hs) zs3
 | int i =>
   obtain⟨t,rfl⟩:=rx;cases y with
   | non=>cases ry;exact PySem.EqNone.eq_int_none (Yl I q (by simp))
   | int j=>obtain⟨t',rfl⟩:=ry;exact eq_int (Yl I q Ak)
   | str j=>obtain⟨t',rfl⟩:=ry;exact PySem.EqMixed.eq_int_str (Yl I q (by simp))
   | _=>exact absurd (show false=true from hs) zs3
 | str i =>
   obtain⟨t,rfl⟩:=rx;cases y with
   | non=>cases ry;exact PySem.EqNone.eq_str_none (Yl I q (by simp))
   | bl j=>cases ry;exact PySem.EqMixed.eq_str_bool (Yl I q (by simp))
   | int j=>obtain⟨t',rfl⟩:=ry;exact PySem.EqMixed.eq_str_int (Yl I q (by simp))
   | str j=>obtain⟨t',rfl⟩:=ry;exact eq_str (Yl I q Al)
   | _=>exact absurd (show false=true from hs) zs3
 | byt i =>
   obtain⟨t,rfl⟩:=rx;cases y with
   | byt j=>obtain⟨t',rfl⟩:=ry;exact PySem.W.eq_bytes (Yl I q Am)
   | _=>exact absurd (show false=true from hs) zs3
 | _=>cases y<;>exact absurd (show false=true from hs) zs3
theorem An:OpR X (compareOp .NotEq) rNe:=by
 intro pins s σ H x y v u Q I rx ry h;obtain⟨hs,q⟩:=h;cases x with
 | non =>
   cases rx;cases y with
   | non=>cases ry;exact PySem.EqNone.ne_none_none (Yl I q (by simp))
   | bl j=>cases ry;exact PySem.EqNone.ne_none_bool (Yl I q (by simp))
   | int j=>obtain⟨t',rfl⟩:=ry;exact PySem.EqNone.ne_none_int (Yl I q (by simp))
   | str j=>obtain⟨t',rfl⟩:=ry;exact PySem.EqNone.ne_none_str (Yl I q (by simp))
   | _=>exact absurd (show false=true from hs) zs3
 | bl i =>
   cases rx;cases y with
   | non=>cases ry;exact PySem.EqNone.ne_bool_none (Yl I q (by simp))
   | bl j=>cases ry;exact ne_bool (Yl I q (congrArg not zci))
   | str j=>obtain⟨t',rfl⟩:=ry;exact PySem.EqMixed.ne_bool_str (Yl I q (by simp))
   | _=>exact absurd (show false=true from hs) zs3
 | int i =>
   obtain⟨t,rfl⟩:=rx;cases y with
   | non=>cases ry;exact PySem.EqNone.ne_int_none (Yl I q (by simp))
   | int j=>obtain⟨t',rfl⟩:=ry;exact ne_int (Yl I q (congrArg not Ak))
   | str j=>obtain⟨t',rfl⟩:=ry;exact PySem.EqMixed.ne_int_str (Yl I q (by simp))
   | _=>exact absurd (show false=true from hs) zs3
 | str i =>
   obtain⟨t,rfl⟩:=rx;cases y with
   | non=>cases ry;exact PySem.EqNone.ne_str_none (Yl I q (by simp))
   | bl j=>cases ry;exact PySem.EqMixed.ne_str_bool (Yl I q (by simp))
   | int j=>obtain⟨t',rfl⟩:=ry;exact PySem.EqMixed.ne_str_int (Yl I q (by simp))
   | str j=>obtain⟨t',rfl⟩:=ry;exact ne_str (Yl I q (congrArg not Al))
   | _=>exact absurd (show false=true from hs) zs3
 | byt i =>
   obtain⟨t,rfl⟩:=rx;cases y with
   | byt j=>obtain⟨t',rfl⟩:=ry;exact PySem.W.ne_bytes (Yl I q (congrArg not Am))
   | _=>exact absurd (show false=true from hs) zs3
 | _=>cases y<;>exact absurd (show false=true from hs) zs3
theorem Ga:OpR X (compareOp .Lt) (rI0 fun i j=>.bl (decide (i<j))):=zel fun _ _ _ _ _ _ _ q=>lt_int q
theorem zcj:OpR X (compareOp .LtE) (rI0 fun i j=>.bl (decide (i<=j))):=zel fun _ _ _ _ _ _ _ q=>le_int q
theorem Rw:OpR X (compareOp .Gt) (rI0 fun i j=>.bl (decide (j<i))):=zel fun _ _ _ _ _ _ _ q=>gt_int q
theorem zfv:OpR X (compareOp .GtE) (rI0 fun i j=>.bl (decide (j<=i))):=zel fun _ _ _ _ _ _ _ q=>ge_int q
theorem Nv:OpR X (compareOp .Is) (fun x y H Q=>y=.non/\Q (.bl (decide (x=.non))) H):=by
 intro pins s σ H x y v u Q I rx ry h;obtain⟨rfl,q⟩:=h;cases ry;refine is_none_gen (Yl I q ?_);cases x<;>first
  | (cases rx;rfl)
  | (obtain⟨t,rfl⟩:=rx;rfl)
theorem Te:OpR X (compareOp .IsNot) (fun x y H Q=>y=.non/\Q (.bl (!decide (x=.non))) H):=by
 intro pins s σ H x y v u Q I rx ry h;obtain⟨rfl,q⟩:=h;cases ry;refine isnot_none_gen (Yl I q ?_);cases x<;>first
  | (cases rx;rfl)
  | (obtain⟨t,rfl⟩:=rx;rfl)
theorem Zw(b:Expr)(h:op≠.In:=by decide)(h2:op≠.NotIn:=by decide):behindInMarks op b=false:=by
 have e1:(op == CmpOp.In)=false:=by cases op<;>first|rfl|exact absurd rfl h
 have e2:(op == CmpOp.NotIn)=false:=by cases op<;>first|rfl|exact absurd rfl h2
 cases b<;>simp[behindInMarks,e1,e2]
theorem Oy{op:CmpOp}{r:R2}(ho:OpR X (compareOp op) r)(ha:PE X a ta)(hb:PE X b tb)(hm:behindInMarks op b=false):PE X (.Compare a [op] [b] pos) (tOp r ta tb):=by
 intro pins s σ H Q I h;exact wpAny_Compare1 (binT ha hb I h fun v u s2 x y H2 I2 rx ry q=>ho pins s2 σ H2 x y v u Q I2 rx ry q) hm
def zfw(t:TE):TT:=fun σ H Q=>t σ H fun x H'=>∃ k,x=.bl k/\Q k H'
theorem Zo(ho:OpR X (compareOp op) r)(ha:PE X a ta)(hb:PE X b tb)(hm:behindInMarks op b=false):PT X (.Compare a [op] [b] pos) (zfw (tOp r ta tb)):=by
 intro pins s σ H Q I h;refine wpAny_isTrue_Compare1 (thn (ha pins s σ H _ I h) fun v s1 ⟨x,H1,I1,r1,q1⟩=>thn (hb pins s1 σ H1 _ I1 q1) fun u s2 ⟨y,H2,I2,r2,q2⟩ =>
  thn (ho pins s2 σ H2 x y v u _ I2 r1 r2 q2) fun c s3 ⟨z,H3,I3,r3,k,e,q3⟩=>?_) hm
 subst e;cases r3;exact wpAny_truthy_bool ⟨H3,I3,q3⟩
def TruV(K:Frag)(x:V)(H:Hp)(k:Bool):Prop :=
 match x with
 | .non=>k=false
 | .bl b=>k=b
 | .int i=>k=(i != 0)
 | .str y=>y.length<=sizeLine/\k=((y.length:Int) != 0)
 | .byt y=>y.size<=sizeLine/\k=((y.size:Int) != 0)
 | .ref p=>(∃ xs,SqL K H p xs/\k=!xs.isEmpty)\/(∃ xs,SqT K H p xs/\k=!xs.isEmpty)\/∃ kvs,H p=some (.dK kvs)/\k=!kvs.isEmpty
 | _=>False
theorem C5(r:KV kvs vs):(!vs.isEmpty)=!kvs.isEmpty:=by
 cases r<;>rfl
theorem Kr(r:Vals xs its):(!its.toArray.isEmpty)=!xs.isEmpty:=by
 cases r<;>simp
theorem Pq:(sizeLine:Nat)<2 ^ 63:=by rw[sizeLine_eq];decide
theorem zgl:zi9 X (fun x H Q=>∃ k,TruV X.K x H k/\Q k H):=by
 intro pins s σ H x v Q I rx h;obtain⟨k,e,q⟩:=h;have hl:=Pq;have hs:sizeLine=16777216:=sizeLine_eq;cases x with
 | non =>
   cases rx;have e':k=false:=e;subst e';exact truthy_none ⟨H,I,q⟩
 | bl b =>
   cases rx;have e':k=b:=e;subst e';exact wpAny_truthy_bool ⟨H,I,q⟩
 | int i =>
   obtain⟨t,rfl⟩:=rx;have e':k=(i != 0):=e;subst e';exact PySem.P.truthy_int ⟨H,I,q⟩
 | str y =>
   obtain⟨t,rfl⟩:=rx;obtain⟨hy,e'⟩:y.length<=sizeLine/\k=((y.length:Int) != 0):=e;subst e';exact PySem.P.truthy_str ⋯ ⟨H,I.tok _,q⟩
 | byt y =>
   obtain⟨t,rfl⟩:=rx;obtain⟨hy,e'⟩:y.size<=sizeLine/\k=((y.size:Int) != 0):=e;subst e';exact PySem.W.truthy_bytes ⋯ ⟨H,I.tok _,q⟩
 | ref p =>
   cases rx;have e':(∃ xs,SqL X.K H p xs/\k=!xs.isEmpty)\/(∃ xs,SqT X.K H p xs/\k=!xs.isEmpty)\/∃ kvs,H p=some (.dK kvs)/\k=!kvs.isEmpty:=e;rcases e' with ⟨xs,hx,e'⟩|⟨xs,hx,e'⟩|⟨kvs,hx,e'⟩
   ·subst e';obtain⟨its,r,pl,hz⟩:=I.list hx;have hlen:=r.length;exact wpAny_truthy_list pl.isList (by simp only[zsz];omega) ⟨H,I.tok _,by rw[Kr r];exact q⟩
   ·subst e';obtain⟨its,r,pl,hz⟩:=I.tuple hx;have hlen:=r.length;exact truthy_tuple pl (by simp only[zsz];omega) ⟨H,I.tok _,by rw[Kr r];exact q⟩
   ·subst e';obtain⟨hz,hS,vs,r,m⟩:kvs.length<=sizeLine/\(p == sysModules)=false/\∃ vs,KV kvs vs/\s.heap.DictOf (Yo X.prog X.w) p vs:=I.hok p _ hx;have hlen:kvs.length=vs.length:=Paired.length r;exact wpAny_truthy_dict hS m ⋯ ⟨H,I.tok _,by rw[C5 r];exact q⟩
 | _=>exact(show False from e).elim
theorem zck(ha:PE X a ta)(he:∀ whole,isTrue a X.env whole=(do let v <- whole;standAt a.pos;holding [v] (truthy v))) :
  PT X a (fun σ H Q=>ta σ H fun x H'=>∃ k,TruV X.K x H' k/\Q k H'):=by
 intro pins s σ H Q I h;exact isTrue_plain (thn (ha pins s σ H _ I h) fun v s1 ⟨x,H1,I1,r1,q1⟩=>zgl pins s1 σ H1 x v Q I1 r1 q1) (he _)
theorem Oz(r:Vals [x] us):∃ u,us=[u]/\RelV x u:=by
 cases r with
 | cons r1 r2=>cases r2;exact⟨_,rfl,r1⟩
theorem zfx(r:Vals [x,y] us):∃ u w',us=[u,w']/\RelV x u/\RelV y w':=by
 cases r with
 | cons r1 r2 =>
   cases r2 with
   | cons r3 r4=>cases r4;exact⟨_,_,rfl,r1,r3⟩
theorem Gb(hc:X.calm=true):Ui X (.builtin "max") (fun xs H Q=>∃ i j,xs=[.int i,.int j]/\Q (.int (if j>i then j else i)) H):=by
 intro pins s σ H xs us Q I r h;obtain⟨i,j,rfl,q⟩:=h;obtain⟨u,w',rfl,⟨t,rfl⟩,⟨t',rfl⟩⟩:=zfx r;refine max_two_ints (I.ok.hd hc) fun h' tk k=>⟨_,H,I.kept k,?_,q⟩
 by_cases hj:j>i
 ·rw[if_pos hj,if_pos hj];exact⟨_,rfl⟩
 ·rw[if_neg hj,if_neg hj];exact⟨_,rfl⟩
end
structure ObjM(h:Heap)(x dx C:Addr)(mA:Str->Option Value):Prop where
 obj:h.get? x=some (PySem.W.instObj C dx)
 ns:h.Ns1 dx mA
 ne:dx≠x
theorem zax{h:Heap}{dx:Addr}{mA:Str->Option Value}(n:h.Ns1 dx mA):∃ od,h.get? dx=some od/\∀ name,PySem.W.lookIn name od=some (mA name):=by
 obtain⟨o,es,ep,ho,hd,hk,_,hm⟩:=n;refine⟨o,ho,fun name=>?_⟩;have e:=hm name;unfold nsFind findBy at e;rw[<- Array.find?_toList] at e;unfold PySem.W.lookIn;rw[hd];dsimp only;split
 ·rename_i y q;rw[q] at e;exact congrArg some e
 ·rename_i q;rw[q] at e;have a:es.toList.any (·.refKey)=false:=by
   rw[List.any_eq_false];intro y hy;obtain⟨z,t,hkey⟩:=hk y (Array.mem_toList_iff.mp hy);simp[DictEntry.refKey,hkey]
  have a':¬ es.toList.any (·.refKey)=true:=by rw[a];exact zs3
  rw[if_neg a'];exact congrArg some e
theorem ObjM.look(I:ObjM h x dx C mA):∃ od,PySem.W.InstAt h x (PySem.W.instObj C dx) C (some od)/\∀ name,PySem.W.lookIn name od=some (mA name) :=
 let ⟨od,ho,hl⟩:=zax I.ns
 ⟨od,⟨I.obj,rfl,rfl,ho⟩,hl⟩
section
variable{prog:Program}{w:World}{A:Around}{E:Value->Shared->Prop}{s:Shared}{K:Frag}{x dx C f:Addr}{mA:Str->Option Value}{name:Str}{v:Value}
theorem zem(X:K.In s.heap)(I:ObjM s.heap x dx C mA)(hg:PySem.W.plainGet K C name=true)(hh:PySem.W.hasDictIn K C=true)
  (ha:PySem.W.findIn K (.ref C) name=some none) (hv:mA name=some v) (hv':PySem.W.handedIn v=true) (h:Q v { s with toks:=s.toks+1 }) :
  wpAny (model prog w) A (getAttr (.ref x) name expr) Q E s:=by
 obtain⟨od,J,hl⟩:=I.look;exact PySem.W.get_value X J (PySem.W.plainGet_of hg).1 (PySem.W.findObj_own hh ha rfl (by rw[hl,hv])) hv' h
theorem zcl(X:K.In s.heap)(I:ObjM s.heap x dx C mA)(hg:PySem.W.plainGet K C name=true)
  (hf:PySem.W.findIn K (.ref C) name=some (some (.ref f))) (ht:PySem.W.isFn K (.ref f)=true) (hv:mA name=none) (h:Q (.ref f,[.ref x]) s) :
  wpAny (model prog w) A (getMethod (.ref x) name pl) Q E s:=by
 obtain⟨od,J,hl⟩:=I.look;exact PySem.W.method_fn X J (PySem.W.plainGet_of hg).1 (PySem.W.plainGet_of hg).2 hf (beq_iff_eq.mp ht) (by show (PySem.W.lookIn name od).map (·.isSome)=some false;rw[hl,hv];rfl) h
theorem zen(X:K.In s.heap)(I:ObjM s.heap x dx C mA)
  (hs:PySem.W.findIn K (.ref C) "__setattr__"=some (some (.builtin "object.__setattr__"))) (hp:PySem.W.plainOver K C=true) (ht:PySem.W.takerIn K C name=some none) (hh:PySem.W.hasDictIn K C=true)
  (hw:PySem.Within mA ns) (hsz:ns.length<=sizeLine)
  (h:∀ h',ObjM h' x dx C (fun y=>if y=name then some v else mA y)->Heap.SameBut dx s.heap h'->Q () { s with heap:=h',toks:=s.toks+2 }) :
  wpAny (model prog w) A (setAttr (.ref x) name v) Q E s:=by
 obtain⟨od,J,hl⟩:=I.look;refine PySem.W.set_plain X J hs (PySem.W.osa_open (s:={ s with toks:=s.toks+1 }) (r:=none) X J hp ht fun b=>?_);obtain⟨cd,hc,hd'⟩:=PySem.W.any_some hh;have hx:s.heap.get? x=some ⟨.ref C,some dx,.plain,#[]⟩:=I.obj;refine wpAny_bind (wpAny_pure (wpAny_bind (wpAny_bind (wpAny_loadPart hx (wpAny_bind (PySem.W.Looks.here (s:={ s with toks:=s.toks+1 }) (PySem.W.looks_clsIn X hc) ?_))))));rw[hd'];refine wpAny_pure (a:=some dx) (wpAny_bind (wpAny_pure (wpAny_bind ?_)));refine wpAny_nsSet1 (s:={ s with toks:=s.toks+1 }) I.ns fun h' hn2 hs2=>?_;obtain⟨oD,esD,epD,hoD,hdD,hcD⟩:=hn2.count (PySem.Within.cons name v hw);refine wpAny_bind (wpAny_lookBehind hoD (by rw[hdD];exact pastItsLine_dict (zs2 hcD (by rw[zs8];omega))) ?_);exact wpAny_pure (h _ ⟨(hs2.2 _ (Ne.symm I.ne)).trans I.obj,hn2,I.ne⟩ hs2)
theorem zcm(X:K.In s.heap)(hm:PySem.W.makesIn K C=true)
  (hi:PySem.W.findIn K (.ref C) "__init__"=some (some (.ref f))) (hf:PySem.W.typeIn K (.ref f)=some (.type "function"))
  (h:codeAny (model prog w) (A.under (.builtin "type.__call__" ⟨.ref C :: vs,kw⟩)) (.call (.ref f) ⟨.ref (s.heap.objs.size+1) :: vs,kw⟩) (PySem.W.InitBack (s.heap.objs.size+1) R)
   { s with heap:=(s.heap.push PySem.W.emptyDict).push (PySem.W.instObj C s.heap.objs.size) }) :
  codeAny (model prog w) A (.call (.ref C) ⟨vs,kw⟩) R s:=by
 obtain⟨hh,g,d,t,os⟩:=s;exact PySem.W.make_core (PySem.W.makes_of X hm) (PySem.W.looks_findIn X hi) (fun self=>PySem.W.bind_fn X self hf) (.inl rfl) h
end
def putF(f:Str)(v:V):List (Str×V)->List (Str×V)
 | []=>[(f,v)]
 | (g,x) :: r=>if g=f then (g,v) :: r else (g,x) :: putF f v r
theorem Mt(f g:Str)(v:V):∀ fs:List (Str×V),(putF f v fs).lookup g=if g=f then some v else fs.lookup g
 | []=>by
   show List.lookup g [(f,v)]=_;by_cases h:g=f
   ·have hb:(g == f)=true:=beq_iff_eq.mpr h;simp only[List.lookup,hb,if_pos h]
   ·have hb:(g == f)=false:=zs5.mpr h;simp only[List.lookup,hb,if_neg h]
 | (k,x) :: r=>by
   have ih:=Mt f g v r;rw[show putF f v ((k,x) :: r)=(if k=f then (k,v) :: r else (k,x) :: putF f v r) from rfl];by_cases hk:k=f
   ·rw[if_pos hk];by_cases h:g=k
    ·have hb:(g == k)=true:=beq_iff_eq.mpr h;simp only[List.lookup,hb,if_pos (h.trans hk)]
    ·have hb:(g == k)=false:=zs5.mpr h;simp only[List.lookup,hb,if_neg (fun e:g=f=>h (e.trans hk.symm))]
   ·rw[if_neg hk];by_cases h:g=k
    ·have hb:(g == k)=true:=beq_iff_eq.mpr h;simp only[List.lookup,hb,if_neg (fun e:g=f=>hk (h.symm.trans e))]
    ·have hb:(g == k)=false:=zs5.mpr h;simp only[List.lookup,hb];exact ih
theorem Nw(f:Str)(v:V):∀ fs:List (Str×V),f∈(putF f v fs).map (·.1)/\∀ g,g∈fs.map (·.1)->g∈(putF f v fs).map (·.1)
 | []=>⟨by simp[putF],fun g h=>by simp at h⟩
 | (k,x) :: r=>by
   obtain⟨i1,i2⟩:=Nw f v r;rw[show putF f v ((k,x) :: r)=(if k=f then (k,v) :: r else (k,x) :: putF f v r) from rfl];by_cases hk:k=f
   ·rw[if_pos hk];subst hk;exact⟨by simp,fun g h=>by simpa using h⟩
   ·rw[if_neg hk];refine⟨?_,fun g h=>?_⟩
    ·rw[zsx];exact zs4 _ i1
    ·rw[zsx] at h ⊢;rcases zso.mp h with e|e
     ·exact zso.mpr (.inl e)
     ·exact zs4 _ (i2 g e)
theorem Mu(f:Str)(v:V):∀ fs:List (Str×V),(putF f v fs).length<=fs.length+1
 | []=>by simp[putF]
 | (k,x) :: r=>by
   have ih:=Mu f v r;rw[show putF f v ((k,x) :: r)=(if k=f then (k,v) :: r else (k,x) :: putF f v r) from rfl];by_cases hk:k=f
   ·rw[if_pos hk,zs8,zs8];omega
   ·rw[if_neg hk,zs8,zs8];omega
theorem RelO.some_of(r:RelO (some v) o):∃ u,o=some u/\RelV v u:=by
 cases o with
 | none=>exact(show False from r).elim
 | some u=>exact⟨u,rfl,r⟩
theorem RelO.none_of(r:RelO none o):o=none:=by
 cases o with
 | none=>rfl
 | some u=>exact(show False from r).elim
theorem zay(r:RelV v u):PySem.W.handedIn u=true:=by
 cases v with
 | non=>cases (show u=Value.none from r);rfl
 | bl b=>cases (show u=Value.bool b from r);rfl
 | int i=>obtain⟨t,e⟩:=(show ∃ t,u=Value.int i t from r);cases e;rfl
 | str x=>obtain⟨t,e⟩:=(show ∃ t,u=Value.str x t from r);cases e;rfl
 | byt b=>obtain⟨t,e⟩:=(show ∃ t,u=Value.bytes b t from r);cases e;rfl
 | flt b=>obtain⟨t,e⟩:=(show ∃ t,u=Value.float b t from r);cases e;rfl
 | ref a=>cases (show u=Value.ref a from r);rfl
 | ty n=>cases (show u=Value.type n from r);rfl
section
variable{P:Program}{w:World}{H H':Hp}{h h':Heap}{a C dx:Addr}{fs fs':List (Str×V)}
theorem Ki(hok:HOk P w H h)(e:H a=some (.ins C dx fs)):∃ mA,ObjM h a dx C mA/\(∀ f,RelO (fs.lookup f) (mA f))/\PySem.Within mA (fs.map (·.1))/\fs.length<=1000/\H dx=some (.own a):=by
 obtain⟨d,z,ne,ob,mA,n,r,q⟩:=(show Y0 P w H h a (.ins C dx fs) from hok a _ e);exact⟨mA,⟨ob,n,ne⟩,r,q,z,d⟩
end
structure Cls(K:Frag)(C:Addr):Prop where
 pg:PySem.W.plainGet K C Str.empty=true
 hd:PySem.W.hasDictIn K C=true
 po:PySem.W.plainOver K C=true
 sa:PySem.W.findIn K (.ref C) "__setattr__"=some (some (.builtin "object.__setattr__"))
theorem Cls.get{K:Frag}{C:Addr}(c:Cls K C)(f:Str):PySem.W.plainGet K C f=true:=c.pg
def Xp(K:Frag)(C:Addr)(f:Str):Prop:=PySem.W.findIn K (.ref C) f=some none
theorem Xp.taker{K:Frag}{C:Addr}{f:Str}(n:Xp K C f):PySem.W.takerIn K C f=some none:=by
 unfold PySem.W.takerIn;rw[show PySem.W.findIn K (.ref C) f=some none from n];rfl
structure Con(K:Frag)(C:Addr)(f:Str)(v:V)(u:Value):Prop where
 at_:PySem.W.findIn K (.ref C) f=some (some u)
 rel:RelV v u
 get:PySem.W.specialIn K u "__get__"=some none
 cp:PySem.W.copiedNames.contains f=false
structure zcn(K:Frag)(C:Addr)(m:Str)(f:Addr):Prop where
 at_:PySem.W.findIn K (.ref C) m=some (some (.ref f))
 fn:PySem.W.isFn K (.ref f)=true
 kp:PySem.W.keepIn K (.ref f)=true
section
variable{X:Cx}{pins:List (Addr×Obj)}{σ:St}{H:Hp}{s:Shared}{a C dx:Addr}{fs:List (Str×V)}{f:Str}{v:V}{A:Around}{E:Value->Shared->Prop}
theorem C6(I:Inv X pins σ H s)(e:H a=some (.ins C dx fs))(c:Cls X.K C)(n:Xp X.K C f)(l:fs.lookup f=some v)
  (h:∀ u s',Inv X pins σ H s'->RelV v u->Q u s'):wpAny (model X.prog X.w) A (getAttr (.ref a) f b) Q E s:=by
 obtain⟨mA,O,r,_,_,_⟩:=Ki I.hok e;obtain⟨u,hu,ru⟩:=RelO.some_of (v:=v) (o:=mA f) (by rw[<- l];exact r f);exact zem I.kIn O (c.get f) c.hd n hu (zay ru) (h u _ (I.tok _) ru)
theorem Ks(I:Inv X pins σ H s)(e:H a=some (.ins C dx fs))(c:Cls X.K C)(k:zcn X.K C m g)(l:fs.lookup m=none)
  (h:Q (.ref g,[.ref a]) s):wpAny (model X.prog X.w) A (getMethod (.ref a) m pl) Q E s:=by
 obtain⟨mA,O,r,_,_,_⟩:=Ki I.hok e;have hn:mA m=none:=RelO.none_of (by rw[<- l];exact r m);exact zcl I.kIn O (c.get m) k.at_ k.fn hn h
theorem C7(I:Inv X pins σ H s)(e:H a=some (.ins C dx fs))(c:Cls X.K C)(n:Xp X.K C f)(hl:fs.length<1000)(ry:RelV y u)
  (h:∀ s',Inv X pins σ (upd H a (.ins C dx (putF f y fs))) s'->Q () s'):wpAny (model X.prog X.w) A (setAttr (.ref a) f u) Q E s:=by
 obtain⟨mA,O,r,wi,_,ho⟩:=Ki I.hok e;have hz:(fs.map (·.1)).length<=sizeLine:=by rw[zsk,sizeLine_eq];omega
 refine zen I.kIn O c.sa c.po n.taker c.hd wi hz fun h' O' sb=>h _ ?_;have hd:∃ o,h'.get? dx=some o:=let ⟨o,_,_,e',_⟩:=O'.ns;⟨o,e'⟩;refine I.write (x:=a) (e:=dx) (by rw[e];exact True.intro) (.inr ho) (fun b q hb z=>(sb.2 b hb).trans z) hd ?_;refine⟨by rw[Zh O.ne];exact ho,?_,O.ne,O'.obj,_,O'.ns,fun g=>?_,fun g hg=>?_⟩
 ·have:=Mu f y fs;omega
 ·show RelO ((putF f y fs).lookup g) (if g=f then some u else mA g);rw[Mt];by_cases q:g=f
  ·rw[if_pos q,if_pos q];exact ry
  ·rw[if_neg q,if_neg q];exact r g
 ·by_cases q:g=f
  ·rw[q];exact(Nw f y fs).1
  ·refine(Nw f y fs).2 g (wi g fun z=>hg ?_);show (if g=f then some u else mA g)=none;rw[if_neg q];exact z
theorem Inv.made(I:Inv X pins σ H s):Inv X pins σ (upd (upd H s.heap.objs.size (.own (s.heap.objs.size+1))) (s.heap.objs.size+1) (.ins C s.heap.objs.size []))
  { s with heap:=(s.heap.push PySem.W.emptyDict).push (PySem.W.instObj C s.heap.objs.size) }:=by
 have e1:(s.heap.push PySem.W.emptyDict).get? s.heap.objs.size=some PySem.W.emptyDict:=Heap.get?_push_size s.heap rfl;have e2:((s.heap.push PySem.W.emptyDict).push (PySem.W.instObj C s.heap.objs.size)).get? (s.heap.objs.size+1)=some (PySem.W.instObj C s.heap.objs.size):=by
  have:=Heap.get?_push_size (s.heap.push PySem.W.emptyDict) (o:=PySem.W.instObj C s.heap.objs.size) rfl
  rwa [Heap.size_push] at this
 have e3:(s.heap.push PySem.W.emptyDict).Ns s.heap.objs.size (fun _=>none):=⟨PySem.W.emptyDict,#[],_,e1,rfl,(fun e he=>absurd he (by simp)),fun _=>rfl⟩;have I1:=I.laid (a:=s.heap.objs.size) (o:=.own (s.heap.objs.size+1)) (h':=s.heap.push PySem.W.emptyDict) (t':=s.toks) (fun b u q=>Heap.get?_push_of_some _ q) (zst _) ⟨_,e1⟩;refine I1.laid (a:=s.heap.objs.size+1) (o:=.ins C s.heap.objs.size []) (t':=s.toks) (fun b u q=>Heap.get?_push_of_some _ q) (Nat.le_of_eq (Heap.size_push _ _)) ?_;have ne:s.heap.objs.size≠s.heap.objs.size+1:=ztb (Nat.lt_succ_self _);refine⟨by rw[Zh ne,Zb],zs9 _,ne,e2,fun _=>none,(Heap.Ns1.of_empty e3).at fun o q=>Heap.get?_push_of_some _ q,fun _=>True.intro,fun y hy=>absurd rfl hy⟩
theorem zeo(hb:attributeBase e f env (eval e env)=eval e env)
  (h:wpAny (model prog w) A (eval e env) (fun o s₁=>wpAny (model prog w) A (getAttr o f true) Q E s₁) E s):wpAny (model prog w) A (eval (.Attribute e f pos) env) Q E s :=
 Attribute_any_ h (by rw[arm_eval_Attribute,hb])
end
inductive zh5(K:Frag)(f:Str)(Q:VK)(x:V)(H1:Hp):Prop where
 | mk(a)(C)(dx)(fs)(v)(_:x=.ref a)(_:H1 a=some (.ins C dx fs))(_:Cls K C)(_:Xp K C f)(_:fs.lookup f=some v)(_:Q v H1)
def zh6(K:Frag)(ta:TE)(f:Str):TE:=fun σ H Q=>ta σ H fun x H1=>zh5 K f Q x H1
inductive zh7(K:Frag)(f:Str)(D:Ox)(σ:L2.St)(y:V)(x:V)(H2:Hp):Prop where
 | mk(a)(C)(dx)(fs)(_:x=.ref a)(_:H2 a=some (.ins C dx fs))(_:Cls K C)(_:Xp K C f)(_:fs.length<1000)(_:D.nx σ (upd H2 a (.ins C dx (putF f y fs))))
def zh8(K:Frag)(ta tv:TE)(f:Str):TS:=fun D σ H=>tv σ H fun y H1=>ta σ H1 fun x H2=>zh7 K f D σ y x H2
section
variable{X:Cx}{o e value:Expr}{f:Str}{pos pos' tpos:Pos}{ta tv:TE}
theorem zgm(he:PE X e ta)(hb:attributeBase e f X.env (eval e X.env)=eval e X.env):PE X (.Attribute e f pos) (zh6 X.K ta f):=by
 intro pins s σ H Q I h;refine zeo hb (thn (he pins s σ H _ I h) fun u s1 ⟨x,H1,I1,rx,a,C,dx,fs,v,ex,ea,c,n,l,q⟩=>?_);subst ex;obtain rfl:u=Value.ref a:=rx;exact C6 I1 ea c n l fun u' s2 I2 ru=>⟨v,H1,I2,ru,q⟩
theorem zgn(ha:PE X o ta)(hv:PE X value tv)(hs:swapsWith value (some (.Attribute o f pos')) pos.line X.env=pure false):PS X (.Assign [.Attribute o f pos'] value pos) (zh8 X.K ta tv f):=by
 intro pins s σ H D I h;refine plainObj_wpAny_Assign_Attribute (thn (hv pins s σ H _ I h) fun u s1 ⟨y,H1,I1,ry,q⟩=>thn (ha pins s1 σ H1 _ I1 q) fun ov s2 ⟨x,H2,I2,rx,a,C,dx,fs,ex,ea,c,n,l,q2⟩=>?_) hs;subst ex;obtain rfl:ov=Value.ref a:=rx;exact C7 I2 ea c n l ry fun s3 I3=>⟨σ,_,I3,q2⟩
end
section
variable{X:Cx}{pins:List (Addr×Obj)}{σ:St}{H:Hp}{s:Shared}{A:Around}{E:Value->Shared->Prop}{Q:Value->Shared->Prop}{c:Value}{b:Bool}
inductive Ny(K:Frag)(H:Hp):V->Value->Prop where
 | non:Ny K H .non (.type "NoneType")
 | bl (x:Bool):Ny K H (.bl x) (.type "bool")
 | int (i:Int):Ny K H (.int i) (.type "int")
 | str (x:Str):Ny K H (.str x) (.type "str")
 | flt (x:UInt64):Ny K H (.flt x) (.type "float")
 | lst {a:Addr} {xs:List V} (e:H a=some (.lst xs)):Ny K H (.ref a) (.type "list")
 | frz {a:Addr} {o:Obj} {xs:List V} (e:H a=some (.frz o (.lst xs))):Ny K H (.ref a) (.type "list")
 | tup {a:Addr} {xs:List V} (e:H a=some (.tup xs)):Ny K H (.ref a) (.type "tuple")
 | dK {a:Addr} {kvs:List (Key×V)} (e:H a=some (.dK kvs)):Ny K H (.ref a) (.type "dict")
 | dT {a:Addr} {kvs:List (List Key×V)} (e:H a=some (.dT kvs)):Ny K H (.ref a) (.type "dict")
 | ins {a C dx:Addr} {fs:List (Str×V)} (e:H a=some (.ins C dx fs)) (cl:Cls K C) (ha:PySem.W.findIn K (.ref C) "__class__"=some (some (.builtin "object.__class__")))
   (hn:PySem.W.specialIn K (.builtin "object.__class__") "__get__"=some (some (.builtin "getset_descriptor.__get__"))) (htk:PySem.W.takesIn K (.builtin "object.__class__")=some true)
   (hm:PySem.W.mroIn K C (.type "object")=some true):Ny K H (.ref a) (.ref C)
theorem zaz(I:Inv X pins σ H s)(rx:RelV x u)(ty:Ny X.K H x t)(e:PySem.W.kitOne X.K t c=some b)(h:∀ tk,Q (.bool b) { s with toks:=tk }) :
  wpAny (model X.prog X.w) A (call (.builtin "isinstance") [u,c]) Q E s:=by
 cases ty with
 | non=>cases (show u=Value.none from rx);exact PySem.W.kia_one PySem.W.kitx_none I.kIn True.intro e (fun z=>nomatch z) h
 | bl y=>cases (show u=Value.bool y from rx);exact PySem.W.kia_one PySem.W.kitx_bool I.kIn True.intro e (fun z=>nomatch z) h
 | int i=>obtain⟨t,q⟩:=(show ∃ t,u=Value.int i t from rx);cases q;exact PySem.W.kia_one PySem.W.kitx_int I.kIn True.intro e (fun z=>nomatch z) h
 | str y=>obtain⟨t,q⟩:=(show ∃ t,u=Value.str y t from rx);cases q;exact PySem.W.kia_one PySem.W.kitx_str I.kIn True.intro e (fun z=>nomatch z) h
 | flt y=>obtain⟨t,q⟩:=(show ∃ t,u=Value.float y t from rx);cases q;exact PySem.W.kia_one PySem.W.kitx_float I.kIn True.intro e (fun z=>nomatch z) h
 | @lst a xs ea =>
   cases (show u=Value.ref a from rx);obtain⟨_,_,n,_,h1⟩:=(show Y0 X.prog X.w H s.heap a (.lst xs) from I.hok a _ ea);exact PySem.W.kia_one PySem.W.kitx_list I.kIn ⟨_,h1,rfl⟩ e (fun z=>nomatch z) h
 | @frz a ob xs ea =>
   cases (show u=Value.ref a from rx);obtain⟨_,_,_,n,_,h1⟩:=(show Y0 X.prog X.w H s.heap a (.frz ob (.lst xs)) from I.hok a _ ea);exact PySem.W.kia_one PySem.W.kitx_list I.kIn ⟨_,h1,rfl⟩ e (fun z=>nomatch z) h
 | @tup a xs ea =>
   cases (show u=Value.ref a from rx);obtain⟨_,_,_,p⟩:=(show Y0 X.prog X.w H s.heap a (.tup xs) from I.hok a _ ea);obtain⟨o,h1,h2,_⟩:=p;exact PySem.W.kia_one PySem.W.kitx_tuple I.kIn ⟨o,h1,h2⟩ e (fun z=>nomatch z) h
 | @dK a kvs ea =>
   cases (show u=Value.ref a from rx);obtain⟨_,_,vs,_,p⟩:=(show Y0 X.prog X.w H s.heap a (.dK kvs) from I.hok a _ ea);obtain⟨o,es,ep,h1,h2,_⟩:=p;exact PySem.W.kia_one PySem.W.kitx_dict I.kIn ⟨o,h1,h2.1⟩ e (fun z=>nomatch z) h
 | @dT a kvs ea =>
   cases (show u=Value.ref a from rx);obtain⟨_,_,xs,_,o,es,ep,h1,h2,_⟩:=(show Y0 X.prog X.w H s.heap a (.dT kvs) from I.hok a _ ea);exact PySem.W.kia_one PySem.W.kitx_dict I.kIn ⟨o,h1,h2.1⟩ e (fun z=>nomatch z) h
 | @ins a C dx fs ea cl ha hn htk hm =>
   cases (show u=Value.ref a from rx);obtain⟨mA,O,_⟩:=Ki I.hok ea;obtain⟨od,J,_⟩:=O.look;exact PySem.W.kia_one (PySem.W.kitx_own (cl.get _) cl.hd ha hn htk hm) I.kIn J e (fun z=>nomatch z) h
end
structure Wv(k:Nat)(A:Around):Prop where
 hd:A.handled=none
 dp:A.depth+3*k+5<recursionLimit
 un:A.units+16*k+200<cLine
theorem Wv.mono(r:Wv k A)(h:j<=k):Wv j A:=⟨r.hd,by have:=r.dp;omega,by have:=r.un;omega⟩
theorem Wv.deeper(r:Wv (k+1) A)(env:Env):Wv k (A.deeper env) :=
 ⟨r.hd,by have:=r.dp;show A.depth+1+3*k+5<_;omega,by have:=r.un;show A.units+3+16*k+200<_;omega⟩
theorem C8{A:Around}{C:Addr}{us:List Value}{kw:List (Str×Value)}:(A.under (.builtin "type.__call__" ⟨.ref C :: us,kw⟩)).depth=A.depth+1:=by
 first|rfl|simp[Around.under,Code.weight,Code.isCreation,Code.isGuard,Code.isCaller,Code.frames,Code.isFrame,guardIds]
theorem C9{A:Around}{C:Addr}{us:List Value}{kw:List (Str×Value)}:(A.under (.builtin "type.__call__" ⟨.ref C :: us,kw⟩)).units=A.units+1:=by
 first|rfl|simp[Around.under,Code.cUnits,Code.frames,Code.isFrame]
theorem Wv.make(r:Wv (k+1) A)(C:Addr)(us:List Value)(kw:List (Str×Value)):Wv k (A.under (.builtin "type.__call__" ⟨.ref C :: us,kw⟩)) :=
 ⟨r.hd,by have:=r.dp;rw[C8];omega,by have:=r.un;rw[C9];omega⟩
theorem Wv.depth(r:Wv k A):A.depth<recursionLimit:=by have:=r.dp;omega
theorem Wv.units(r:Wv k A):A.units+64<cLine:=by have:=r.un;omega
def Ba:TA:=fun _ H Q=>Q [] H
def zfy(ta:TE)(tr:TA):TA:=fun σ H Q=>ta σ H fun x H1=>tr σ H1 fun xs H2=>Q (x :: xs) H2
section
variable{X:Cx}{e:Expr}{es:List Expr}{te:TE}{t:TA}{pos:Pos}
theorem Zd:PA X [] Ba:=fun _ _ _ _ H Q I h=>Calls.spliced_nil ⟨[],H,I,.nil,h⟩
theorem Za(ha:PE X e te)(hr:PA X es t)(hs:starEach (e :: es) X.env=(false,eval e X.env) :: starEach es X.env:=by rfl):PA X (e :: es) (zfy te t):=by
 intro pos pins s σ H Q I h;rw[hs];show wpAny _ _ (spliced ((false,eval e X.env) :: backTo pos (starEach es X.env))) _ _ s;refine Calls.spliced_cons (thn (ha pins s σ H _ I h) fun u s1 ⟨x,H1,I1,r1,q1⟩=>?_);exact thn (hr pos pins s1 σ H1 _ I1 q1) fun us s2 ⟨xs,H2,I2,r2,q2⟩=>⟨x :: xs,H2,I2,.cons r1 r2,q2⟩
inductive zh9(Q:VK)(xs:List V)(H1:Hp):Prop where
 | mk(_:xs.length<=sizeLine)(_:∀ p,H1 p=none->Q (.ref p) (upd H1 p (.tup xs)))
def zja(t:TA):TE:=fun σ H Q=>t σ H fun xs H1=>zh9 Q xs H1
inductive zia(Q:VK)(xs:List V)(H1:Hp):Prop where
 | mk(_:xs.length<=sizeLine)(_:∀ p,H1 p=none->Q (.ref p) (upd H1 p (.lst xs)))
def Bb(t:TA):TE:=fun σ H Q=>t σ H fun xs H1=>zia Q xs H1
theorem Yc{x1}(h:PA X es t):PE X (.Tuple es x1 pos) (zja t):=by
 intro pins s σ H Q I hq;refine wpAny_Tuple_spliced (thn (h pos pins s σ H _ I hq) fun us s1 ⟨xs,H1,I1,r,z,q⟩=>⟨by rw[<- r.length];exact z,?_⟩);have hf:H1 s1.heap.objs.size=none:=I1.hok.fresh (zst _);refine⟨.ref s1.heap.objs.size,upd H1 s1.heap.objs.size (.tup xs),I1.laid (t':=s1.toks) (fun b u e=>Heap.get?_push_of_some _ e) (zst _) ?_,rfl,q _ hf⟩;exact⟨z,us,r,⟨_,Heap.get?_push_size _ rfl,rfl,_,rfl⟩⟩
theorem Z8(h:PA X es t):PE X (.List es pos) (Bb t):=by
 intro pins s σ H Q I hq;refine wpAny_List_spliced (thn (h pos pins s σ H _ I hq) fun us s1 ⟨xs,H1,I1,r,z,q⟩=>⟨by rw[<- r.length];exact z,?_⟩);have hf:H1 s1.heap.objs.size=none:=I1.hok.fresh (zst _);refine⟨.ref s1.heap.objs.size,upd H1 s1.heap.objs.size (.lst xs),I1.laid (t':=s1.toks) (fun b u e=>Heap.get?_push_of_some _ e) (zst _) ?_,rfl,q _ hf⟩;exact⟨z,us,0,r,Heap.get?_push_size _ rfl⟩
end
abbrev Sp:=List V->Hp->VK->XK->Prop
abbrev CXT:=List Env->Hp->Shared->XK->Value->Shared->Prop
structure Bc(P:Program)(w:World)(K:Frag)(mg:Str->Option Value)(base:Heap)(A:Around)(outer:List Env)(s:Shared)(H:Hp):Prop where
 frames:A.frames=some outer
 mod:Mod K mg base
 bs:∀ b o,base.get? b=some o->s.heap.get? b=some o/\H b=none
 bsz:base.objs.size<=s.heap.objs.size
 funs:s.heap.FunFrames base outer
 frf:∀ b∈frs outer,H b=none
 hok:HOk P w H s.heap
 bare:AllBare s.gens
def CE(outer:List Env)(P:Program)(w:World)(H:Hp)(s:Shared)(Q:VK)(u:Value)(s':Shared):Prop :=
 ∃ v H',s'.os=s.os/\AllBare s'.gens/\Un (frs outer) [] H H' s.heap s'.heap/\HOk P w H' s'.heap/\RelV v u/\Q v H'
def CR(CX:CXT)(outer:List Env)(P:Program)(w:World)(H:Hp)(s:Shared)(Q:VK)(E:XK)(r:Result)(s':Shared):Prop :=
 match r with
 | .ok (.ret u)=>CE outer P w H s Q u s'
 | .ok _=>False
 | .error e=>CX outer H s E e s'
structure FnOk(P:Program)(w:World)(K:Frag)(mg:Str->Option Value)(base:Heap)(CX:CXT)(k:Nat)(f:Addr)(fd:FuncData)(ps:List Str)(sp:Sp):Prop where
 len:∀ vs H Q E,sp vs H Q E->vs.length=ps.length
 run:∀ (A:Around) (outer:List Env) (s:Shared) (H:Hp) (args:Args) (us:List Value) (vs:List V) (Q:VK) (E:XK),Wv k A->Bc P w K mg base A outer s H->BindsTo s fd args (ps.zip us)->Vals vs us->sp vs H Q E ->
  codeAny (model P w) A (.call (.ref f) args) (CR CX outer P w H s Q E) s
theorem Bc.make{P:Program}{w:World}{K:Frag}{mg:Str->Option Value}{base:Heap}{A:Around}{outer:List Env}{s:Shared}{H:Hp}(e:Bc P w K mg base A outer s H)(C:Addr)(us:List Value)(kw:List (Str×Value)) :
  Bc P w K mg base (A.under (.builtin "type.__call__" ⟨.ref C :: us,kw⟩)) outer s H:=⟨by first|exact e.frames|(simpa [Around.under,Code.envs,Code.isFrame,pushEnvs] using e.frames),e.mod,e.bs,e.bsz,e.funs,e.frf,e.hok,e.bare⟩
section
variable{X:Cx}{pins:List (Addr×Obj)}{σ:St}{H:Hp}{s s':Shared}
theorem Inv.env0(I:Inv X pins σ H s):Bc X.prog X.w X.K X.mg X.base X.A X.stack s H :=
 ⟨I.ok.frames,I.ok.mod,I.bs,zs2 I.ok.bsz I.sz,I.stack,I.stkFree,I.hok,I.bare⟩
theorem Inv.after(I:Inv X pins σ H s)(h:CE X.stack X.prog X.w H s Q u s'):EP X pins σ Q u s':=by
 obtain⟨v,H',os,bare,un,hok,r,q⟩:=h;obtain⟨hh,g,d,t,os'⟩:=s';obtain rfl:os'=s.os:=os;exact⟨v,H',I.call (h':=hh) (g':=g) (d':=d) (t':=t) (ch:=[]) un hok bare (fun b z=>absurd z (by simp)),r,q⟩
end
def zco(sp:Sp)(dvs:List V)(E:XK)(t:TA):TE:=fun σ H Q=>t σ H fun vs H1=>sp (vs++dvs) H1 Q E
inductive zgo(C:Addr)(m:Str)(sp:Sp)(dvs:List V)(E:XK)(t:TA)(σ:L2.St)(Q:VK)(x:V)(H1:Hp):Prop where
 | mk(a)(dx)(fs)(_:x=.ref a)(_:H1 a=some (.ins C dx fs))(_:fs.lookup m=none)(_:t σ H1 fun vs H2=>sp (x :: (vs++dvs)) H2 Q E)
def Ao(C:Addr)(m:Str)(sp:Sp)(dvs:List V)(E:XK)(ta:TE)(t:TA):TE:=fun σ H Q=>ta σ H fun x H1=>zgo C m sp dvs E t σ Q x H1
def Ap(C:Addr)(sp:Sp)(dvs:List V)(E:XK)(t:TA):TE:=fun σ H Q=>t σ H fun vs H1=>∀ x dx,H1 x=none->H1 dx=none->dx≠x ->
 sp (.ref x :: (vs++dvs)) (upd (upd H1 dx (.own x)) x (.ins C dx [])) (fun v H2=>v=.non/\Q (.ref x) H2) E
def T8(K:Frag)(fd:FuncData)(ps:List Str)(ds:List Value):Prop :=
 ∀ (s:Shared) (us:List Value),K.In s.heap->(us++ds).length=ps.length->BindsTo s fd ⟨us,[]⟩ (ps.zip (us++ds))
theorem T8.all{K:Frag}{fd:FuncData}{ps:List Str}(h:∀ us:List Value,us.length=ps.length->bindArgs fd ⟨us,[]⟩=pure (ps.zip us)):T8 K fd ps []:=fun s us _ hl=>by
 rw[zup] at hl ⊢;exact .of_eq (h us hl)
def Wq(CX:CXT)(X:Cx)(E:XK):Prop:=∀ (pins:List (Addr×Obj)) (σ:St) (H:Hp) (s:Shared) (e:Value) (s':Shared),Inv X pins σ H s->CX X.stack H s E e s'->X.xe e s'
section
variable{X:Cx}{CX:CXT}{k:Nat}{f C:Addr}{fd:FuncData}{ps:List Str}{sp:Sp}{dvs:List V}{ds:List Value}{E:XK}{x m:Str}{p pos apos:Pos}{e o:Expr}{es:List Expr}{ta:TE}{t:TA}
theorem Bd(F:FnOk X.prog X.w X.K X.mg X.base CX k f fd ps sp)(hr:Wv k X.A)(hb:T8 X.K fd ps ds)(hd:Vals dvs ds)(hx:Wq CX X E)
  (I:Inv X pins σ H s) (r:Vals vs us) (h:sp (vs++dvs) H Q E):wpAny (model X.prog X.w) X.A (call (.ref f) us) (EP X pins σ Q) X.xe s:=by
 have r2:Vals (vs++dvs) (us++ds):=r.append hd;have hl:(us++ds).length=ps.length:=by rw[<- r2.length];exact F.len _ _ _ _ h
 refine wpAny_call (codeAny_mono (F.run X.A X.stack s H ⟨us,[]⟩ (us++ds) (vs++dvs) Q E hr I.env0 (hb s us I.kIn hl) r2 h) fun r s' hq=>?_);cases r with
 | error e=>exact hx pins σ H s e s' I hq
 | ok fl =>
   cases fl with
   | ret u=>exact I.after hq
   | next=>exact False.elim hq
   | brk=>exact False.elim hq
   | cont=>exact False.elim hq
theorem zep(F:FnOk X.prog X.w X.K X.mg X.base CX k f fd ps sp)(hr:Wv k X.A)(hg:Gl X x)(hm:X.mg x=some (.ref f))(hk:PySem.W.keepIn X.K (.ref f)=true)(hb:T8 X.K fd ps ds)(hd:Vals dvs ds)(hx:Wq CX X E)
  (ha:PA X (e :: es) t) (hdb:(x == ("__debug__":Str))=false:=by decide) (he:starEach (e :: es) X.env=(false,eval e X.env) :: starEach es X.env:=by rfl) (hpl:(backTo pos (starEach es X.env)).any (·.1)=false:=by rfl) :
  PE X (.Call (.Name x p) (e :: es) [] pos) (zco sp dvs E t):=by
 intro pins s σ H Q I h;refine wpAny_Call_Name_kw (Qs I hg hm ?_ hdb);refine PySem.W.callWith_K (h₀:=X.base) I.ok.mod.kin hk (thn (ha pos pins s σ H _ I h) fun us s1 ⟨vs,H1,I1,r,q⟩=>⟨I1.kIn,?_⟩) he hpl;exact Bd F hr hb hd hx I1 r q
theorem zeq(he:PE X o ta)(c:Cls X.K C)(hm:zcn X.K C m f)(F:FnOk X.prog X.w X.K X.mg X.base CX k f fd ps sp)(hr:Wv k X.A)(hb:T8 X.K fd ps ds)(hd:Vals dvs ds)(hx:Wq CX X E)(ha:PA X (e :: es) t)
  (hst:starEach (e :: es) X.env=(false,eval e X.env) :: starEach es X.env:=by rfl) (hpl:(backTo pos (starEach es X.env)).any (·.1)=false:=by rfl)
  (ht:eval (.Call (.Attribute o m apos) (e :: es) [] pos) X.env=(do
   let ov <- eval o X.env
   standAt apos.atName
   let (f,first) <- holding [ov] (getMethod ov m pl)
   callWith pos f first (backTo pos (starEach (e :: es) X.env)) (backToKw pos (keywordEach [] X.env))):=by rfl) :
  PE X (.Call (.Attribute o m apos) (e :: es) [] pos) (Ao C m sp dvs E ta t):=by
 intro pins s σ H Q I h;refine PySem.W.methodCall_KW (pl:=pl) (thn (he pins s σ H _ I h) fun u s1 ⟨x,H1,I1,rx,a,dx,fs,ex,ea,l,q⟩=>?_) ht;subst ex;obtain rfl:u=Value.ref a:=rx;refine Ks I1 ea c hm l ?_;refine PySem.W.callWith_K (first:=[.ref a]) (h₀:=X.base) I.ok.mod.kin hm.kp (thn (ha pos pins s1 σ H1 _ I1 q) fun us s2 ⟨vs,H2,I2,r,q2⟩=>⟨I2.kIn,?_⟩) hst hpl;exact Bd (us:=.ref a :: us) (vs:=.ref a :: vs) F hr hb hd hx I2 (.cons rfl r) q2
theorem zcp(he:PE X o ta)(c:Cls X.K C)(hm:zcn X.K C m f)(F:FnOk X.prog X.w X.K X.mg X.base CX k f fd ps sp)(hr:Wv k X.A)(hb:T8 X.K fd ps ds)(hd:Vals dvs ds)(hx:Wq CX X E)
  (ht:eval (.Call (.Attribute o m apos) [] [] pos) X.env=(do
   let ov <- eval o X.env
   standAt apos.atName
   let (f,first) <- holding [ov] (getMethod ov m pl)
   callWith pos f first (backTo pos (starEach [] X.env)) (backToKw pos (keywordEach [] X.env))):=by rfl) :
  PE X (.Call (.Attribute o m apos) [] [] pos) (Ao C m sp dvs E ta Ba):=by
 intro pins s σ H Q I h;refine PySem.W.methodCall_KW (pl:=pl) (thn (he pins s σ H _ I h) fun u s1 ⟨x,H1,I1,rx,a,dx,fs,ex,ea,l,q⟩=>?_) ht;subst ex;obtain rfl:u=Value.ref a:=rx;refine Ks I1 ea c hm l ?_;exact PySem.W.callWith_K0 (first:=[.ref a]) I1.kIn hm.kp (Bd (us:=[.ref a]) (vs:=[.ref a]) F hr hb hd hx I1 (.cons rfl .nil) q)
structure Mk(K:Frag)(C f:Addr):Prop where
 makes:PySem.W.makesIn K C=true
 init:PySem.W.findIn K (.ref C) "__init__"=some (some (.ref f))
 fn:PySem.W.isFn K (.ref f)=true
 kp:PySem.W.keepIn K (.ref C)=true
theorem Ew(M:Mk X.K C f)(F:FnOk X.prog X.w X.K X.mg X.base CX k f fd ps sp)(hr:Wv (k+1) X.A)(hb:T8 X.K fd ps ds)(hd:Vals dvs ds)
  (hx:Wq CX X E) (I:Inv X pins σ H s) (r:Vals vs us)
  (h:∀ x dx,H x=none->H dx=none->dx≠x->sp (.ref x :: (vs++dvs)) (upd (upd H dx (.own x)) x (.ins C dx [])) (fun v H2=>v=.non/\Q (.ref x) H2) E) :
  wpAny (model X.prog X.w) X.A (call (.ref C) us) (EP X pins σ Q) X.xe s:=by
 have hq:=h (s.heap.objs.size+1) s.heap.objs.size (I.hok.fresh (Nat.le_succ _)) (I.hok.fresh (zst _)) (ztb (Nat.lt_succ_self _));have I2:=Inv.made (C:=C) I;have r2:Vals (V.ref (s.heap.objs.size+1) :: (vs++dvs)) (Value.ref (s.heap.objs.size+1) :: (us++ds)):=.cons rfl (r.append hd);have hl:(Value.ref (s.heap.objs.size+1) :: us++ds).length=ps.length:=by
  have e:=r2.length;rw[F.len _ _ _ _ hq] at e;exact e.symm
 refine wpAny_call (zcm (f:=f) I.kIn M.makes M.init (beq_iff_eq.mp M.fn) (codeAny_mono (F.run _ X.stack _ _ ⟨Value.ref (s.heap.objs.size+1) :: us,[]⟩ (Value.ref (s.heap.objs.size+1) :: (us++ds)) _ _ E (hr.make C us [])
  (I2.env0.make C us []) (hb _ (Value.ref (s.heap.objs.size+1) :: us) I2.kIn hl) r2 hq) fun r s' hq'=>?_))
 cases r with
 | error e=>exact hx pins σ _ _ e s' I2 hq'
 | ok fl =>
   cases fl with
   | ret u =>
     obtain⟨v,H',I3,rv,ev,q3⟩:=I2.after hq';subst ev;exact⟨rv,⟨V.ref (s.heap.objs.size+1),H',I3,rfl,q3⟩⟩
   | next=>exact False.elim hq'
   | brk=>exact False.elim hq'
   | cont=>exact False.elim hq'
theorem zer(M:Mk X.K C f)(F:FnOk X.prog X.w X.K X.mg X.base CX k f fd ps sp)(hr:Wv (k+1) X.A)(hg:Gl X x)(hm:X.mg x=some (.ref C))(hb:T8 X.K fd ps ds)(hd:Vals dvs ds)(hx:Wq CX X E)
  (ha:PA X (e :: es) t) (hdb:(x == ("__debug__":Str))=false:=by decide) (he:starEach (e :: es) X.env=(false,eval e X.env) :: starEach es X.env:=by rfl) (hpl:(backTo pos (starEach es X.env)).any (·.1)=false:=by rfl) :
  PE X (.Call (.Name x p) (e :: es) [] pos) (Ap C sp dvs E t):=by
 intro pins s σ H Q I h;refine wpAny_Call_Name_kw (Qs I hg hm ?_ hdb);refine PySem.W.callWith_K (h₀:=X.base) I.ok.mod.kin M.kp (thn (ha pos pins s σ H _ I h) fun us s1 ⟨vs,H1,I1,r,q⟩=>⟨I1.kIn,?_⟩) he hpl;exact Ew M F hr hb hd hx I1 r q
theorem zcq(M:Mk X.K C f)(F:FnOk X.prog X.w X.K X.mg X.base CX k f fd ps sp)(hr:Wv (k+1) X.A)(hg:Gl X x)(hm:X.mg x=some (.ref C))(hb:T8 X.K fd ps ds)(hd:Vals dvs ds)(hx:Wq CX X E)
  (hdb:(x == ("__debug__":Str))=false:=by decide):PE X (.Call (.Name x p) [] [] pos) (Ap C sp dvs E Ba):=by
 intro pins s σ H Q I h;refine wpAny_Call_Name_kw (Qs I hg hm ?_ hdb);exact PySem.W.callWith_K0 I.kIn M.kp (Ew (us:=[]) M F hr hb hd hx I .nil h)
end
section
variable{X:Cx}{CX:CXT}{k:Nat}{f C:Addr}{fd:FuncData}{ps ks:List Str}{sp:Sp}{E:XK}{x m:Str}{p pos apos kpos:Pos}{e o:Expr}{es:List Expr}{kws:List Keyword}{te ta:TE}{t tk:TA}{nm:Option Str}
structure zjb(K:Frag)(fd:FuncData)(ps ks:List Str)(g:List Value->List Value->List Value)(gV:List V->List V->List V):Prop where
 to:∀ (s:Shared) (us ws:List Value),K.In s.heap->(g us ws).length=ps.length->BindsTo s fd ⟨us,ks.zip ws⟩ (ps.zip (g us ws))
 rel:∀ {vs:List V} {us:List Value} {zs:List V} {ws:List Value},Vals vs us->Vals zs ws->Vals (gV vs zs) (g us ws)
variable{g:List Value->List Value->List Value}{gV:List V->List V->List V}
end
structure Zl(N P:List Str)(sc:Scope):Prop where
 kind:sc.kind=.function
 co:sc.isCoroutine=false
 gen:sc.isGenerator=false
 nd:N.Nodup
 pre:N.take P.length=P
 par:∀ x∈P,sc.names.lookup x=some .local\/sc.names.lookup x=some .cell
 nofree:∀ y∈sc.names,y.2≠.free
theorem Gd{kindOf:Str->Option NameKind}{x:Str}:∀ {binds:List (Str×Value)} {m:Str->Option Value},(∀ v,(x,v)∉binds)->bindL kindOf binds m x=m x
 | [],_,_=>rfl
 | (n,v) :: r,m,h=>by
   unfold bindL;rw[Gd fun w hw=>h w (zs4 _ hw)];split
   ·have:x≠n:=by rintro rfl;exact h v zte
    simp[this]
   ·rfl
theorem Ge{kindOf:Str->Option NameKind}{x:Str}:∀ {binds:List (Str×Value)} {m:Str->Option Value},(∀ v,(x,v)∉binds)->bindC kindOf binds m x=m x
 | [],_,_=>rfl
 | (n,v) :: r,m,h=>by
   unfold bindC;rw[Ge fun w hw=>h w (zs4 _ hw)];split
   ·rfl
   ·have:x≠n:=by rintro rfl;exact h v zte
    simp[this]
theorem Gf{kindOf:Str->Option NameKind}{x:Str}{v:Value}:∀ {P:List Str} {vs:List Value} {i:Nat} {m:Str->Option Value},P.Nodup->P[i]?=some x->vs[i]?=some v->kindOf x=some .local ->
  bindL kindOf (P.zip vs) m x=some v
 | [],_,_,_,_,h,_,_=>by simp at h
 | _ :: _,[],_,_,_,_,h,_=>by simp at h
 | p :: P,w :: vs,0,m,nd,h1,h2,hk=>by
   simp at h1 h2;subst h1;subst h2;show bindL kindOf ((p,w) :: P.zip vs) m p=_;unfold bindL;rw[Gd fun v hv=>(ztd.mp nd).1 (List.of_mem_zip hv).1,if_pos hk];simp
 | p :: P,w :: vs,i+1,m,nd,h1,h2,hk=>by
   show bindL kindOf ((p,w) :: P.zip vs) m x=_;unfold bindL;exact Gf (i:=i) (ztd.mp nd).2 (by simpa using h1) (by simpa using h2) hk
theorem Gg{kindOf:Str->Option NameKind}{x:Str}{v:Value}:∀ {P:List Str} {vs:List Value} {i:Nat} {m:Str->Option Value},P.Nodup->P[i]?=some x->vs[i]?=some v->kindOf x≠some .local ->
  bindC kindOf (P.zip vs) m x=some v
 | [],_,_,_,_,h,_,_=>by simp at h
 | _ :: _,[],_,_,_,_,h,_=>by simp at h
 | p :: P,w :: vs,0,m,nd,h1,h2,hk=>by
   simp at h1 h2;subst h1;subst h2;show bindC kindOf ((p,w) :: P.zip vs) m p=_;unfold bindC;rw[Ge fun v hv=>(ztd.mp nd).1 (List.of_mem_zip hv).1,if_neg hk];simp
 | p :: P,w :: vs,i+1,m,nd,h1,h2,hk=>by
   show bindC kindOf ((p,w) :: P.zip vs) m x=_;unfold bindC;exact Gg (i:=i) (ztd.mp nd).2 (by simpa using h1) (by simpa using h2) hk
def Mv(N:List Str)(vs:List V):St:=vs.map some++List.replicate (N.length-vs.length) none
def cxOf(CX:CXT)(P:Program)(w:World)(K:Frag)(mg:Str->Option Value)(base:Heap)(N:List Str)(qual:Str)(scope:Scope)(f:Addr)(cd:Value)(A:Around)(outer:List Env)(s:Shared)(H:Hp)(E:XK):Cx where
 prog:=P
 w:=w
 K:=K
 mg:=mg
 base:=base
 A:=A.deeper (envOfC qual scope s.heap.objs.size f cd)
 N:=N
 s₀:=s
 H₀:=H
 env:=envOfC qual scope s.heap.objs.size f cd
 outer:=outer
 stack:=envOfC qual scope s.heap.objs.size f cd :: outer
 ex:=[]
 calm:=true
 fn:=fun _=>true
 pn:=[]
 xe:=fun e s'=>wpAny (model P w) (A.deeper (envOfC qual scope s.heap.objs.size f cd)) (leaving (envOfC qual scope s.heap.objs.size f cd) e) (fun _ s''=>CX outer H s E e s'') (fun e' s''=>CX outer H s E e' s'') s'
theorem Ex{sc:Scope}{n:Nat}{x:Str}(h:sc.names.lookup x=some .cell):∃ c,(cellsFrom n sc.names []).lookup x=some c:=by
 have q:=PySem.W.cellsFrom_some sc.names n [] (.inl h);exact ztz.mp q
theorem za0{CX:CXT}{P:Program}{w:World}{K:Frag}{mg:Str->Option Value}{base:Heap}{N ps:List Str}{qual:Str}{scope:Scope}{f:Addr}{cd:Value}{A:Around}{outer:List Env}{s s1:Shared}{H:Hp}{E:XK}{us:List Value}{vs:List V}
  (S:Zl N ps scope) (hd:A.handled=none) (e0:Bc P w K mg base A outer s H) (hl:vs.length=ps.length) (r:Vals vs us)
  (x:InCallC s s.heap.objs.size (bindL (envOfC qual scope s.heap.objs.size f cd).kindOf (ps.zip us) fun _=>none) (cellsFrom (s.heap.objs.size+1) scope.names []) (bindC (envOfC qual scope s.heap.objs.size f cd).kindOf (ps.zip us) fun _=>none) s1) :
  Inv (cxOf CX P w K mg base N qual scope f cd A outer s H E) [] (Mv N vs) H s1:=by
 have hpl:ps.length<=N.length:=by have:=congrArg List.length S.pre;rw[zub] at this;omega
 obtain⟨h1,tk,rfl,hk⟩:=x.done;have noA:∀ b:Addr,b∉(cxOf CX P w K mg base N qual scope f cd A outer s H E).ex:=fun b z=>absurd (show b∈([]:List Addr) from z) (by simp);refine⟨⟨e0.mod,S.kind,rfl,rfl,zst _,fun y z c h1 h2=>?_,fun y hy=>?_,fun y c _ h=>?_,fun _=>hd,Around.frames_deeper e0.frames,.inr ⟨rfl,rfl⟩,fun b z=>absurd z (noA b),e0.bs,e0.bsz,fun b _ _=>noA b,fun b z=>absurd z (noA b),e0.funs,e0.frf⟩,
  rfl,e0.bare,Un.kept hk,⟨_,x.toInCall.ns,fun i y v h1 h2 h3=>?_⟩,fun y c h=>⟨_,x.cell y c h⟩,e0.hok.fresh (zst _),fun y c h=>?_,fun p hp=>absurd (show p∈([]:List (Addr×Obj)) from hp) (by simp),e0.hok.kept hk,?_⟩
 ·exact name_of_addr x.apart (PySem.mem_of_lookup h1) (PySem.mem_of_lookup h2)
 ·have hy:scope.names.lookup y=some .cell\/scope.names.lookup y=some .free:=hy;rcases hy with hy|hy
  ·exact Ex hy
  ·exact absurd rfl (S.nofree _ (PySem.mem_of_lookup hy))
 ·exact Nat.le_of_lt (x.above y c (PySem.mem_of_lookup h))
 ·have h2:=h2.resolve_right (Wd _);have hi:i<vs.length:=by
   unfold Mv at h2;by_cases hi:i<vs.length
   ·exact hi
   ·rw[zth (by simpa using hi)] at h2;rw[List.getElem?_replicate] at h2;split at h2<;>cases h2
  have ha:vs[i]?=some v:=by
   unfold Mv at h2;rw[zti (by simpa using hi),zsr] at h2;cases e:vs[i]? with
   | none=>rw[e] at h2;cases h2
   | some a=>rw[e] at h2;cases h2;rfl
  obtain⟨u,hu,rv⟩:=r.get ha;have hp:ps[i]?=some y:=by
   rw[<- S.pre,List.getElem?_take_of_lt ⋯];exact h1
  have ndP:ps.Nodup:=by rw[<- S.pre];exact S.nd.sublist (List.take_sublist _ _)
  refine⟨u,rv,?_⟩;rcases S.par y (zsy hp) with k|k
  ·exact .inl ⟨k,Gf ndP hp hu k⟩
  ·obtain⟨c,e⟩:=Ex (n:=s.heap.objs.size+1) k;refine .inr ⟨.inl k,c,e,?_⟩;have q:=x.cell y c e;rw[Gg ndP hp hu (by show scope.names.lookup y≠_;rw[k];decide)] at q;exact q
 ·exact e0.hok.fresh (Nat.le_of_lt (x.above y c (PySem.mem_of_lookup h)))
 ·unfold Mv;show _=N.length;rw[zsn,zsk,List.length_replicate];omega
theorem zib{CX:CXT}{P:Program}{w:World}{K:Frag}{mg:Str->Option Value}{base:Heap}{k:Nat}{f:Addr}{name qual:Str}{params:Arguments}{body:List Stmt}{scope:Scope}{dV kV doc pm cdv ct oc:Value}{an od:Option Addr}
  {osl:Array (Option Value)} {N ps:List Str} {sp:Sp} (lk:K.lookup f=some ⟨oc,od,.func (PySem.W.fnOf name qual params body scope dV kV doc pm an cdv ct),osl⟩) (hcd:PySem.W.codeIn K cdv qual=true) (S:Zl N ps scope)
  (len:∀ vs H Q E,sp vs H Q E->vs.length=ps.length)
  (hbody:∀ (A:Around) (outer:List Env) (s:Shared) (H:Hp) (vs:List V) (Q:VK) (E:XK),Wv k (A.deeper (envOfC qual scope s.heap.objs.size f cdv))->sp vs H Q E ->
   ∃ t,PSs (cxOf CX P w K mg base N qual scope f cdv A outer s H E) body t/\t { nx:=fun _ H'=>Q .non H',rt:=Q } (Mv N vs) H) :
  FnOk P w K mg base CX (k+1) f (PySem.W.fnOf name qual params body scope dV kV doc pm an cdv ct) ps sp:=by
 refine⟨len,fun A outer s H args us vs Q E hr e0 hb r hsp=>?_⟩;have hl:=len _ _ _ _ hsp;have KX:K.In s.heap:=e0.mod.kin.keeps fun b o e=>(e0.bs b o e).1;have lim:s.heap.NoLimit:=e0.mod.nolimit.keeps fun b o e=>(e0.bs b o e).1;have hkind:∀ y∈ps.zip us,scope.names.lookup y.1=some .local\/(scope.names.lookup y.1=some .cell/\((cellsFrom (s.heap.objs.size+1) scope.names []).lookup y.1).isSome=true):=fun ⟨n,v⟩ hy=>by
  rcases S.par n (List.of_mem_zip hy).1 with q|q
  ·exact .inl q
  ·exact .inr ⟨q,PySem.W.cellsFrom_some _ _ _ (.inl q)⟩
 refine codeAny_call_function hr.depth (KX _ _ lk) rfl S.co S.gen rfl (PySem.W.codeRec_of KX hcd) (hb _ _ _ _ ?_);refine wpAny_newFunctionEnv_cells S.kind hkind fun env he s1 x=>?_;subst he;refine⟨lim.keeps x.toInCall.keep,codeAny_func ?_⟩;obtain⟨t,ht,hq⟩:=hbody A outer s H vs Q E (hr.deeper _) hsp;have I:Inv (cxOf CX P w K mg base N qual scope f cdv A outer s H E) [] (Mv N vs) H s1:=za0 S hr.hd e0 hl r x;refine wpAny_mono (ht [] s1 (Mv N vs) H _ I hq) (fun fl s' hs=>?_) fun e s' hs=>hs;have fin:∀ {σ':St} {H':Hp} {v:V} {u:Value},Inv (cxOf CX P w K mg base N qual scope f cdv A outer s H E) [] σ' H' s'->RelV v u->Q v H'->CE outer P w H s Q u s' :=
  fun {σ' H' v u} J rv q=>⟨v,H',J.os,J.bare,J.base,J.hok,rv,q⟩
 cases fl with
 | ret u =>
   obtain⟨v,σ',H',J,rv,q⟩:=hs;exact fin J rv q
 | next =>
   obtain⟨σ',H',J,q⟩:=hs;exact fin (v:=V.non) (u:=Value.none) J rfl q
 | brk =>
   obtain⟨_,_,_,q⟩:=hs;exact False.elim q
 | cont =>
   obtain⟨_,_,_,q⟩:=hs;exact False.elim q
section
variable{X:Cx}{x:Str}{p pos:Pos}{e:Expr}{es:List Expr}{t:TA}{id T:String}{r:List V->Hp->VK->Prop}
def tCB(r:List V->Hp->VK->Prop)(t:TA):TE:=fun σ H Q=>t σ H fun vs H1=>r vs H1 Q
theorem Zt(hc:Ui X (.builtin id) r)(hg:Gl X x)(hm:X.mg x=none)(hv:bootBuiltins x=some (.builtin id))(ha:PA X (e :: es) t)(hn:x≠"__name__":=by decide)(hdb:(x == ("__debug__":Str))=false:=by decide)
  (he:starEach (e :: es) X.env=(false,eval e X.env) :: starEach es X.env:=by rfl) (hpl:(backTo pos (starEach es X.env)).any (·.1)=false:=by rfl):PE X (.Call (.Name x p) (e :: es) [] pos) (tCB r t):=by
 intro pins s σ H Q I h;refine wpAny_Call_Name_kw (Po I hg hm hv ?_ hn hdb);exact PyProof.Rows.callWith_builtin1 (thn (ha pos pins s σ H _ I h) fun us s1 ⟨vs,H1,I1,r1,q1⟩=>hc pins s1 σ H1 vs us Q I1 r1 q1) he hpl
theorem Xw(hc:Ui X (.type T) r)(hg:Gl X x)(hm:X.mg x=none)(hv:bootBuiltins x=some (.type T))(ha:PA X (e :: es) t)(hn:x≠"__name__":=by decide)(hdb:(x == ("__debug__":Str))=false:=by decide)
  (he:starEach (e :: es) X.env=(false,eval e X.env) :: starEach es X.env:=by rfl) (hpl:(backTo pos (starEach es X.env)).any (·.1)=false:=by rfl):PE X (.Call (.Name x p) (e :: es) [] pos) (tCB r t):=by
 intro pins s σ H Q I h;refine wpAny_Call_Name_kw (Po I hg hm hv ?_ hn hdb);exact PyProof.Rows.callWith_type1 (thn (ha pos pins s σ H _ I h) fun us s1 ⟨vs,H1,I1,r1,q1⟩=>hc pins s1 σ H1 vs us Q I1 r1 q1) he hpl
end
section
variable{κ:Type}[DecidableEq κ]
def valV(kvs:List (κ×V))(k:κ):Option V:=(kvs.find? fun kv=>decide (kv.1=k)).map (·.2)
def putK(kvs:List (κ×V))(k:κ)(v:V):List (κ×V) :=
 if (kvs.any fun kv=>decide (kv.1=k))=true then kvs.map (fun kv=>if kv.1=k then (kv.1,v) else kv) else kvs++[(k,v)]
def Xx(kvs:List (κ×V))(k:κ):List (κ×V):=kvs.filter fun kv=>decide (kv.1≠k)
theorem zcr:valV ([]:List (κ×V)) k=none:=rfl
theorem Y8{p:κ×V}{r:List (κ×V)}{k:κ}(e:p.1=k):valV (p :: r) k=some p.2:=by simp[valV,zud,e]
theorem Y2{p:κ×V}{r:List (κ×V)}{k:κ}(e:¬ p.1=k):valV (p :: r) k=valV r k:=by simp[valV,zud,e]
theorem T9(k:κ):∀ kvs:List (κ×V),(kvs.any fun kv=>decide (kv.1=k))=(valV kvs k).isSome
 | []=>rfl
 | p :: r=>by
   rw[zuf];by_cases e:p.1=k
   ·simp only[Y8 e,zss e,Bool.true_or,Option.isSome_some]
   ·rw[Y2 e,zsw e,Bool.false_or];exact T9 k r
theorem Ey(k j:κ)(y:V):∀ kvs:List (κ×V),valV (kvs.map fun kv=>if kv.1=k then (kv.1,y) else kv) j=(valV kvs j).map fun x=>if j=k then y else x
 | []=>rfl
 | p :: r=>by
   have ih:=Ey k j y r;rw[zsx];by_cases h:p.1=k
   ·rw[if_pos h];by_cases e:p.1=j
    ·rw[Y8 (p:=(p.1,y)) e,Y8 e,ztr,if_pos (e.symm.trans h)]
    ·rw[Y2 (p:=(p.1,y)) e,Y2 e,ih]
   ·rw[if_neg h];by_cases e:p.1=j
    ·rw[Y8 (p:=p) e,Y8 e,ztr,if_neg (fun z=>h (e.trans z))]
    ·rw[Y2 (p:=p) e,Y2 e,ih]
theorem Gh(k j:κ)(y:V):∀ kvs:List (κ×V),valV kvs k=none->valV (kvs++[(k,y)]) j=if j=k then some y else valV kvs j
 | [],_=>by
   by_cases e:k=j
   ·rw[if_pos e.symm];exact Y8 (p:=(k,y)) e
   ·rw[if_neg (fun z=>e z.symm)];exact Y2 (p:=(k,y)) e
 | p :: r,hn=>by
   rw[List.cons_append];have hk:¬ p.1=k:=fun z=>by rw[Y8 z] at hn;cases hn
   rw[Y2 hk] at hn;have ih:=Gh k j y r hn;by_cases e:p.1=j
   ·rw[Y8 e,Y8 e,if_neg (fun z=>hk (e.trans z))]
   ·rw[Y2 e,Y2 e,ih]
theorem Ww(kvs:List (κ×V))(k j:κ)(y:V):valV (putK kvs k y) j=if j=k then some y else valV kvs j:=by
 unfold putK;by_cases a:(kvs.any fun kv=>decide (kv.1=k))=true
 ·rw[if_pos a,Ey];rw[T9] at a;by_cases e:j=k
  ·obtain⟨x,hx⟩:=ztz.mp a;rw[if_pos e,e,hx,ztr,if_pos rfl]
  ·rw[if_neg e];cases valV kvs j with
   | none=>rfl
   | some x=>rw[ztr,if_neg e]
 ·rw[if_neg a];refine Gh k j y kvs ?_;rw[T9] at a;cases q:valV kvs k with
  | none=>rfl
  | some x=>rw[q] at a;exact(a rfl).elim
theorem Y3(kvs:List (κ×V))(k:κ)(v:V):(putK kvs k v).length<=kvs.length+1:=by
 unfold putK;split
 ·rw[zsk];omega
 ·rw[zsn,zs8,List.length_nil];omega
theorem zcs{kvs:List (κ×V)}{k:κ}(v:V)(h:valV kvs k=none):putK kvs k v=kvs++[(k,v)]:=by
 unfold putK;rw[T9,h];exact if_neg ⋯
theorem RelO.isSome_eq(r:RelO o u):o.isSome=u.isSome:=by
 cases o with
 | none=>cases u with
   | none=>rfl
   | some _=>exact(show False from r).elim
 | some _=>cases u with
   | none=>exact(show False from r).elim
   | some _=>rfl
theorem RelO.getD(r:RelO o u)(rd:RelV d d'):RelV (o.getD d) (u.getD d'):=by
 cases o with
 | none=>cases u with
   | none=>exact rd
   | some _=>exact(show False from r).elim
 | some _=>cases u with
   | none=>exact(show False from r).elim
   | some _=>exact r
theorem KV.val{kvs:List (κ×V)}{vs:List (κ×Value)}(r:KV kvs vs)(k:κ):RelO (valV kvs k) (valueAt vs k):=by
 unfold KV at r
 induction r with
 | nil=>exact True.intro
 | @cons p q ps qs h t ih =>
   obtain⟨h1,h2⟩:=h;by_cases e:p.1=k
   ·have e':q.1=k:=h1.symm.trans e;have b:valueAt (q :: qs) k=some q.2:=by simp[valueAt,zud,e']
    rw[Y8 e,b];exact h2
   ·have e':¬ q.1=k:=fun z=>e (h1.trans z);have b:valueAt (q :: qs) k=valueAt qs k:=by simp[valueAt,zud,e']
    rw[Y2 e,b];exact ih
theorem KV.any(r:KV kvs vs)(k:κ):(kvs.any fun kv=>decide (kv.1=k))=vs.any fun kv=>decide (kv.1=k):=by
 unfold KV at r
 induction r with
 | nil=>rfl
 | cons h t ih=>rw[zuf,zuf,ih,h.1]
theorem KV.repl(r:KV kvs vs)(k:κ)(ry:RelV y u) :
  KV (kvs.map fun kv=>if kv.1=k then (kv.1,y) else kv) (vs.map fun kv=>if kv.1=k then (kv.1,u) else kv):=by
 unfold KV at r ⊢
 induction r with
 | nil=>exact .nil
 | @cons p q ps qs h t ih =>
   rw[zsx,zsx];refine .cons ?_ ih;obtain⟨h1,h2⟩:=h;by_cases e:p.1=k
   ·rw[if_pos e,if_pos (h1.symm.trans e)];exact⟨h1,ry⟩
   ·rw[if_neg e,if_neg (fun z=>e (h1.trans z))];exact⟨h1,h2⟩
theorem KV.put(r:KV kvs vs)(k:κ)(ry:RelV y u):KV (putK kvs k y) (stored vs k u):=by
 unfold putK stored;rw[r.any k];by_cases e:(vs.any fun kv=>decide (kv.1=k))=true
 ·rw[if_pos e,if_pos e];exact r.repl k ry
 ·rw[if_neg e,if_neg e];exact Paired.snoc r ⟨rfl,ry⟩
theorem KV.drop(r:KV kvs vs)(k:κ):KV (Xx kvs k) (without vs k):=by
 unfold KV at r ⊢;unfold Xx without
 induction r with
 | nil=>exact .nil
 | @cons p q ps qs h t ih =>
   obtain⟨h1,h2⟩:=h;rw[zt1,zt1];by_cases e:p.1=k
   ·have a:¬ decide (p.1≠k)=true:=by simp[e]
    have b:¬ decide (q.1≠k)=true:=by simp[h1.symm.trans e]
    rw[if_neg a,if_neg b];exact ih
   ·have e':¬ q.1=k:=fun z=>e (h1.trans z);have a:decide (p.1≠k)=true:=by simp[e]
    have b:decide (q.1≠k)=true:=by simp[e']
    rw[if_pos a,if_pos b];exact .cons ⟨h1,h2⟩ ih
theorem KV.keys{kvs:List (κ×V)}{vs:List (κ×Value)}(r:KV kvs vs):kvs.map (·.1)=vs.map (·.1):=by
 unfold KV at r
 induction r with
 | nil=>rfl
 | cons h t ih=>rw[zsx,zsx,ih,h.1]
theorem KV.length(r:KV kvs vs):kvs.length=vs.length:=Paired.length r
theorem Ez(kvs:List (κ×V))(k:κ):(Xx kvs k).length<=kvs.length:=ztt _ _
end
theorem Mw(r:RelV (kV k) u):(Yo P w).is k u=true:=by
 cases k with
 | inl i=>obtain⟨t,e⟩:=(show ∃ t,u=Value.int i t from r);subst e;exact En P w i t
 | inr x=>obtain⟨t,e⟩:=(show ∃ t,u=Value.str x t from r);subst e;exact Eo P w x t
theorem Gi:∀ {ks:List Key} {us:List Value},Vals (ks.map kV) us->ItemsAre (Yo P w) ks us
 | [],_,r=>by rw[List.map_nil] at r;cases r;exact .nil
 | k :: ks,_,r=>by
   rw[zsx] at r;cases r with
   | cons h t=>exact .cons (Mw h) (Gi t)
abbrev KT(H:Hp):List (List Key×V)->List (List Key×Addr×Value)->Prop:=Paired fun p q=>p.1=q.1/\H q.2.1=some (.tup (p.1.map kV))/\RelV p.2 q.2.2
theorem KT.val{H:Hp}{kvs:List (List Key×V)}{xs:List (List Key×Addr×Value)}(r:KT H kvs xs)(k:List Key):RelO (valV kvs k) ((atKey xs k).map (·.2)):=by
 induction r with
 | nil=>exact True.intro
 | @cons p q ps qs h t ih =>
   obtain⟨h1,_,h2⟩:=h;by_cases e:p.1=k
   ·have e':q.1=k:=h1.symm.trans e;have b:atKey (q :: qs) k=some q.2:=by simp[atKey,zud,e']
    rw[Y8 e,b];exact h2
   ·have e':¬ q.1=k:=fun z=>e (h1.trans z);have b:atKey (q :: qs) k=atKey qs k:=by simp[atKey,zud,e']
    rw[Y2 e,b];exact ih
theorem KT.repl(r:KT H kvs xs)(k:List Key)(ry:RelV y u) :
  KT H (kvs.map fun kv=>if kv.1=k then (kv.1,y) else kv) (xs.map (putAt k u)):=by
 induction r with
 | nil=>exact .nil
 | @cons p q ps qs h t ih =>
   rw[zsx,zsx];refine .cons ?_ ih;obtain⟨h1,h2,h3⟩:=h;unfold putAt;by_cases e:p.1=k
   ·rw[if_pos e,if_pos (h1.symm.trans e)];exact⟨h1,h2,ry⟩
   ·rw[if_neg e,if_neg (fun z=>e (h1.trans z))];exact⟨h1,h2,h3⟩
theorem KT.put(r:KT H kvs xs)(k:List Key)(hb:H b=some (.tup (k.map kV)))(ry:RelV y u) :
  KT H (putK kvs k y) (storedH xs k b u):=by
 have e:(kvs.any fun kv=>decide (kv.1=k))=(atKey xs k).isSome:=by
  rw[T9,(r.val k).isSome_eq,Option.isSome_map]
 unfold putK storedH;rw[e];by_cases q:(atKey xs k).isSome=true
 ·rw[if_pos q,if_pos q];exact r.repl k ry
 ·rw[if_neg q,if_neg q];exact Paired.snoc r ⟨rfl,hb,ry⟩
theorem KT.keeps(r:KT H kvs xs)(ht:∀ b ys,H b=some (.tup ys)->H' b=some (.tup ys)):KT H' kvs xs :=
 Paired.mapP r fun _ _ z=>⟨z.1,ht _ _ z.2.1,z.2.2⟩
section
variable{P:Program}{w:World}{H:Hp}{h:Heap}{a:Addr}
theorem zfz(ok:HOk P w H h)(e:Rd H a u):Y0 P w H h a u:=e.ok ok
theorem Rx(ok:HOk P w H h)(e:Rd H a (.dK kvs)):kvs.length<=sizeLine/\(a == sysModules)=false/\∃ vs,KV kvs vs/\h.DictOf (Yo P w) a vs :=
 show Y0 P w H h a (.dK kvs) from zfz ok e
theorem zct(ok:HOk P w H h)(e:H a=some (.dK kvs)):kvs.length<=sizeLine/\(a == sysModules)=false/\∃ vs,KV kvs vs/\h.DictOf (Yo P w) a vs:=Rx ok (.inl e)
theorem Pr(ok:HOk P w H h)(e:H a=some (.tup (ks.map kV))):(tupleKind (Yo P w)).is h ks a:=by
 obtain⟨_,its,r,o,h1,h2,n,h3⟩:=(show Y0 P w H h a (.tup (ks.map kV)) from ok a _ e);exact⟨o,its.toArray,n,h1,h2,h3,by simpa using Gi r⟩
theorem Kt(ok:HOk P w H h)(e:Rd H a (.dT kvs)):kvs.length<=sizeLine/\(a == sysModules)=false /\
  ∃ xs,KT H kvs xs/\h.DictOfH (tupleKind (Yo P w)) a xs:=by
 obtain⟨z,y,xs,r,o,es,ep,h1,h2,h3,h4,h5⟩:=(show Y0 P w H h a (.dT kvs) from zfz ok e);refine⟨z,y,xs,r,o,es,ep,h1,h2,h3,h4,fun x hx=>?_,h5⟩;have all:∀ {l:List (List Key×V)} {m:List (List Key×Addr×Value)},KT H l m->∀ x∈m,(tupleKind (Yo P w)).is h x.1 x.2.1:=by
  intro l m q
  induction q with
  | nil=>intro x hx;exact nomatch hx
  | @cons p q ps qs hq t ih =>
    intro x hx;rcases zso.mp hx with e|hx
    ·subst e;exact Pr ok (by rw[<- hq.1];exact hq.2.1)
    ·exact ih x hx
 exact all r x hx
theorem zf0(ok:HOk P w H h)(e:H a=some (.dT kvs)):kvs.length<=sizeLine/\(a == sysModules)=false /\
  ∃ xs,KT H kvs xs/\h.DictOfH (tupleKind (Yo P w)) a xs:=Kt ok (.inl e)
end
def DGet(H:Hp)(a:Addr)(y:V)(r:Option V):Prop :=
 (∃ kvs k,Rd H a (.dK kvs)/\y=kV k/\r=valV kvs k)\/∃ kvs k b,Rd H a (.dT kvs)/\y=.ref b/\H b=some (.tup (k.map kV))/\r=valV kvs k
def DPut(H:Hp)(a:Addr)(y v:V)(H':Hp):Prop :=
 (∃ kvs k,H a=some (.dK kvs)/\y=kV k/\kvs.length<sizeLine/\H'=upd H a (.dK (putK kvs k v))) \/
 ∃ kvs k b,H a=some (.dT kvs)/\y=.ref b/\H b=some (.tup (k.map kV))/\kvs.length<sizeLine/\H'=upd H a (.dT (putK kvs k v))
theorem DGet.k{H:Hp}{a:Addr}{kvs:List (Key×V)}{k:Key}(e:H a=some (.dK kvs)):DGet H a (kV k) (valV kvs k):=.inl ⟨kvs,k,.inl e,rfl,rfl⟩
theorem DGet.t{H:Hp}{a b:Addr}{kvs:List (List Key×V)}{k:List Key}(e:H a=some (.dT kvs))(eb:H b=some (.tup (k.map kV))):DGet H a (.ref b) (valV kvs k):=.inr ⟨kvs,k,b,.inl e,rfl,eb,rfl⟩
theorem DPut.k{H:Hp}{a:Addr}{kvs:List (Key×V)}{k:Key}{v:V}(e:H a=some (.dK kvs))(hl:kvs.length<sizeLine):DPut H a (kV k) v (upd H a (.dK (putK kvs k v))):=.inl ⟨kvs,k,e,rfl,hl,rfl⟩
theorem DPut.t{H:Hp}{a b:Addr}{kvs:List (List Key×V)}{k:List Key}{v:V}(e:H a=some (.dT kvs))(eb:H b=some (.tup (k.map kV)))(hl:kvs.length<sizeLine) :
  DPut H a (.ref b) v (upd H a (.dT (putK kvs k v))):=.inr ⟨kvs,k,b,e,rfl,eb,hl,rfl⟩
section
variable{X:Cx}{pins:List (Addr×Obj)}{σ:St}{H:Hp}{s:Shared}{a:Addr}{y v:V}{u r:Value}{o:Option V}{A:Around}{E:Value->Shared->Prop}
theorem Inv.big(I:Inv X pins σ H s):sysModules<s.heap.objs.size:=by
 have h:mainGlobals<s.heap.objs.size:=(I.mod.glob.keeps I.bk).lt;exact Nat.lt_trans ⋯ h
theorem za1(hu:A.units+1<cLine)(I:Inv X pins σ H s)(g:DGet H a y (some v))(ry:RelV y u)(h:∀ w' s',Inv X pins σ H s'->RelV v w'->Q w' s') :
  wpAny (model X.prog X.w) A (getItem (.ref a) u) Q E s:=by
 rcases g with ⟨kvs,k,e,ey,l⟩|⟨kvs,k,b,e,ey,eb,l⟩
 ·subst ey;obtain⟨z,hd,vs,rel,dd⟩:=Rx I.hok e;obtain⟨w',hw,rw'⟩:=RelO.some_of (v:=v) (o:=valueAt vs k) (by rw[l];exact rel.val k);exact wpAny_getItem_of (Mw ry) dd.mapOf hw (h w' _ (I.tok _) rw')
 ·subst ey;cases (show u=Value.ref b from ry);obtain⟨z,hd,xs,rel,dd⟩:=Kt I.hok e;obtain⟨w',hw,rw'⟩:=RelO.some_of (v:=v) (o:=(atKey xs k).map (·.2)) (by rw[l];exact rel.val k);obtain⟨p,hp,hp2⟩:=zuc.mp hw;refine wpAny_getItem_heap (tupleKind_room_in1 hu) (Pr I.hok eb) dd hp ?_;rw[hp2];exact h w' _ (I.tok _) rw'
theorem zjc(hu:A.units+1<cLine)(I:Inv X pins σ H s)(g:DGet H a y o)(ry:RelV y u)(h:∀ s',Inv X pins σ H s'->Q (.bool o.isSome) s') :
  wpAny (model X.prog X.w) A (compareOp .In u (.ref a)) Q E s:=by
 rcases g with ⟨kvs,k,e,ey,l⟩|⟨kvs,k,b,e,ey,eb,l⟩
 ·subst ey;obtain⟨z,hd,vs,rel,dd⟩:=Rx I.hok e;refine wpAny_in_of (Mw ry) hd dd.mapOf ?_;rw[<- (rel.val k).isSome_eq,<- l];exact h _ (I.tok _)
 ·subst ey;cases (show u=Value.ref b from ry);obtain⟨z,hd,xs,rel,dd⟩:=Kt I.hok e;refine wpAny_in_heap (tupleKind_room_in1 hu) (Pr I.hok eb) hd dd ?_;have q:=(rel.val k).isSome_eq;rw[Option.isSome_map] at q;rw[<- q,<- l];exact h _ (I.tok _)
theorem zes(hu:A.units+1<cLine)(I:Inv X pins σ H s)(g:DGet H a y o)(ry:RelV y u)(h:∀ s',Inv X pins σ H s'->Q (.bool (!o.isSome)) s') :
  wpAny (model X.prog X.w) A (compareOp .NotIn u (.ref a)) Q E s:=by
 rcases g with ⟨kvs,k,e,ey,l⟩|⟨kvs,k,b,e,ey,eb,l⟩
 ·subst ey;obtain⟨z,hd,vs,rel,dd⟩:=Rx I.hok e;refine wpAny_notIn_of (Mw ry) hd dd.mapOf ?_;rw[<- (rel.val k).isSome_eq,<- l];exact h _ (I.tok _)
 ·subst ey;cases (show u=Value.ref b from ry);obtain⟨z,hd,xs,rel,dd⟩:=Kt I.hok e;refine wpAny_notIn_heap (tupleKind_room_in1 hu) (Pr I.hok eb) hd dd ?_;have q:=(rel.val k).isSome_eq;rw[Option.isSome_map] at q;rw[<- q,<- l];exact h _ (I.tok _)
theorem O0(I:Inv X pins σ H s)(mu:Mut (H a))(hs:Heap.SameBut a s.heap h')(he:∃ q,h'.get? a=some q)(new:Y0 X.prog X.w (upd H a ob) h' a ob) :
  Inv X pins σ (upd H a ob) { s with heap:=h',toks:=t' } :=
 I.write (x:=a) (e:=a) mu (.inl rfl) (fun b q hb z=>(hs.2 b hb).trans z) he new
theorem Fh(z:kvs.length<=sizeLine)(hd:(a == sysModules)=false)(rel:KV kvs vs)(dd:h'.DictOf (Yo P w) a vs) :
  Y0 P w H' h' a (.dK kvs):=⟨z,hd,vs,rel,dd⟩
theorem za2(hu:A.units+1<cLine)(I:Inv X pins σ H s)(g:DPut H a y v H')(ry:RelV y u)(rv:RelV v r)(h:∀ s',Inv X pins σ H' s'->Q () s') :
  wpAny (model X.prog X.w) A (setItem (.ref a) u r) Q E s:=by
 rcases g with ⟨kvs,k,e,ey,l,eH⟩|⟨kvs,k,b,e,ey,eb,l,eH⟩
 ·subst ey eH;obtain⟨z,hd,vs,rel,dd⟩:=zct I.hok e;have hz:vs.length<=sizeLine:=by rw[<- rel.length];exact z
  have hl:(putK kvs k v).length<=sizeLine:=by have:=Y3 kvs k v;omega
  refine wpAny_setItem_pairs (hsz:=hz) (Mw ry) dd fun h' dd' hs=>h _ ?_;have he:∃ q,h'.get? a=some q:=let ⟨q,_,_,hq,_⟩:=dd';⟨q,hq⟩;exact O0 I (by rw[e];exact True.intro) hs he (Fh hl hd (rel.put k rv) dd')
 ·subst ey eH;cases (show u=Value.ref b from ry);obtain⟨z,hd,xs,rel,dd⟩:=zf0 I.hok e;have hz:xs.length<=sizeLine:=by rw[<- Paired.length rel];exact z
  have hl:(putK kvs k v).length<=sizeLine:=by have:=Y3 kvs k v;omega
  refine wpAny_setItem_heap (hsz:=hz) (tupleKind_room_in1 hu) (Pr I.hok eb) dd fun h' dd' hs=>h _ ?_;obtain⟨q,es,ep,hq,h2,h3,h4,_,h5⟩:=dd';refine O0 I (by rw[e];exact True.intro) hs ⟨q,hq⟩ ⟨hl,hd,_,(rel.put k eb rv).keeps fun c ys ec=>?_,q,es,ep,hq,h2,h3,h4,h5⟩;rw[Zh (Yp ec e (fun z=>nomatch z))];exact ec
end
section
variable{X:Cx}{pins:List (Addr×Obj)}{σ:St}{H:Hp}{s:Shared}{a:Addr}{kvs:List (Key×V)}{k:Key}{u:Value}{A:Around}{E:Value->Shared->Prop}
theorem zic(I:Inv X pins σ H s)(e:H a=some (.dK kvs))(ry:RelV (kV k) u)(l:valV kvs k=some v)(hm:more=[]\/∃ x,more=[x])
  (h:∀ w' s',Inv X pins σ (upd H a (.dK (Xx kvs k))) s'->RelV v w'->Q w' s'):wpAny (model X.prog X.w) A (call (.builtin "dict.pop") (.ref a :: u :: more)) Q E s:=by
 obtain⟨z,hd,vs,rel,dd⟩:=zct I.hok e;obtain⟨w',hw,rw'⟩:=RelO.some_of (v:=v) (o:=valueAt vs k) (by rw[<- l];exact rel.val k);have hp:(keyPart u).isSome=true:=by
  cases k with
  | inl i=>obtain⟨t,q⟩:=(show ∃ t,u=Value.int i t from ry);subst q;rfl
  | inr x=>obtain⟨t,q⟩:=(show ∃ t,u=Value.str x t from ry);subst q;rfl
 have ha:argsOk "dict.pop" ⟨.ref a :: u :: more,[]⟩:=by
  rcases hm with q|⟨x,q⟩
  ·subst q;exact PySem.F.args_dict_pop_2 _ _
  ·subst q;exact PySem.F.args_dict_pop_3 _ _ _
 refine call_meetsIn PySem.F.slot_dict_pop dd.typeIs PySem.F.entry_dict_pop ha (meets_dict_pop_there (Yo X.prog X.w) a (Mw ry) more hm hp)
  ⟨vs,w',dd,by rw[<- rel.length];exact z,hw,fun h' dd' hs=>h w' _ ?_ rw'⟩
 have he:∃ q,h'.get? a=some q:=let ⟨q,_,_,hq,_⟩:=dd';⟨q,hq⟩;exact O0 I (by rw[e];exact True.intro) hs he (Fh (zs2 (Ez kvs k) z) hd (rel.drop k) dd')
theorem zid(I:Inv X pins σ H s)(e:Rd H a (.dK kvs))(h:∀ t s',Inv X pins σ H s'->Q (.int kvs.length t) s'):wpAny (model X.prog X.w) A (call (.builtin "len") [.ref a]) Q E s:=by
 obtain⟨z,hd,vs,rel,dd⟩:=Rx I.hok e;refine call_len_dict hd dd (by rw[<- rel.length];rw[sizeLine_eq] at z;omega) ?_;rw[<- rel.length];exact h _ _ (I.tok _)
end
def zgp(i:Expr):Prop:=∀ ov iv,subscripted i false ov iv=operate [ov,iv] (getItem ov iv)
theorem zet{prog:Program}{w:World}{A:Around}{E:Value->Shared->Prop}{s:Shared}{env:Env}{value slice:Expr}{pos:Pos}{T id:String}{Q:Value->Shared->Prop}
  (hl:typeLookup (.type T) "__getitem__"=pure (some (.builtin id))) (hs:zgp slice)
  (h:wpAny (model prog w) A (eval value env) (fun o s₁=>wpAny (model prog w) A (eval slice env) (fun i s₂=>s₂.TypeIs o T/\wpAny (model prog w) A (getItem o i) Q E s₂) E s₁) E s) :
  wpAny (model prog w) A (eval (.Subscript value slice pos) env) Q E s:=by
 refine Subscript_ (wpAny_mono h (fun o s₁ h₁=>wpAny_mono h₁ (fun i s₂ h₂=>?_) fun _ _ x=>x) fun _ _ x=>x);obtain⟨hT,h₂⟩:=h₂;unfold subscriptTail;refine wpAny_bind ?_;rw[getitemInPython_of_ne hT.not_modules];refine wpAny_bind (wpAny_specialOf hT hl ?_);have fin:wpAny (model prog w) A (subscripted slice false o i) (fun r s₃=>wpAny (model prog w) A (letTemporaryGo value o r >>= fun _=>pure r) Q E s₃) E s₂:=by
  rw[hs o i];exact wpAny_operating (wpAny_mono h₂ (fun r s₃ h₃=>wpAny_bind (wpAny_letTemporaryGo (wpAny_pure h₃))) fun _ _ x=>x)
 first
  | exact wpAny_pure (wpAny_bind fin)
  | exact wpAny_bind (wpAny_pure (wpAny_bind fin))
  | exact wpAny_bind fin
theorem E2(I:Inv X pins σ H s)(g:DGet H a y o):s.TypeIs (.ref a) "dict":=by
 rcases g with ⟨kvs,k,e,_,_⟩|⟨kvs,k,b,e,_,_,_⟩
 ·obtain⟨_,_,vs,_,dd⟩:=Rx I.hok e;exact dd.typeIs
 ·obtain⟨_,_,xs,_,dd⟩:=Kt I.hok e;exact dd.typeIs
inductive zgq(Q:VK)(x:V)(y:V)(H2:Hp):Prop where
 | mk(a)(v)(_:x=.ref a)(_:DGet H2 a y (some v))(_:Q v H2)
def zf1(td ty:TE):TE:=fun σ H Q=>td σ H fun x H1=>ty σ H1 fun y H2=>zgq Q x y H2
inductive zie(Q:VK)(y:V)(x:V)(H2:Hp):Prop where
 | mk(a)(o)(_:x=.ref a)(_:DGet H2 a y o)(_:Q (.bl o.isSome) H2)
def zjd(ty td:TE):TE:=fun σ H Q=>ty σ H fun y H1=>td σ H1 fun x H2=>zie Q y x H2
inductive zcu(Q:VK)(y:V)(x:V)(H2:Hp):Prop where
 | mk(a)(o)(_:x=.ref a)(_:DGet H2 a y o)(_:Q (.bl (!o.isSome)) H2)
def zeu(ty td:TE):TE:=fun σ H Q=>ty σ H fun y H1=>td σ H1 fun x H2=>zcu Q y x H2
inductive zgr(D:Ox)(σ:L2.St)(v:V)(x:V)(y:V)(H3:Hp):Prop where
 | mk(a)(H4)(_:x=.ref a)(_:DPut H3 a y v H4)(_:D.nx σ H4)
def zif(td ty tv:TE):TS:=fun D σ H=>tv σ H fun v H1=>td σ H1 fun x H2=>ty σ H2 fun y H3=>zgr D σ v x y H3
section
variable{X:Cx}{o i e value:Expr}{pos pos' tpos:Pos}{td ty tv:TE}
theorem zew(hu:X.A.units+1<cLine)(ho:PE X o td)(hi:PE X i ty)(hs:zgp i):PE X (.Subscript o i pos) (zf1 td ty):=by
 intro pins s σ H Q I h;refine zet PySem.F.slot_dict_getitem.lookup hs (thn (ho pins s σ H _ I h) fun u s1 ⟨x,H1,I1,rx,q1⟩=>thn (hi pins s1 σ H1 _ I1 q1) fun iv s2 ⟨y,H2,I2,ry,a,v,ex,g,q2⟩=>?_);subst ex;obtain rfl:u=Value.ref a:=rx;exact⟨E2 I2 g,za1 hu I2 g ry fun w' s3 I3 rw'=>⟨v,H2,I3,rw',q2⟩⟩
theorem Pt(hu:X.A.units+1<cLine)(hi:PE X i ty)(ho:PE X o td):PC X .In i o (zjd ty td):=by
 intro pins s σ H Q I h;refine thn (hi pins s σ H _ I h) fun iv s1 ⟨y,H1,I1,ry,q1⟩=>thn (ho pins s1 σ H1 _ I1 q1) fun u s2 ⟨x,H2,I2,rx,a,ov,ex,g,q2⟩=>?_;subst ex;obtain rfl:u=Value.ref a:=rx;exact zjc hu I2 g ry fun s3 I3=>⟨.bl ov.isSome,H2,I3,rfl,q2⟩
theorem Qu(hu:X.A.units+1<cLine)(hi:PE X i ty)(ho:PE X o td):PC X .NotIn i o (zeu ty td):=by
 intro pins s σ H Q I h;refine thn (hi pins s σ H _ I h) fun iv s1 ⟨y,H1,I1,ry,q1⟩=>thn (ho pins s1 σ H1 _ I1 q1) fun u s2 ⟨x,H2,I2,rx,a,ov,ex,g,q2⟩=>?_;subst ex;obtain rfl:u=Value.ref a:=rx;exact zes hu I2 g ry fun s3 I3=>⟨.bl (!ov.isSome),H2,I3,rfl,q2⟩
theorem Yq(hu:X.A.units+1<cLine)(ho:PE X o td)(hi:PE X i ty)(hv:PE X value tv)(hs:swapsWith value (some (.Subscript o i pos')) pos.line X.env=pure false) :
  PS X (.Assign [.Subscript o i pos'] value pos) (zif td ty tv):=by
 intro pins s σ H D I h;refine wpAny_Assign_Subscript (thn (hv pins s σ H _ I h) fun r s1 ⟨v,H1,I1,rv,q1⟩=>thn (ho pins s1 σ H1 _ I1 q1) fun u s2 ⟨x,H2,I2,rx,q2⟩=>thn (hi pins s2 σ H2 _ I2 q2) fun iv s3 ⟨y,H3,I3,ry,a,H4,ex,g,q3⟩=>?_) hs;subst ex;obtain rfl:u=Value.ref a:=rx;exact za2 hu I3 g ry rv fun s4 I4=>⟨σ,H4,I4,q3⟩
end
theorem E3(h:Heap)(hb:sysModules<h.objs.size):Y0 P w H (h.push { cls:=.type "dict",data:=.dict #[] }) h.objs.size (.dK []) :=
 ⟨zs9 _,zs5.mpr (Ne.symm (ztb hb)),[],.nil,Heap.DictOf.new h⟩
theorem zcv(h:Heap)(hb:sysModules<h.objs.size):Y0 P w H (h.push { cls:=.type "dict",data:=.dict #[] }) h.objs.size (.dT []) :=
 ⟨zs9 _,zs5.mpr (Ne.symm (ztb hb)),[],.nil,_,#[],0,Heap.get?_push_size _ rfl,⟨rfl,rfl,rfl⟩,rfl,rfl,List.nodup_nil⟩
def zgs:TE:=fun _ H Q=>∀ p,H p=none->Q (.ref p) (upd H p (.dK []))
def zgt:TE:=fun _ H Q=>∀ p,H p=none->Q (.ref p) (upd H p (.dT []))
section
variable{X:Cx}{pos:Pos}
theorem O1:PE X (.Dict [] [] pos) zgs:=fun pins s σ H Q I h =>
 wpAny_Dict_empty ⟨.ref s.heap.objs.size,_,I.laid (a:=s.heap.objs.size) (o:=.dK []) (t':=s.toks) (fun _ _ q=>Heap.get?_push_of_some _ q) (zst _) (E3 s.heap I.big),rfl,h _ (I.hok.fresh (zst _))⟩
theorem Ku:PE X (.Dict [] [] pos) zgt:=fun pins s σ H Q I h =>
 wpAny_Dict_empty ⟨.ref s.heap.objs.size,_,I.laid (a:=s.heap.objs.size) (o:=.dT []) (t':=s.toks) (fun _ _ q=>Heap.get?_push_of_some _ q) (zst _) (zcv s.heap I.big),rfl,h _ (I.hok.fresh (zst _))⟩
end
def Be:List (TE×TE)->St->Hp->(List (V×V)->Hp->Prop)->Prop
 | [],_,H,Q=>Q [] H
 | (tk,tv) :: r,σ,H,Q=>tk σ H fun x H1=>tv σ H1 fun y H2=>Be r σ H2 fun ps H3=>Q ((x,y) :: ps) H3
abbrev VV:List (V×V)->List (Value×Value)->Prop:=Paired fun p q=>RelV p.1 q.1/\RelV p.2 q.2
def PPs(X:Cx)(pos:Pos)(keys:List (Option Expr))(values:List Expr)(trs:List (TE×TE)):Prop :=
 ∀ (pins:List (Addr×Obj)) (s:Shared) (σ:St) (H:Hp) (Q:List (V×V)->Hp->Prop),Inv X pins σ H s->Be trs σ H Q ->
   wpAny (model X.prog X.w) X.A (evalPairs (pairTrees keys values X.env pos)) (fun vs s'=>∃ ps H',Inv X pins σ H' s'/\VV ps vs/\Q ps H') X.xe s
theorem Aq:PPs X pos [] [] []:=fun pins s σ H Q I h=>pairTrees_nil_walk ⟨[],H,I,.nil,h⟩
theorem Ur(hk:PE X k tk)(hv:PE X v tv)(hr:PPs X pos ks vs trs) :
  PPs X pos (some k :: ks) (v :: vs) ((tk,tv) :: trs):=fun pins s σ H Q I h =>
 pairTrees_cons_walk (thn (hk pins s σ H _ I h) fun u s1 ⟨x,H1,I1,rx,q1⟩=>thn (hv pins s1 σ H1 _ I1 q1) fun w2 s2 ⟨y,H2,I2,ry,q2⟩ =>
  thn (hr pins s2 σ H2 _ I2 q2) fun ws s3 ⟨ps,H3,I3,rel,q3⟩=>⟨(x,y) :: ps,H3,I3,.cons ⟨rx,ry⟩ rel,q3⟩)
def Sr(kvs more:List (Key×V)):List (Key×V):=more.foldl (fun acc kv=>putK acc kv.1 kv.2) kvs
theorem KV.merge:∀ {more:List (Key×V)} {rs:List (Key×Value)} {kvs:List (Key×V)} {vs:List (Key×Value)},KV more rs->KV kvs vs->KV (Sr kvs more) (merged vs rs):=by
 intro more rs kvs vs r;unfold KV at r
 induction r generalizing kvs vs with
 | nil=>intro q;exact q
 | @cons p q ps qs h t ih =>
   intro r0;have e:KV (putK kvs p.1 p.2) (stored vs q.1 q.2):=by
    have:=r0.put p.1 h.2;rw[<- h.1];exact this
   exact ih e
theorem Ph:∀ (more kvs:List (Key×V)),(Sr kvs more).length<=kvs.length+more.length
 | [],kvs=>by show kvs.length<=kvs.length+0;omega
 | p :: r,kvs=>by
   have h1:=Ph r (putK kvs p.1 p.2);have h2:=Y3 kvs p.1 p.2;show (Sr (putK kvs p.1 p.2) r).length<=_;rw[zs8];omega
theorem Kv:∀ {kvs:List (Key×V)} {ws:List (Value×Value)},VV (kvs.map fun kv=>(kV kv.1,kv.2)) ws->∃ rs,Carries (Yo P w) ws rs/\KV kvs rs
 | [],_,r=>by rw[List.map_nil] at r;cases r;exact⟨[],True.intro,.nil⟩
 | p :: kvs,_,r=>by
   rw[zsx] at r;cases r with
   | @cons a b as bs h t =>
     obtain⟨rs,c,q⟩:=Kv (P:=P) (w:=w) t;obtain⟨b1,b2⟩:=b;exact⟨(p.1,b2) :: rs,⟨Mw h.1,rfl,c⟩,.cons ⟨rfl,h.2⟩ q⟩
def zig(trs:List (TE×TE)):TE:=fun σ H Q=>∀ p,H p=none->Be trs σ (upd H p (.dK [])) fun ps H2=>H2 p=some (.dK [])/\∃ kvs:List (Key×V),ps=kvs.map (fun kv=>(kV kv.1,kv.2))/\kvs.length<=15/\Q (.ref p) (upd H2 p (.dK (Sr [] kvs)))
theorem Ar(h:PPs X pos keys values trs)(hall:keys.all (·.isSome)=true)(hl:keys.length=values.length)(h0:keys≠[])
  (h15:keys.length<=15):PE X (.Dict keys values pos) (zig trs):=by
 intro pins s σ H Q I q;have hn:=I.hok.fresh (zst s.heap.objs.size);have I1:=I.laid (a:=s.heap.objs.size) (o:=.dK []) (h':=s.heap.push { cls:=.type "dict",data:=.dict #[] }) (t':=s.toks) (fun _ _ q=>Heap.get?_push_of_some _ q) (zst _) (E3 s.heap I.big);refine wpAny_Dict_walk (knd:=Yo X.prog X.w) hall hl h0 h15 (thn (h pins _ σ _ _ I1 (q _ hn)) fun ws s2 ⟨ps,H2,I2,rel,e,kvs,ep,lk,q2⟩=>?_);subst ep;obtain⟨rs,c,rk⟩:=Kv (P:=X.prog) (w:=X.w) rel;obtain⟨z,hd,vs0,r0,dd⟩:=zct I2.hok e;cases r0;refine⟨rs,c,dd,fun h' dd' hs=>⟨.ref s.heap.objs.size,_,?_,rfl,q2⟩⟩;have hz:(Sr [] kvs).length<=sizeLine:=by
  have h1:=Ph kvs [];rw[List.length_nil] at h1;rw[sizeLine_eq];omega
 have he:∃ q,h'.get? s.heap.objs.size=some q:=let ⟨q,_,_,hq,_⟩:=dd';⟨q,hq⟩;exact O0 I2 (by rw[e];exact True.intro) hs he (Fh hz hd (rk.merge .nil) dd')
structure M1(X:Cx)(o:Expr)(m:Str)(apos:Pos)(e:Expr)(cpos:Pos):Prop where
 base:attributeBase o m X.env (eval o X.env)=eval o X.env
 few:((backTo cpos (starEach [e] X.env)).all (fun x=>!x.1)&&(backToKw cpos (keywordEach [] X.env)).all (fun x=>x.1.isSome)
  && decide (([e]:List Expr).length+([]:List Keyword).length+(if ([]:List Keyword).isEmpty then 0 else 1)<30))=true
 line:(apos.endLine == cpos.line)=true
 trees:backTo cpos (starEach [e] X.env)=[(false,eval e X.env)]
structure M2(X:Cx)(o:Expr)(m:Str)(apos:Pos)(e f:Expr)(cpos:Pos):Prop where
 base:attributeBase o m X.env (eval o X.env)=eval o X.env
 few:((backTo cpos (starEach [e,f] X.env)).all (fun x=>!x.1)&&(backToKw cpos (keywordEach [] X.env)).all (fun x=>x.1.isSome)
  && decide (([e,f]:List Expr).length+([]:List Keyword).length+(if ([]:List Keyword).isEmpty then 0 else 1)<30))=true
 line:(apos.endLine == cpos.line)=true
 trees:backTo cpos (starEach [e,f] X.env)=[(false,eval e X.env),(false,eval f X.env)]
def IsD(H:Hp)(a:Addr):Prop:=(∃ kvs,Rd H a (.dK kvs))\/∃ kvs,Rd H a (.dT kvs)
theorem Bf(I:Inv X pins σ H s)(d:IsD H a) :
  s.TypeIs (.ref a) "dict"/\(∀ b,Value.ref a=.ref b->∃ ob,s.heap.get? b=some ob/\ob.dict=none)/\(a == sysModules)=false:=by
 rcases d with ⟨kvs,e⟩|⟨kvs,e⟩
 ·obtain⟨_,hd,vs,_,dd⟩:=Rx I.hok e;refine⟨dd.typeIs,fun b q=>?_,hd⟩;cases q;obtain⟨ob,_,_,h1,h2,_⟩:=dd;exact⟨ob,h1,h2.2.1⟩
 ·obtain⟨_,hd,xs,_,dd⟩:=Kt I.hok e;refine⟨dd.typeIs,fun b q=>?_,hd⟩;cases q;obtain⟨ob,_,_,h1,h2,_⟩:=dd;exact⟨ob,h1,h2.2.1⟩
section
variable{X:Cx}{pins:List (Addr×Obj)}{σ:St}{H:Hp}{s:Shared}{a:Addr}{y d:V}{u r:Value}{o:Option V}{A:Around}{E:Value->Shared->Prop}
theorem zgu(hu:A.units+1<cLine)(I:Inv X pins σ H s)(g:DGet H a y o)(ry:RelV y u)(rd:RelV d r)(h:∀ w' s',Inv X pins σ H s'->RelV (o.getD d) w'->Q w' s') :
  wpAny (model X.prog X.w) A (call (.builtin "dict.get") [.ref a,u,r]) Q E s:=by
 rcases g with ⟨kvs,k,e,ey,l⟩|⟨kvs,k,b,e,ey,eb,l⟩
 ·subst ey;obtain⟨z,hd,vs,rel,dd⟩:=Rx I.hok e;refine call_meetsIn PySem.F.slot_dict_get dd.typeIs PySem.F.entry_dict_get (PySem.F.args_dict_get_3 _ _ _) (meets_dict_get_default (Yo X.prog X.w) a (Mw ry) hd r) ⟨_,dd.mapOf,h _ _ (I.tok _) ?_⟩;rw[l];exact(rel.val k).getD rd
 ·subst ey;cases (show u=Value.ref b from ry);obtain⟨z,hd,xs,rel,dd⟩:=Kt I.hok e;refine call_meetsIn PySem.F.slot_dict_get dd.typeIs PySem.F.entry_dict_get (PySem.F.args_dict_get_3 _ _ _) (meetsH_dict_get_default (tupleKind (Yo X.prog X.w)) a b hd r) ⟨tupleKind_room_in1 hu,k,xs,Pr I.hok eb,dd,h _ _ (I.tok _) ?_⟩;rw[l];exact(rel.val k).getD rd
end
inductive zex(ty:TE)(tx:TE)(σ:L2.St)(Q:VK)(x:V)(H1:Hp):Prop where
 | mk(a)(_:x=.ref a)(_:IsD H1 a)(_:ty σ H1 fun y H2=>tx σ H2 fun z H3=>∃ o,DGet H3 a y o/\Q (o.getD z) H3)
def zgv(td ty tx:TE):TE:=fun σ H Q=>td σ H fun x H1=>zex ty tx σ Q x H1
inductive zey(ty:TE)(σ:L2.St)(Q:VK)(x:V)(H1:Hp):Prop where
 | mk(a)(_:x=.ref a)(_:IsD H1 a)(_:ty σ H1 fun y H2=>∃ kvs k v,H2 a=some (.dK kvs)/\y=kV k/\valV kvs k=some v/\Q v (upd H2 a (.dK (Xx kvs k))))
def zgw(td ty:TE):TE:=fun σ H Q=>td σ H fun x H1=>zey ty σ Q x H1
section
variable{X:Cx}{o e f:Expr}{apos cpos:Pos}{td ty tx:TE}
theorem zcw(hu:X.A.units+1<cLine)(ho:PE X o td)(he:PE X e ty)(hf:PE X f tx)(m:M2 X o "get" apos e f cpos):PE X (.Call (.Attribute o "get" apos) [e,f] [] cpos) (zgv td ty tx):=by
 intro pins s σ H Q I h;refine wpAny_Call_method m.base m.few m.line PySem.F.plainAttrs_dict PySem.F.slot_dict_get PySem.F.type_dict_get (thn (ho pins s σ H _ I h) fun u s1 ⟨x,H1,I1,rx,a,ex,d,q1⟩=>?_);subst ex;obtain rfl:u=Value.ref a:=rx;obtain⟨t1,t2,_⟩:=Bf I1 d;refine⟨t1,t2,?_⟩;rw[m.trees];refine Calls.callWith_builtin rfl (Calls.evalArgs_plain (Calls.spliced_cons (thn (he pins s1 σ H1 _ I1 q1) fun iv s2 ⟨y,H2,I2,ry,q2⟩ =>
  Calls.spliced_cons (thn (hf pins s2 σ H2 _ I2 q2) fun fv s3 ⟨z,H3,I3,rz,ov,g,q3⟩=>Calls.spliced_nil ?_))))
 exact zgu hu I3 g ry rz fun w' s4 I4 rw'=>⟨_,H3,I4,rw',q3⟩
theorem zcx(ho:PE X o td)(he:PE X e ty)(m:M1 X o "pop" apos e cpos):PE X (.Call (.Attribute o "pop" apos) [e] [] cpos) (zgw td ty):=by
 intro pins s σ H Q I h;refine wpAny_Call_method m.base m.few m.line PySem.F.plainAttrs_dict PySem.F.slot_dict_pop PySem.F.type_dict_pop (thn (ho pins s σ H _ I h) fun u s1 ⟨x,H1,I1,rx,a,ex,d,q1⟩=>?_);subst ex;obtain rfl:u=Value.ref a:=rx;obtain⟨t1,t2,_⟩:=Bf I1 d;refine⟨t1,t2,?_⟩;rw[m.trees];refine Calls.callWith_builtin rfl (Calls.evalArgs_plain (Calls.spliced_cons (thn (he pins s1 σ H1 _ I1 q1) fun iv s2 ⟨y,H2,I2,ry,kvs,k,v,ea,ey,l,q2⟩=>Calls.spliced_nil ?_)));subst ey;exact zic I2 ea ry l (.inl rfl) fun w' s3 I3 rw'=>⟨v,_,I3,rw',q2⟩
end
section
variable{X:Cx}{pins:List (Addr×Obj)}{σ:St}{H:Hp}{s:Shared}{a:Addr}{kvs:List (Key×V)}{A:Around}{E:Value->Shared->Prop}
theorem zcy(I:Inv X pins σ H s)(e:Rd H a (.dK kvs))(h:∀ p s',H p=none->Inv X pins σ (upd H p (.dK kvs)) s'->Q (.ref p) s'):wpAny (model X.prog X.w) A (call (.type "dict") [.ref a]) Q E s:=by
 obtain⟨z,hd,vs,rel,dd⟩:=Rx I.hok e;refine kt_call_dict hd dd (by rw[<- rel.length];exact z) fun h' dd' hs=>?_;refine h _ _ (I.hok.fresh (zst _)) (I.laid (a:=s.heap.objs.size) (o:=.dK kvs) (t':=s.toks) (fun b q hq=>?_) (zst _) (Fh z (zs5.mpr (Ne.symm (ztb I.big))) rel dd'));exact(hs.2 b (ztb (Heap.lt_size hq))).trans (Heap.get?_push_of_some _ hq)
end
end L2
namespace HT
open PySem PyProof.Rows
section
open PySem.SeqAt
open PySem.AutoSeq1 (wpAny_loadPart')
open PySem.MeetsSeq PySem.MeetsSeq2 PySem.MeetsSeq3
end
section
variable{prog:Program}{w:World}{A:Around}{E:Value->Shared->Prop}{s:Shared}
theorem cat_tup(ht:IsTup s.heap t vs.toArray)(hb:IsTup s.heap b ws.toArray)(hv:vs≠[])
  (h1:ws=[]->Q (.ref t) s) (h2:ws≠[]->Q (.ref s.heap.objs.size) { s with heap:=s.heap.push { cls:=.type "tuple",data:=.seq (vs++ws).toArray } })
  (hsz:vs.length+ws.length<=sizeLine):wpAny (model prog w) A (binaryOp .Add (.ref t) (.ref b)) Q E s:=by
 obtain⟨⟨cls,dd,data,sl⟩,ho,hc,n,hd⟩:=id ht;obtain⟨⟨cls2,dd2,data2,sl2⟩,ho2,hc2,n2,hd2⟩:=id hb;simp only at hc hd hc2 hd2;subst hc hd hc2 hd2;have e:vs.toArray++ws.toArray=(vs++ws).toArray:=by simp
 by_cases hw:ws=[]
 ·exact concat_meets ⟨_,ho,rfl⟩ ⟨_,ho2,rfl⟩ noFill_tuple_add seq_tuple_add PySem.F.slot_tuple_add PySem.F.entry_tuple_add (PySem.F.args_tuple_add_2 _ _)
   (tuple_addW1 t b vs.toArray ws.toArray n n2 dd dd2 sl sl2 (by simpa using hv) (by simp[hw])) ⟨ho,ho2,h1 hw⟩
 ·refine concat_meets ⟨_,ho,rfl⟩ ⟨_,ho2,rfl⟩ noFill_tuple_add seq_tuple_add PySem.F.slot_tuple_add PySem.F.entry_tuple_add (PySem.F.args_tuple_add_2 _ _)
   (tuple_addW2 t b vs.toArray ws.toArray n n2 dd dd2 sl sl2 (by simpa using hv) (by simpa using hw) (by rw[zsz,zsz];exact hsz)) ⟨ho,ho2,?_⟩
  rw[e];exact h2 hw
def sIx(n d:Nat):Option Int->Nat
 | none=>d
 | some v=>if v<0 then (v+(n:Int)).toNat else min v.toNat n
theorem sIx_none(n d:Nat):sIx n d none=d:=rfl
theorem sIx_nat(n d k:Nat):sIx n d (some (k:Int))=min k n:=by
 show (if (k:Int)<0 then ((k:Int)+(n:Int)).toNat else min (k:Int).toNat n)=min k n;rw[if_neg ⋯,zs0]
end
end HT
namespace L2
open PySem PySem.Spec PyProof.Rows
abbrev TO:=St->Hp->(Option Int->Hp->Prop)->Prop
def PO(X:Cx)(e:Option Expr)(t:TO):Prop :=
 ∀ (pins:List (Addr×Obj)) (s:Shared) (σ:St) (H:Hp) (Q:Option Int->Hp->Prop),Inv X pins σ H s->t σ H Q ->
   wpAny (model X.prog X.w) X.A (evalPart e X.env) (fun u s'=>∃ o H',Inv X pins σ H' s'/\IsPart u o/\Q o H') X.xe s
def zez:TO:=fun _ H Q=>Q none H
inductive zgx(Q:Option Int->Hp->Prop)(x:V)(H1:Hp):Prop where
 | mk(i)(_:x=.int i)(_:Q (some i) H1)
def zih(t:TE):TO:=fun σ H Q=>t σ H fun x H1=>zgx Q x H1
section
variable{X:Cx}{e:Expr}{te:TE}{lo hi:Option Expr}{tl th:TO}{pos p2:Pos}
theorem As:PO X none zez:=by
 intro pins s σ H Q I h;rw[evalPart_none];exact wpAny_pure ⟨none,H,I,.none,h⟩
theorem Au(h:PE X e te):PO X (some e) (zih te):=by
 intro pins s σ H Q I hw;rw[evalPart_some];refine thn (h pins s σ H _ I hw) fun u s1 ⟨x,H1,I1,r1,q1⟩=>?_;obtain⟨i,rfl,q⟩:=q1;obtain⟨t,rfl⟩:=r1;exact⟨some i,H1,I1,.int i t,q⟩
def SlR(X:Cx)(r:V->Option Int->Option Int->Hp->VK->Prop):Prop :=
 ∀ (pins:List (Addr×Obj)) (s:Shared) (σ:St) (H:Hp) (x:V) (v vl vu:Value) (lo hi:Option Int) (sl:Addr) (Q:VK),Inv X pins σ H s->RelV x v->s.heap.IsSliceOf sl vl vu .none->IsPart vl lo->IsPart vu hi->r x lo hi H Q ->
   ∃ T id,typeLookup (.type T) "__getitem__"=pure (some (.builtin id))/\s.TypeIs v T/\wpAny (model X.prog X.w) X.A (getItem v (.ref sl)) (EP X pins σ Q) X.xe s
def tSl(r:V->Option Int->Option Int->Hp->VK->Prop)(te:TE)(tl th:TO):TE:=fun σ H Q=>te σ H fun x H1=>tl σ H1 fun l H2=>th σ H2 fun u H3=>r x l u H3 Q
theorem E4(hr:SlR X r)(he:PE X e te)(hl:PO X lo tl)(hu:PO X hi th):PE X (.Subscript e (.Slice lo hi none p2) pos) (tSl r te tl th):=by
 intro pins s σ H Q I h;refine Subscript_ (thn (he pins s σ H _ I h) fun v s1 ⟨x,H1,I1,r1,q1⟩=>?_);refine wpAny_Slice (thn (hl pins s1 σ H1 _ I1 q1) fun vl s2 ⟨l,H2,I2,pl,q2⟩=>thn (hu pins s2 σ H2 _ I2 q2) fun vu s3 ⟨u,H3,I3,pu,q3⟩=>?_);rw[evalPart_none];refine wpAny_pure ?_;have I4:Inv X pins σ H3 { s3 with heap:=s3.heap.push { cls:=.type "slice",data:=.fields #[vl,vu,.none] } }:=I3.kept (t':=s3.toks) fun b ob q=>Heap.get?_push_of_some _ q;obtain⟨T,id,hT,ht,hg⟩:=hr pins { s3 with heap:=s3.heap.push { cls:=.type "slice",data:=.fields #[vl,vu,.none] } } σ H3 x v vl vu l u s3.heap.objs.size Q I4 r1 (Heap.IsSliceOf.new ..) pl pu q3;show wpAny (model X.prog X.w) X.A (subscriptTail e (.Slice lo hi none p2) v (.ref s3.heap.objs.size)) (EP X pins σ Q) X.xe { s3 with heap:=s3.heap.push { cls:=.type "slice",data:=.fields #[vl,vu,.none] } };exact tail_any (ops:=[.ref s3.heap.objs.size,v]) ht hT hg (by with_unfolding_all rfl)
def Ij(xs:List V)(lo hi:Option Int):List V:=(xs.drop (HT.sIx xs.length 0 lo)).take (HT.sIx xs.length xs.length hi-HT.sIx xs.length 0 lo)
theorem E5(xs:List V)(lo hi:Option Int):(Ij xs lo hi).length<=xs.length:=by
 unfold Ij;rw[zub,List.length_drop];omega
inductive zf2(K:Frag)(x:V)(y:V)(H:Hp)(Q:VK):Prop where
 | mk(a)(b)(xs)(ys)(_:x=.ref a)(_:y=.ref b)(_:SqT K H a xs)(_:SqT K H b ys)(_:xs≠[])(_:xs.length+ys.length<=sizeLine)(_:(ys=[]->Q (.ref a) H))(_:(ys≠[]->∀ p,H p=none->Q (.ref p) (upd H p (.tup (xs++ys)))))
theorem Vals.nil_iff(r:Vals xs us):us=[]↔xs=[]:=by
 cases r with
 | nil=>simp
 | cons _ _=>simp
theorem ze0:OpR X (binaryOp .Add) (zf2 X.K):=by
 intro pins s σ H x y v u Q I rx ry h;obtain⟨a,b,xs,ys,rfl,rfl,ha,hb,hx,hz,q1,q2⟩:=h;cases rx;cases ry;obtain⟨its,r1,p1,_⟩:=I.tuple ha;obtain⟨its2,r2,p2,_⟩:=I.tuple hb;refine HT.cat_tup p1 p2 (fun z=>hx (r1.nil_iff.mp z)) (fun z=>⟨.ref a,H,I,rfl,q1 (r2.nil_iff.mp z)⟩) (fun z=>?_) (by rw[<- r1.length,<- r2.length];exact hz);refine⟨.ref s.heap.objs.size,_,I.laid (t':=s.toks) (o:=.tup (xs++ys)) (fun b ob q=>Heap.get?_push_of_some _ q) (zst _) ?_,rfl,q2 (fun w=>z (r2.nil_iff.mpr w)) _ (I.hok.fresh (zst _))⟩;exact⟨by rw[zsn];exact hz,_,r1.append r2,IsTup.new _ _⟩
end
def ixN(n:Nat)(i:Int):Option Nat:=if 0<=i then (if i<n then some i.toNat else none) else if -(n:Int)<=i then some (i+n).toNat else none
def atI{α:Type}(xs:List α)(i:Int):Option α:=(ixN xs.length i).bind fun j=>xs[j]?
theorem Av(h:ixN n i=some j):seqIndex? i n=some j/\j<n/\-(n:Int)<=i/\i<n:=by
 unfold ixN at h;by_cases h0:0<=i
 ·rw[if_pos h0] at h;by_cases h1:i<n
  ·rw[if_pos h1] at h;have e:i.toNat=j:=Option.some.inj h;exact⟨by rw[seqIndex_of h0 h1,e],by omega,by omega,h1⟩
  ·rw[if_neg h1] at h;cases h
 ·rw[if_neg h0] at h;by_cases h1:-(n:Int)<=i
  ·rw[if_pos h1] at h;have e:(i+n).toNat=j:=Option.some.inj h;exact⟨by rw[seqIndex_neg ⋯ h1,e],by omega,h1,by omega⟩
  ·rw[if_neg h1] at h;cases h
theorem Aw(h:atI xs i=some v):∃ j,seqIndex? i xs.length=some j/\xs[j]?=some v/\j<xs.length/\-(xs.length:Int)<=i/\i<xs.length:=by
 unfold atI at h;cases e:ixN xs.length i with
 | none=>rw[e] at h;cases h
 | some j =>
   rw[e] at h;obtain⟨h1,h2,h3,h4⟩:=Av e;exact⟨j,h1,h,h2,h3,h4⟩
theorem Z9{α:Type}{xs:List α}{j:Nat}{v:α}(h:xs[j]?=some v):atI xs (j:Int)=some v:=by
 have hj:j<xs.length:=(zsm.mp h).1;have e:ixN xs.length (j:Int)=some j:=by
  unfold ixN;rw[if_pos ⋯,if_pos ⋯];simp
 unfold atI;rw[e];exact h
theorem atI_last(xs:List α)(v:α):atI (xs++[v]) (-1)=some v:=by
 have hl:(xs++[v]).length=xs.length+1:=by simp
 have e:ixN (xs++[v]).length (-1)=some xs.length:=by
  unfold ixN;rw[hl,if_neg ⋯,if_pos ⋯]
  congr 1
  omega
 unfold atI;rw[e];show (xs++[v])[xs.length]?=some v;simp
def Ax(b:Expr):Prop:=∀ o i,subscripted b false o i=operate [o,i] (getItem o i)
def IxR(X:Cx)(r:R2):Prop :=
 ∀ (value slice:Expr) (pins:List (Addr×Obj)) (s:Shared) (σ:St) (H:Hp) (x y:V) (v u:Value) (Q:VK),Inv X pins σ H s->RelV x v->RelV y u->r x y H Q ->
   subscripted slice false v u=operate [v,u] (getItem v u)->wpAny (model X.prog X.w) X.A (subscriptTail value slice v u) (EP X pins σ Q) X.xe s
def MtR(X:Cx)(id:String)(r:V->List V->Hp->VK->Prop):Prop :=
 ∀ (pins:List (Addr×Obj)) (s:Shared) (σ:St) (H:Hp) (x:V) (xs:List V) (v:Value) (us:List Value) (Q:VK),Inv X pins σ H s->RelV x v->Vals xs us->r x xs H Q ->
   wpAny (model X.prog X.w) X.A (call (.builtin id) (v :: us)) (EP X pins σ Q) X.xe s
section
variable{X:Cx}{a b:Expr}{ta tb:TE}{pos:Pos}
theorem zii(hr:IxR X r)(ha:PE X a ta)(hb:PE X b tb)(hs:Ax b):PE X (.Subscript a b pos) (tOp r ta tb):=by
 intro pins s σ H Q I h;exact Subscript_ (binT ha hb I h fun v u s2 x y H2 I2 rx ry q=>hr a b pins s2 σ H2 x y v u Q I2 rx ry q (hs _ _))
inductive Ik(K:Frag)(x:V)(y:V)(H:Hp)(Q:VK):Prop where
 | mk(p)(xs)(i)(v)(_:x=.ref p)(_:y=.int i)(_:SqL K H p xs)(_:atI xs i=some v)(_:Q v H)
inductive zgy(K:Frag)(x:V)(y:V)(H:Hp)(Q:VK):Prop where
 | mk(p)(xs)(i)(v)(_:x=.ref p)(_:y=.int i)(_:SqT K H p xs)(_:atI xs i=some v)(_:Q v H)
theorem ze1:IxR X (Ik X.K):=by
 intro value slice pins s σ H x y v u Q I rx ry h hs;obtain⟨p,xs,i,z,rfl,rfl,hq,he,q⟩:=h;cases rx;obtain⟨t,rfl⟩:=ry;obtain⟨its,r,pl,hz⟩:=I.list hq;obtain⟨j,h1,h2,h3,h4,h5⟩:=Aw he;obtain⟨w,ew,rw'⟩:=r.get h2;have hl:=r.length;have hn:=Pq;have fin:EP X pins σ Q w s:=⟨z,H,I,rw',q⟩;by_cases h0:0<=i
 ·have hj:i.toNat=j:=by
   rw[seqIndex_of h0 h5] at h1;exact Option.some.inj h1
  exact item_listR pl.isList h0 ⋯ (by rw[hj];simpa using ew) fin hs
 ·have hj:(i+(its.toArray.size:Int)).toNat=j:=by
   rw[seqIndex_neg ⋯ h4] at h1;rw[zsz,<- hl];exact Option.some.inj h1
  exact subscriptTail_builtinR (x:=w) pl.isList.typeIs slot_list_getitem.lookup
   (wpAny_getItem_list_neg (Q:=fun r s'=>r=w/\EP X pins σ Q r s') pl.isList ⋯ (by rw[zsz]<;>omega) ⋯ (by rw[hj];simpa using ew) ⟨rfl,fin⟩) hs
theorem zgz:IxR X (zgy X.K):=by
 intro value slice pins s σ H x y v u Q I rx ry h hs;obtain⟨p,xs,i,z,rfl,rfl,hq,he,q⟩:=h;cases rx;obtain⟨t,rfl⟩:=ry;obtain⟨its,r,pl,hz⟩:=I.tuple hq;obtain⟨j,h1,h2,h3,h4,h5⟩:=Aw he;obtain⟨w,ew,rw'⟩:=r.get h2;have hl:=r.length;have hn:=Pq;have fin:EP X pins σ Q w s:=⟨z,H,I,rw',q⟩;exact subscriptTail_builtinR (x:=w) pl.typeIs slot_tuple_getitem.lookup
  (getItem_tuple (j:=j) (Q:=fun r s'=>r=w/\EP X pins σ Q r s') pl ⋯ ⋯ (by rw[zsz,<- hl];exact h1) (by simpa using ew) ⟨rfl,fin⟩) hs
theorem Bg(its:List Value)(n j:Nat)(u:Value):Obj.mapSeq (·.setIfInBounds j u) { cls:=.type "list",data:=.seq its.toArray n }={ cls:=.type "list",data:=.seq (its.set j u).toArray n }:=by
 simp[Obj.mapSeq]
theorem Inv.lst(I:Inv X pins σ H s)(h:H p=some (.lst xs)) :
  ∃ (its:List Value) (n:Nat),Vals xs its/\s.heap.get? p=some { cls:=.type "list",data:=.seq its.toArray n }/\xs.length<=sizeLine:=by
 obtain⟨z,its,n,r,e⟩:=I.hok p _ h;exact⟨its,n,r,e,z⟩
theorem Inv.lstUpd{pins:List (Addr×Obj)}{σ:St}{H:Hp}{s:Shared}{p:Addr}{xs ys:List V}{its its':List Value}{n n':Nat}{f:Obj->Obj}(I:Inv X pins σ H s)(h:H p=some (.lst xs))
  (ho:s.heap.get? p=some { cls:=.type "list",data:=.seq its.toArray n }) (hf:f { cls:=.type "list",data:=.seq its.toArray n }={ cls:=.type "list",data:=.seq its'.toArray n' }) (r:Vals ys its') (hz:ys.length<=sizeLine) (t:Nat) :
  Inv X pins σ (upd H p (.lst ys)) { s with heap:=s.heap.update p f,toks:=t }:=by
 have e:(s.heap.update p f).get? p=some { cls:=.type "list",data:=.seq its'.toArray n' }:=by
  rw[Heap.get?_update_self f ho (by rw[hf]<;>rfl),hf]
 refine I.write (x:=p) (e:=p) (by rw[h];trivial) (.inl rfl) (fun b u hb q=>(Heap.get?_update_other _ _ (Ne.symm hb)).trans q) ⟨_,e⟩ ?_;exact⟨hz,its',n',r,e⟩
def zij:V->V->V->Hp->(Hp->Prop)->Prop:=fun o i v H Q=>∃ p xs k j,o=.ref p/\i=.int k/\H p=some (.lst xs)/\ixN xs.length k=some j/\Q (upd H p (.lst (xs.set j v)))
theorem zcz:zhy X zij:=by
 intro pins s σ H o i v ov iv u Q I ro ri rv h;obtain⟨p,xs,k,j,rfl,rfl,hp,hj,q⟩:=h;cases ro;obtain⟨t,rfl⟩:=ri;obtain⟨its,n,r,ho,hz⟩:=I.lst hp;obtain⟨h1,h2,h3,h4⟩:=Av hj;have hl:=r.length;have hn:=Pq;have I':Inv X pins σ (upd H p (.lst (xs.set j v))) { s with heap:=s.heap.update p (Obj.mapSeq (·.setIfInBounds j u)) } :=
  I.lstUpd hp ho (Bg its n j u) (r.set rv j) (by rw[zt4];exact hz) s.toks
 by_cases h0:0<=k
 ·have hk:k.toNat=j:=by
   rw[seqIndex_of h0 h4] at h1;exact Option.some.inj h1
  exact PySem.W.ki_setAt ho h0 ⋯ (by rw[zsz,<- hl];exact h4) (by rw[hk];exact⟨_,I',q⟩)
 ·have hk:(k+(its.toArray.size:Int)).toNat=j:=by
   rw[seqIndex_neg ⋯ h3] at h1;rw[zsz,<- hl];exact Option.some.inj h1
  exact PySem.W.ki_setBack ho ⋯ (by rw[zsz,<- hl];exact h3) ⋯ (by rw[hk];exact⟨_,I',q⟩)
theorem Fi(lo hi:Option Int)(n:Nat):(sliceBounds lo hi none n).1=((HT.sIx n 0 lo:Nat):Int)/\(sliceBounds lo hi none n).2.1=((HT.sIx n n hi:Nat):Int)/\(sliceBounds lo hi none n).2.2=1:=by
 refine⟨?_,?_,rfl⟩
 ·cases lo with
  | none=>simp[sliceBounds,HT.sIx]
  | some i =>
    simp only[sliceBounds,HT.sIx,Option.getD_none,show (1:Int)>0 by decide,if_true];by_cases h:i<0
    ·simp only[h,if_true]<;>omega
    ·simp only[h,if_false]<;>omega
 ·cases hi with
  | none=>simp[sliceBounds,HT.sIx]
  | some i =>
    simp only[sliceBounds,HT.sIx,Option.getD_none,show (1:Int)>0 by decide,if_true];by_cases h:i<0
    ·simp only[h,if_true]<;>omega
    ·simp only[h,if_false]<;>omega
theorem Il(its:List Value)(lo hi:Option Int):slicePick its.toArray lo hi none=((its.drop (HT.sIx its.length 0 lo)).take (HT.sIx its.length its.length hi-HT.sIx its.length 0 lo)).toArray:=by
 obtain⟨h1,h2,h3⟩:=Fi lo hi its.toArray.size;unfold slicePick;rw[h1,h2,h3];simp only[sliceRange_one,pick_run,zsz]<;>rfl
def zik(K:Frag):V->Option Int->Option Int->Hp->VK->Prop:=fun x lo hi H Q=>∃ a xs,x=.ref a/\SqL K H a xs/\∀ p,H p=none->Q (.ref p) (upd H p (.lst (Ij xs lo hi)))
theorem ze2:SlR X (zik X.K):=by
 intro pins s σ H x v vl vu lo hi sl Q I rx hs pl pu h;obtain⟨a,xs,rfl,hx,q⟩:=h;cases rx;obtain⟨its,r,ht,hz⟩:=I.list hx;have hlen:=r.length;refine⟨"list",_,slot_list_getitem.lookup,ht.isList.typeIs,?_⟩;refine wpAny_getItem_list_slice ht.isList hs pl pu .none (by simp) ?_ (by rw[zsz]<;>omega);rw[Il,<- hlen];refine⟨.ref s.heap.objs.size,_,I.laid (t':=s.toks) (o:=.lst (Ij xs lo hi)) (fun b ob q=>Heap.get?_push_of_some _ q) (zst _) ?_,rfl,q _ (I.hok.fresh (zst _))⟩;exact⟨zs2 (E5 xs lo hi) hz,_,0,(r.drop (HT.sIx xs.length 0 lo)).take (HT.sIx xs.length xs.length hi-HT.sIx xs.length 0 lo),Heap.get?_push_size _ rfl⟩
def Tf:V->Bool
 | .non=>true
 | .bl _=>true
 | .int _=>true
 | .str _=>true
 | _=>false
def eqV:V->V->Bool
 | .non,.non=>true
 | .bl a,.bl b=>a == b
 | .bl a,.int b=>(if a then 1 else 0) == b
 | .int a,.bl b=>a == (if b then 1 else 0)
 | .int a,.int b=>a == b
 | .str a,.str b=>a == b
 | _,_=>false
theorem zg0(ry:RelV y u)(rx:RelV x v)(fy:Tf y=true)(fx:Tf x=true):SeqAt.EqAt A s u v (eqV y x):=by
 cases y with
 | non =>
   cases ry;cases x with
   | non=>cases rx;exact SeqAt.EqAt.same _
   | bl b=>cases rx;exact SeqAt.EqAt.none_bool b
   | int b=>obtain⟨t,rfl⟩:=rx;exact SeqAt.EqAt.none_int b t
   | str b=>obtain⟨t,rfl⟩:=rx;exact SeqAt.EqAt.none_str b t
   | _=>exact absurd (show false=true from fx) zs3
 | bl a =>
   cases ry;cases x with
   | non=>cases rx;exact SeqAt.EqAt.bool_none a
   | bl b=>cases rx;exact SeqAt.EqAt.bool_bool a b
   | int b=>obtain⟨t,rfl⟩:=rx;exact SeqAt.EqAt.bool_int a b t
   | str b=>obtain⟨t,rfl⟩:=rx;exact SeqAt.EqAt.bool_str a b t
   | _=>exact absurd (show false=true from fx) zs3
 | int a =>
   obtain⟨t',rfl⟩:=ry;cases x with
   | non=>cases rx;exact SeqAt.EqAt.int_none a t'
   | bl b=>cases rx;exact SeqAt.EqAt.int_bool a t' b
   | int b=>obtain⟨t,rfl⟩:=rx;exact SeqAt.EqAt.int_int a t' b t
   | str b=>obtain⟨t,rfl⟩:=rx;exact SeqAt.EqAt.int_str a t' b t
   | _=>exact absurd (show false=true from fx) zs3
 | str a =>
   obtain⟨t',rfl⟩:=ry;cases x with
   | non=>cases rx;exact SeqAt.EqAt.str_none a t'
   | bl b=>cases rx;exact SeqAt.EqAt.str_bool a t' b
   | int b=>obtain⟨t,rfl⟩:=rx;exact SeqAt.EqAt.str_int a t' b t
   | str b=>obtain⟨t,rfl⟩:=rx;exact SeqAt.EqAt.str_str a t' b t
   | _=>exact absurd (show false=true from fx) zs3
 | _=>exact absurd (show false=true from fy) zs3
def eqU(x:V)(u:Value):Bool:=match u with
 | .none=>eqV .non x
 | .bool b=>eqV (.bl b) x
 | .int i _=>eqV (.int i) x
 | .str z _=>eqV (.str z) x
 | _=>false
theorem Bh(r:RelV y u)(f:Tf y=true):eqU x u=eqV y x:=by
 cases y with
 | non=>cases r;rfl
 | bl b=>cases r;rfl
 | int i=>obtain⟨t,rfl⟩:=r;rfl
 | str z=>obtain⟨t,rfl⟩:=r;rfl
 | _=>exact absurd (show false=true from f) zs3
theorem O2:∀ {xs:List V} {us:List Value},Vals xs us->xs.all Tf=true->us.any (eqU x)=xs.any fun y=>eqV y x
 | _,_,.nil,_=>rfl
 | y :: xs,u :: us,.cons r t,f=>by
   rw[List.all_cons,zt2] at f;rw[zuf,zuf,Bh r f.1,O2 t f.2]
theorem Sa(rx:RelV x v)(fx:Tf x=true):∀ {xs:List V} {us:List Value},Vals xs us->xs.all Tf=true->∀ u∈us,SeqAt.EqAt A s u v (eqU x u)
 | _,_,.nil,_=>fun u hu=>by cases hu
 | y :: xs,u :: us,.cons r t,f=>fun u' hu=>by
   rw[List.all_cons,zt2] at f;rcases zso.mp hu with rfl|hu
   ·rw[Bh r f.1];exact zg0 r rx f.1 fx
   ·exact Sa rx fx t f.2 u' hu
def inV(x:V)(xs:List V):Bool:=xs.any fun y=>eqV y x
inductive rIn(K:Frag)(neg:Bool)(x:V)(y:V)(H:Hp)(Q:VK):Prop where
 | mk(p)(xs)(_:y=.ref p)(_:(SqL K H p xs\/SqT K H p xs))(_:Tf x=true)(_:xs.all Tf=true)(_:Q (.bl (if neg then !inV x xs else inV x xs)) H)
theorem za3:OpR X (compareOp .In) (rIn X.K false):=by
 intro pins s σ H x y v u Q I rx ry h;obtain⟨p,xs,rfl,hq,fx,fs,q⟩:=h;cases ry;rcases hq with hq|hq
 ·obtain⟨its,r,pl,hz⟩:=I.list hq;refine SeqAt.in_listAt (eqU x) pl.isList (fun w hw=>Sa rx fx r fs w (by simpa using hw)) ⟨.bl _,H,I,rfl,?_⟩;rw[show its.toArray.any (eqU x)=its.any (eqU x) by simp,O2 r fs];exact q
 ·obtain⟨its,r,pl,hz⟩:=I.tuple hq;refine SeqAt.in_tupleAt (eqU x) pl (fun w hw=>Sa rx fx r fs w (by simpa using hw)) ⟨.bl _,H,I,rfl,?_⟩;rw[show its.toArray.any (eqU x)=its.any (eqU x) by simp,O2 r fs];exact q
theorem Fj:OpR X (compareOp .NotIn) (rIn X.K true):=by
 intro pins s σ H x y v u Q I rx ry h;obtain⟨p,xs,rfl,hq,fx,fs,q⟩:=h;cases ry;rcases hq with hq|hq
 ·obtain⟨its,r,pl,hz⟩:=I.list hq;refine SeqAt.notIn_listAt (eqU x) pl.isList (fun w hw=>Sa rx fx r fs w (by simpa using hw)) ⟨.bl _,H,I,rfl,?_⟩;rw[show its.toArray.any (eqU x)=its.any (eqU x) by simp,O2 r fs];exact q
 ·obtain⟨its,r,pl,hz⟩:=I.tuple hq;refine SeqAt.notIn_tupleAt (eqU x) pl (fun w hw=>Sa rx fx r fs w (by simpa using hw)) ⟨.bl _,H,I,rfl,?_⟩;rw[show its.toArray.any (eqU x)=its.any (eqU x) by simp,O2 r fs];exact q
theorem Fl:Ui X (.builtin "len") (fun xs H Q=>∃ p ys,xs=[.ref p]/\(SqL X.K H p ys\/SqT X.K H p ys)/\Q (.int ys.length) H):=by
 intro pins s σ H xs us Q I r h;obtain⟨p,ys,rfl,hq,q⟩:=h;obtain⟨u,rfl,rx⟩:=Oz r;cases rx;have hn:=Pq;rcases hq with hq|hq
 ·obtain⟨its,r',pl,hz⟩:=I.list hq;have hlen:=r'.length;exact Calls.call_len_list pl.isList (by simp only[zsz]<;>omega) ⟨.int ys.length,H,I.tok _,⟨s.toks+1,by rw[zsz,hlen]⟩,q⟩
 ·obtain⟨its,r',pl,hz⟩:=I.tuple hq;have hlen:=r'.length;exact len_tuple pl (by simp only[zsz]<;>omega) ⟨.int ys.length,H,I.tok _,⟨s.toks+1,by rw[zsz,hlen]⟩,q⟩
theorem Fm:Ui X (.type "list") (fun xs H Q=>∃ p ys,xs=[.ref p]/\(SqL X.K H p ys\/SqT X.K H p ys)/\∀ l,H l=none->Q (.ref l) (upd H l (.lst ys))):=by
 intro pins s σ H xs us Q I r h;obtain⟨p,ys,rfl,hq,q⟩:=h;obtain⟨u,rfl,rx⟩:=Oz r;cases rx;have fin:∀ (its:List Value),Vals ys its->ys.length<=sizeLine->∀ (h':Heap) (c':Nat),(∀ b o',s.heap.get? b=some o'->h'.get? b=some o') ->
   h'.get? s.heap.objs.size=some { cls:=.type "list",dict:=none,data:=.seq its.toArray c',slots:=#[] }->EP X pins σ Q (.ref s.heap.objs.size) { s with heap:=h' }:=fun its r' hz h' c' kp e =>
  ⟨.ref s.heap.objs.size,_,I.laid (t':=s.toks) kp (zst _) (show Y0 X.prog X.w _ h' _ (.lst ys) from⟨hz,its,c',r',e⟩),rfl,q _ (I.hok.fresh (zst _))⟩
 rcases hq with hq|hq
 ·obtain⟨its,r',pl,hz⟩:=I.list hq;have hlen:=r'.length;obtain⟨o,ho,hc,n,hd⟩:=pl.isList;exact call_list_seq p (.inl rfl) ho hc hd (fun h' c' kp e=>fin its r' hz h' c' kp e) (by simp only[zsz]<;>omega)
 ·obtain⟨its,r',pl,hz⟩:=I.tuple hq;have hlen:=r'.length;obtain⟨o,ho,hc,n,hd⟩:=pl;exact call_list_seq p (.inr rfl) ho hc hd (fun h' c' kp e=>fin its r' hz h' c' kp e) (by simp only[zsz]<;>omega)
theorem Im:Ui X (.type "tuple") (fun xs H Q=>∃ p ys,xs=[.ref p]/\((SqL X.K H p ys/\∀ l,H l=none->Q (.ref l) (upd H l (.tup ys)))\/(SqT X.K H p ys/\Q (.ref p) H))):=by
 intro pins s σ H xs us Q I r h;obtain⟨p,ys,rfl,h⟩:=h;obtain⟨u,rfl,rx⟩:=Oz r;cases rx;rcases h with ⟨hq,q⟩|⟨hq,q⟩
 ·obtain⟨its,r',pl,hz⟩:=I.list hq;have hlen:=r'.length;refine call_tuple_list pl.isList (fun h' kp=>?_) (by simp only[zsz]<;>omega);have I1:Inv X pins σ H { s with heap:=h' }:=I.kept (t':=s.toks) kp;have I2:Inv X pins σ (upd H h'.objs.size (.tup ys)) { s with heap:=h'.push { cls:=.type "tuple",data:=.seq its.toArray } } :=
   I1.laid (t':=s.toks) (fun b o e=>Heap.get?_push_of_some _ e) (zst _) (show Y0 X.prog X.w _ _ _ (.tup ys) from⟨hz,its,r',IsTup.new _ _⟩)
  exact⟨.ref h'.objs.size,_,I2,rfl,q _ (I1.hok.fresh (zst _))⟩
 ·obtain⟨its,r',pl,hz⟩:=I.tuple hq;exact call_tuple_same pl ⟨.ref p,H,I,rfl,q⟩
def tyV(K:Frag)(T:String)(x:V)(H:Hp):Prop:=match x with
 | .str _=>T="str"
 | .int _=>T="int"
 | .ref p=>(T="list"/\∃ xs,SqL K H p xs)\/(T="tuple"/\∃ o,K.lookup p=some o/\o.cls=.type "tuple"/\o.dict=none) \/
   (T="dict"/\((∃ kvs,H p=some (.dK kvs))\/∃ kvs,H p=some (.dT kvs)))\/(T="set"/\∃ S n,H p=some (.set S n))
 | _=>False
theorem Bi(I:Inv X pins σ H s)(r:RelV x v)(ty:tyV X.K T x H) :
  s.TypeIs v T/\∀ a,v=.ref a->∃ ob,s.heap.get? a=some ob/\ob.dict=none:=by
 cases x with
 | str z =>
   obtain⟨t,rfl⟩:=r;cases (show T="str" from ty);exact⟨typeIs_str s z t,fun _ e=>nomatch e⟩
 | int i =>
   obtain⟨t,rfl⟩:=r;cases (show T="int" from ty);exact⟨typeIs_int s i t,fun _ e=>nomatch e⟩
 | ref p =>
   cases r;rcases ty with ⟨rfl,xs,hq⟩|⟨rfl,o,hk,hc,hd⟩|⟨rfl,hk⟩|⟨rfl,S,n,hk⟩
   ·obtain⟨its,_,pl,_⟩:=I.list hq;refine⟨pl.isList.typeIs,fun a e=>?_⟩;cases e;obtain⟨o,n,e,c,hd,_⟩:=pl;exact⟨o,e,hd⟩
   ·refine⟨⟨o,I.kIn p o hk,hc⟩,fun a e=>?_⟩;cases e;exact⟨o,I.kIn _ o hk,hd⟩
   ·have z:∃ o,s.heap.get? p=some o/\o.ExactDict:=by
     rcases hk with ⟨kvs,hk⟩|⟨kvs,hk⟩
     ·obtain⟨_,_,_,_,o,_,_,e,ex,_⟩:=I.hok p _ hk;exact⟨o,e,ex⟩
     ·obtain⟨_,_,_,_,o,_,_,e,ex,_⟩:=I.hok p _ hk;exact⟨o,e,ex⟩
    obtain⟨o,e,ex⟩:=z;refine⟨⟨o,e,ex.1⟩,fun a e2=>?_⟩;cases e2;exact⟨o,e,ex.2.1⟩
   ·obtain⟨o,_,_,_,e,ex,_⟩:=I.hok p _ hk;refine⟨⟨o,e,ex.1⟩,fun a e2=>?_⟩;cases e2;exact⟨o,e,ex.2.1⟩
 | _=>exact False.elim ty
inductive zil(K:Frag)(T:String)(r:V->List V->Hp->VK->Prop)(Q:VK)(x:V)(H1:Hp):Prop where
 | mk(_:tyV K T x H1)(_:r x [] H1 Q)
def zje(K:Frag)(T:String)(r:V->List V->Hp->VK->Prop)(to:TE):TE:=fun σ H Q=>to σ H fun x H1=>zil K T r Q x H1
inductive zjf(K:Frag)(T:String)(r:V->List V->Hp->VK->Prop)(t:TA)(σ:L2.St)(Q:VK)(x:V)(H1:Hp):Prop where
 | mk(_:tyV K T x H1)(_:t σ H1 fun xs H2=>r x xs H2 Q)
def tBM(K:Frag)(T:String)(r:V->List V->Hp->VK->Prop)(to:TE)(t:TA):TE:=fun σ H Q=>to σ H fun x H1=>zjf K T r t σ Q x H1
variable{o e:Expr}{es:List Expr}{to:TE}{t:TA}{name:Str}{apos cpos:Pos}{T id:String}{r:V->List V->Hp->VK->Prop}
theorem zc0(pa:PlainAttrs T)(slot:Slot T name id)(hty:typeOf (.builtin id)=pure (.type "method_descriptor"))(hm:MtR X id r)(ho:PE X o to)
  (hbase:attributeBase o name X.env (eval o X.env)=eval o X.env:=by rfl) (hline:(apos.endLine == cpos.line)=true:=by rfl):PE X (.Call (.Attribute o name apos) [] [] cpos) (zje X.K T r to):=by
 intro pins s σ H Q I h;refine wpAny_Call_method0_late hbase hline (thn (ho pins s σ H _ I h) fun v s1 ⟨x,H1,I1,r1,ty,q1⟩=>?_);obtain⟨h1,h2⟩:=Bi I1 r1 ty;exact⟨T,id,pa,slot,hty,h1,h2,Calls.callWith_builtin rfl (PySem.evalArgs_none (hm pins s1 σ H1 x [] v [] Q I1 r1 .nil q1))⟩
theorem zim(pa:PlainAttrs T)(slot:Slot T name id)(hty:typeOf (.builtin id)=pure (.type "method_descriptor"))(hm:MtR X id r)(ho:PE X o to)(ha:PA X (e :: es) t)
  (hbase:attributeBase o name X.env (eval o X.env)=eval o X.env:=by rfl)
  (hfew:((backTo cpos (starEach (e :: es) X.env)).all (fun x=>!x.1)&&(backToKw cpos (keywordEach [] X.env)).all (fun x=>x.1.isSome)
   && decide ((e :: es).length+([]:List Keyword).length+(if ([]:List Keyword).isEmpty then 0 else 1)<30))=true:=by rfl)
  (hline:(apos.endLine == cpos.line)=true:=by rfl) (hs:starEach (e :: es) X.env=(false,eval e X.env) :: starEach es X.env:=by rfl) (hplain:(backTo cpos (starEach es X.env)).any (·.1)=false:=by rfl) :
  PE X (.Call (.Attribute o name apos) (e :: es) [] cpos) (tBM X.K T r to t):=by
 intro pins s σ H Q I h;refine wpAny_Call_method_late hbase hfew hline rfl (thn (ho pins s σ H _ I h) fun v s1 ⟨x,H1,I1,r1,ty,q1⟩=>?_);obtain⟨h1,h2⟩:=Bi I1 r1 ty;refine⟨T,id,pa,slot,hty,h1,h2,?_⟩;have hA:=ha cpos pins s1 σ H1 _ I1 q1;rw[hs] at hA ⊢;refine Calls.callWith_builtin (by show (false||(backTo cpos (starEach es X.env)).any (·.1))=false;rw[hplain]<;>rfl) (Calls.evalArgs_plain ?_);exact thn hA fun us s2 ⟨vs,H2,I2,r2,q2⟩=>hm pins s2 σ H2 x vs v us Q I2 r1 r2 q2
end
def MtM(X:Cx)(id:String)(r:V->List V->Hp->VK->Prop):Prop :=
 ∀ (pins:List (Addr×Obj)) (s:Shared) (σ:St) (H:Hp) (x:V) (xs:List V) (v:Value) (us:List Value) (Q:VK),Inv X pins σ H s->RelV x v->Vals xs us->r x xs H Q ->
   wpAny (model X.prog X.w) X.A (call (.builtin id) (v :: us)) (EP X pins σ Q) X.xe s
theorem Vals.one:∀ {x:V} {us:List Value},Vals [x] us->∃ u,us=[u]/\RelV x u
 | _,_,.cons r .nil=>⟨_,rfl,r⟩
theorem Vals.zero:∀ {us:List Value},Vals [] us->us=[]
 | _,.nil=>rfl
theorem Vals.dropLast(h:Vals xs us):Vals xs.dropLast us.dropLast:=by
 induction h with
 | nil=>exact .nil
 | cons r t ih =>
   cases t with
   | nil=>exact .nil
   | cons q t'=>exact .cons r ih
theorem Vals.reverse(h:Vals xs us):Vals xs.reverse us.reverse:=by
 induction h with
 | nil=>exact .nil
 | cons r t ih=>rw[zug,zug];exact Vals.append ih (.cons r .nil)
theorem Bj(l:List α):l.eraseIdx (l.length-1)=l.dropLast:=by
 induction l with
 | nil=>rfl
 | cons a r ih =>
   cases r with
   | nil=>rfl
   | cons b r =>
     have e:(a :: b :: r).length-1=((b :: r).length-1)+1:=by
      have h1:(a :: b :: r).length=r.length+2:=rfl;have h2:(b :: r).length=r.length+1:=rfl;omega
     rw[e,List.eraseIdx_cons_succ,ih]
     all_goals rfl
section
variable{X:Cx}{pins:List (Addr×Obj)}{σ:St}{H:Hp}{s:Shared}{l b:Addr}{xs ys zs:List V}
theorem Inv.lset{its its':List Value}{n:Nat}{f:Array Value->Array Value}{t':Nat}(I:Inv X pins σ H s)(hH:H l=some (.lst xs))
  (e:s.heap.get? l=some { cls:=.type "list",data:=.seq its.toArray n }) (hf:f its.toArray=its'.toArray) (hv:Vals ys its') (hz:ys.length<=sizeLine) :
  Inv X pins σ (upd H l (.lst ys)) { s with heap:=s.heap.update l (Obj.mapSeq f),toks:=t' }:=by
 have q:=PySem.IsL.update e f;rw[hf] at q;refine I.write (x:=l) (e:=l) (by rw[hH];exact trivial) (.inl rfl) (fun b' u hb hu=>(Heap.get?_update_other s.heap (Obj.mapSeq f) (Ne.symm hb)).trans hu) ⟨_,q⟩ ?_;exact⟨hz,its',_,hv,q⟩
theorem Inv.lnew(I:Inv X pins σ H s)(hv:Vals ys its)(hz:ys.length<=sizeLine) :
  Inv X pins σ (upd H s.heap.objs.size (.lst ys)) { s with heap:=s.heap.push { cls:=.type "list",data:=.seq its.toArray },toks:=t' } :=
 I.laid (fun _ _ q=>Heap.get?_push_of_some _ q) (zst _) ⟨hz,its,0,hv,Heap.get?_push_size _ rfl⟩
theorem Inv.fresh(I:Inv X pins σ H s):H s.heap.objs.size=none:=I.hok.fresh (zst _)
theorem Inv.lstM(I:Inv X pins σ H s)(hH:H l=some (.lst xs)):xs.length<=sizeLine/\∃ (its:List Value) (n:Nat),Vals xs its/\xs.length=its.length/\s.heap.get? l=some { cls:=.type "list",data:=.seq its.toArray n }:=by
 obtain⟨z,its,n,r,e⟩:=I.hok l _ hH;exact⟨z,its,n,r,r.length,e⟩
end
section
variable{X:Cx}
inductive ze3(x:V)(vs:List V)(H:Hp)(Q:VK):Prop where
 | mk(l)(xs)(y)(_:x=.ref l)(_:vs=[y])(_:H l=some (.lst xs))(_:xs.length<sizeLine)(_:Q .non (upd H l (.lst (xs++[y]))))
theorem za4:MtM X "list.append" ze3:=by
 intro pins s σ H x vs v us Q I rx rv h;obtain⟨l,xs,y,rfl,rfl,hH,hz,q⟩:=h;cases rx;obtain⟨u,rfl,ru⟩:=rv.one;obtain⟨z,its,n,r,hl,e⟩:=I.lstM hH;refine call_meets F.slot_list_append ⟨_,e,rfl⟩ F.entry_list_append (F.args_list_append_2 _ _) (PySem.list_append l its.toArray n u (by rw[zsz];omega)) ⟨e,?_⟩;refine⟨.non,_,I.lset (its':=its++[u]) hH e (by simp) (r.append (.cons ru .nil)) ?_,rfl,q⟩;rw[zsn,List.length_singleton];omega
inductive zjg(x:V)(vs:List V)(H:Hp)(Q:VK):Prop where
 | mk(l)(xs)(y)(_:x=.ref l)(_:vs=[])(_:H l=some (.lst xs))(_:xs[xs.length-1]?=some y)(_:Q y (upd H l (.lst xs.dropLast)))
theorem zg1:MtM X "list.pop" zjg:=by
 intro pins s σ H x vs v us Q I rx rv h;obtain⟨l,xs,y,rfl,rfl,hH,hy,q⟩:=h;cases rx;have hus:=rv.zero;subst hus;obtain⟨z,its,n,r,hl,e⟩:=I.lstM hH;obtain⟨u,hu,ru⟩:=r.get hy;have hy':its.toArray[its.toArray.size-1]?=some u:=by
  show its.toArray[its.length-1]?=some u;rw[<- Array.getElem?_toList,<- hl];exact hu
 refine call_meets F.slot_list_pop ⟨_,e,rfl⟩ F.entry_list_pop (F.args_list_pop_1 _) (MeetsSeq.list_pop_last l its.toArray n u hy' (by rw[zsz];omega)) ⟨e,?_⟩;refine⟨y,_,I.lset (its':=its.dropLast) hH e ?_ r.dropLast ?_,ru,q⟩
 ·show its.toArray.eraseIdxIfInBounds (its.toArray.size-1)=its.dropLast.toArray;rw[zsz,List.eraseIdxIfInBounds_toArray,Bj]
 ·rw[List.length_dropLast];omega
inductive zc1(x:V)(vs:List V)(H:Hp)(Q:VK):Prop where
 | mk(l)(xs)(_:x=.ref l)(_:vs=[])(_:H l=some (.lst xs))(_:Q .non (upd H l (.lst xs.reverse)))
theorem Bl:MtM X "list.reverse" zc1:=by
 intro pins s σ H x vs v us Q I rx rv h;obtain⟨l,xs,rfl,rfl,hH,q⟩:=h;cases rx;have hus:=rv.zero;subst hus;obtain⟨z,its,n,r,hl,e⟩:=I.lstM hH;refine call_meets F.slot_list_reverse ⟨_,e,rfl⟩ F.entry_list_reverse (F.args_list_reverse_1 _) (AutoSeq1.list_reverse_list_0 l its.toArray n (by rw[zsz];omega)) ⟨e,?_⟩;refine⟨.non,_,I.lset (its':=its.reverse) hH e (by simp) r.reverse ?_,rfl,q⟩;rw[List.length_reverse];omega
inductive zjh(x:V)(y:V)(H:Hp)(Q:VK):Prop where
 | mk(l)(b)(xs)(zs)(_:x=.ref l)(_:y=.ref b)(_:H l=some (.lst xs))(_:H b=some (.lst zs))(_:xs.length+zs.length<=sizeLine)(_:∀ p,H p=none->Q (.ref p) (upd H p (.lst (xs++zs))))
theorem Kw:OpR X (binaryOp .Add) zjh:=by
 intro pins s σ H x y v u Q I rx ry h;obtain⟨l,b,xs,zs,rfl,rfl,hH,hB,hz,q⟩:=h;cases rx;cases ry;obtain⟨z,its,n,r,hl,e⟩:=I.lstM hH;obtain⟨z2,its2,n2,r2,hl2,e2⟩:=I.lstM hB;refine PySem.P.add_list e e2 ?_ (by rw[zsz,zsz];omega);have ea:its.toArray++its2.toArray=(its++its2).toArray:=by simp
 rw[ea];exact⟨.ref _,_,I.lnew (t':=s.toks) (r.append r2) (by rw[zsn];omega),rfl,q _ I.fresh⟩
end
end L2
namespace Att
open PySem PySem.W PySem.Calls PyProof.Rows
theorem Li:∀ (ns:List Int) (vs:List Value),WellAll P h vs (ns.map WData.int)->IntsAre vs ns:=by
 intro ns
 induction ns with
 | nil =>
   intro vs w;rw[List.map_nil] at w;cases w;exact .nil
 | cons n ns ih =>
   intro vs w;rw[zsx] at w;cases w with
   | cons a b =>
     cases a;exact .cons _ _ (ih _ b)
theorem za5{l:OpenLaw}{n:Nat}(hn:l.most=some n){P:Params}{h:Heap}{args:List WData}{vals:List Value}
  (hpre:l.row.toRowW.claim.pre args=true) (hwl:WellAll P h vals args) :
  ∃ a vs ns,vals=[Value.ref a]/\args=[WData.list (ns.map WData.int)]/\h.get? a=some { cls:=.type "list",data:=.seq vs.toArray }/\IntsAre vs ns/\ns.length<=n:=by
 have hsh:WShape.hasAll [] args [.list .int]=true:=(pre_splitW hpre).1;have hc:l.pre.holds [] { args:=args }=true:=(pre_splitW hpre).2;obtain⟨d,r,rfl,h1,h2⟩:=hasAllW_cons hsh;obtain rfl:=hasAllW_nil h2;obtain⟨xs,rfl,h3⟩:=hasW_list h1;obtain⟨ns,rfl⟩:=items_int h3;have hlen:ns.length<=n:=by
  unfold OpenLaw.pre at hc;have h4:(WTm.not (.lt (.lit (.int (n:Int))) (.len (.arg 0)))).holds [] { args:=[.list (ns.map .int)] }=true:=by
   have h4:=(holds_andW hc).1;rw[hn] at h4;exact h4
  have h5:=condW_of h4 (w_not (w_lt w_lit (w_len_list (w_arg rfl))));rw[zsk] at h5;refine Nat.le_of_not_lt fun q=>?_;have q':(n:Int)<((ns.length:Nat):Int):=by omega
  first
   | (rw[zss q'] at h5;exact absurd h5 ⋯)
   | (simp at h5;omega)
 cases hwl with
 | cons w1 w2 =>
   cases w2;cases w1 with
   | list ho hall=>exact⟨_,_,ns,rfl,rfl,ho,Li ns _ hall,hlen⟩
theorem za6(l:OpenLaw)(args:List WData):l.row.toRowW.claim.post args (.bool true) args=true :=
 postW_of (r:=l.row.toRowW) (X:=(true == true))
  (show WShape.has [] (.bool true) .bool=true by first|rfl|decide|simp[WShape.has,WShape.arms,WShape.armsAll])
  (show (WTm.eq .res (.lit (.bool true))).value [] { args:=args,res:=some (.bool true),after:=args }=some (.bool (true == true)) from w_eq_bool (w_res rfl) w_lit) rfl
theorem attach_call{l:OpenLaw}{n:Nat}{q:Program}{loose:List Str}{XP:(Str->Option Value)->Heap->Prop}{YP:World->Heap->Prop}{d:DefRec}
  (hn:l.most=some n) (hdf:d.params.defaults=[])
  (call:∀ (w:World) (s₀ s₁:Shared) (mg mb:Str->Option Value) (fa:Addr) (o:Obj) (pm cd doc:Value) (a:Addr) (vs:List Value) (ns:List Int),
   Ground q loose [] XP w s₀ mg mb s₁.heap->YP w s₁.heap ->
   s₁.heap.get? fa=some o->o.data=.func (docDef d.name d.params d.body d.scope pm cd doc)->s₁.heap.CodeRec cd d.name->mg d.name=some (.ref fa) ->
   s₁.heap.get? a=some { cls:=.type "list",data:=.seq vs.toArray }->IntsAre vs ns->ns.length<=n->s₁.gens=#[] ->
   codeAny (model l.prog w) callerA (.call (.ref fa) ⟨[.ref a],[]⟩) (fun r s'=>r=.ok (.ret (.bool true))/\OldK s₁.heap s'.heap/\s'.os=s₁.os/\AllBare s'.gens) s₁) :
  WalkO q loose XP YP l.row.toRowW d [] (fun f vs=>PySem.call f vs):=by
 intro w s₀ s₁ mg mb G Y fa o pm cd doc dV kV ho hd hcd hD hmg hg args vals as hpre hlay hrd hwl hlo;obtain rfl:dV=.none:=Dflts.none hD hdf;obtain rfl:kV=.none:=Dflts.noKw hD;obtain⟨a,vs,ns,rfl,rfl,hobj,hints,hlen⟩:=za5 hn hpre hwl;refine enter_call (codeAny_mono (call w s₀ s₁ mg mb fa o pm cd doc a vs ns G Y ho (fd_plain hd) hcd hmg hobj hints hlen hg) fun r s' hq=>?_);obtain⟨rfl,h2,h3,h4⟩:=hq;exact⟨.inl ⟨.bool true,.bool true,[],rfl,fun _=>rfl,.bool true,za6 l _,fun _=>⟨List.Pairwise.nil,fun _ hm=>(nomatch hm)⟩⟩,h2,h3,h4⟩
section
variable{prog:Program}{w:World}{A:Around}{E:Value->Shared->Prop}{s:Shared}{K:Frag}
def noObjs(h:Heap):Heap:={ h with objs:=#[] }
theorem noObjs_get(h:Heap)(b:Addr):(noObjs h).get? b=none:=by
 cases e:(noObjs h).get? b with
 | none=>rfl
 | some o=>exact absurd (Heap.lt_size e) (zue _)
end
end Att
namespace L2
open PySem PySem.Spec PyProof.Rows
theorem Gj:∀ {vs:List Value} {ns:List Int},IntsAre vs ns->Vals (ns.map V.int) vs
 | _,_,.nil=>.nil
 | _,_,.cons n t h=>.cons ⟨t,rfl⟩ (Gj h)
def zg2(H:Hp):Prop:=∀ b,H b=none\/∃ o xs,H b=some (.frz o (.lst xs))
theorem zc2{P:Program}{w:World}{K:Frag}{mg mb:Str->Option Value}{CX:CXT}{k:Nat}{fa a:Addr}{fd:FuncData}{x:Str}{sp:Sp}{s₁:Shared}{vs:List Value}{ns:List Int}
  (KX:K.In s₁.heap) (hns:s₁.heap.Ns mainGlobals mg) (hb:s₁.heap.Ns builtinsNs mb) (hbb:∀ x:Str,x≠"__name__"->mb x=bootBuiltins x) (hlim:s₁.heap.NoLimit) (hg:s₁.gens=#[])
  (ha:s₁.heap.get? a=some { cls:=.type "list",data:=.seq vs.toArray }) (hi:IntsAre vs ns) (hl:ns.length<=sizeLine) (hr:Wv k callerA)
  (F:∀ base:Heap,K.In base->base.Ns mainGlobals mg->FnOk P w K mg base CX k fa fd [x] sp) (hbind:∀ (s:Shared) (u:Value),BindsTo s fd ⟨[u],[]⟩ [(x,u)])
  (hsp:∀ H:Hp,zg2 H->SqL K H a (ns.map V.int)->sp [.ref a] H (fun v _=>v=.bl true) fun _ _ _=>False)
  (hCX:∀ H e s',CX [] H s₁ (fun _ _ _=>False) e s'->False) :
  codeAny (model P w) callerA (.call (.ref fa) ⟨[.ref a],[]⟩) (fun r s'=>r=.ok (.ret (.bool true))/\OldK s₁.heap s'.heap/\s'.os=s₁.os/\AllBare s'.gens) s₁:=by
 have rv:=Gj hi;have lenV:=hi.length;have core:∀ H:Hp,zg2 H->SqL K H a (ns.map V.int)->HOk P w H s₁.heap->(∀ b,H b≠none->b=a)->(H a≠none->K.lookup a=none) ->
   codeAny (model P w) callerA (.call (.ref fa) ⟨[.ref a],[]⟩) (fun r s'=>r=.ok (.ret (.bool true))/\OldK s₁.heap s'.heap/\s'.os=s₁.os/\AllBare s'.gens) s₁:=by
  intro H hO hS hok hA hK;have base_of:∀ {b:Addr} {o:Obj},s₁.heap.get? b=some o->H b=none->(Fc s₁.heap H).get? b=some o:=fun e n=>zce e n;have noA:∀ {b:Addr} {o:Obj} {es:Array DictEntry} {ep:Nat},s₁.heap.get? b=some o->o.data=.dict es ep->H b=none:=fun {b o es ep} e d=>by
   cases q:H b with
   | none=>rfl
   | some u =>
     have e':b=a:=hA b (by rw[q];simp);subst e';rw[ha] at e;cases e;have d':Data.seq vs.toArray _=Data.dict es ep:=d;cases d'
  have nsK:∀ {b:Addr} {m:Str->Option Value},s₁.heap.Ns b m->(Fc s₁.heap H).Ns b m:=fun {b m} ⟨o,es,ep,e,d,r⟩=>⟨o,es,ep,base_of e (noA e d),d,r⟩
  have hKb:K.In (Fc s₁.heap H):=fun b o e=>base_of (KX b o e) (by
   cases q:H b with
   | none=>rfl
   | some u =>
     have e':b=a:=hA b (by rw[q];simp);subst e';rw[hK (by rw[q];simp)] at e;cases e)
  have hM:Mod K mg (Fc s₁.heap H):=⟨hKb,nsK hns,⟨mb,nsK hb,hbb⟩,let ⟨mc,h1,h2⟩:=hlim;⟨mc,nsK h1,h2⟩⟩;have e0:Bc P w K mg (Fc s₁.heap H) callerA [] s₁ H:=⟨rfl,hM,fun b o e=>zeh e,Nat.le_of_eq (zas _ _),trivial,fun b hb=>absurd (show b∈([]:List Addr) from hb) (by simp),hok,.of_eq hg⟩;refine codeAny_mono ((F _ hKb (nsK hns)).run callerA [] s₁ H ⟨[.ref a],[]⟩ [.ref a] [.ref a] _ _ hr e0 (hbind s₁ (.ref a)) (.cons rfl .nil) (hsp H hO hS)) fun r s' h=>?_;cases r with
  | error e=>exact(hCX H e s' h).elim
  | ok fl =>
    cases fl with
    | next=>exact False.elim h
    | brk=>exact False.elim h
    | cont=>exact False.elim h
    | ret u =>
      obtain⟨v,H',os,bare,un,hok',r',q⟩:=h;have q':v=.bl true:=q;subst q';obtain rfl:u=Value.bool true:=r';refine⟨rfl,OldK.of_keep fun b o e=>?_,os,bare⟩;cases q:H b with
      | none=>exact un.keep b o e q (by intro z;exact absurd (show b∈([]:List Addr) from z) (by simp)) (by simp)
      | some u =>
        rcases hO b with z|⟨ob,xs,z⟩
        ·rw[q] at z;cases z
        ·have z2:=un.frzs b ob _ z;obtain⟨e1,_⟩:=hok b _ z;obtain⟨e2,_⟩:=hok' b _ z2;rw[e] at e1;cases e1;exact e2
 cases hk:K.lookup a with
 | some o =>
   have e:=KX a o hk;rw[ha] at e;cases e;refine core (fun _=>none) (fun _=>.inl rfl) (.inr ⟨_,vs.toArray,_,hk,rfl,rfl,rfl,by rw[zsz,lenV];exact hl,by simpa using rv⟩) (fun b u z=>by have z':(none:Option HO)=some u:=z;cases z') (fun b z=>absurd rfl z) fun z=>absurd rfl z
 | none =>
   refine core (fun b=>if b=a then some (.frz { cls:=.type "list",data:=.seq vs.toArray } (.lst (ns.map V.int))) else none) (fun b=>?_) (.inl (.inr ⟨{ cls:=.type "list",data:=.seq vs.toArray },if_pos rfl⟩)) (fun b u z=>?_) (fun b z=>?_) fun _=>hk
   ·by_cases hb:b=a
    ·exact .inr ⟨_,_,if_pos hb⟩
    ·exact .inl (if_neg hb)
   ·by_cases hb:b=a
    ·have z':=(if_pos hb).symm.trans z;cases z';subst hb;exact⟨ha,by rw[zsk];exact hl,vs,_,rv,ha⟩
    ·have z':=(if_neg hb).symm.trans z;cases z'
   ·by_cases hb:b=a
    ·exact hb
    ·exact absurd (if_neg hb) z
theorem ze4{l:PySem.W.OpenLaw}{n k:Nat}{q:Program}{loose:List Str}{XP:(Str->Option Value)->Heap->Prop}{YP:World->Heap->Prop}{d:DefRec}{K:Params->Frag}{CX:World->CXT}{sp:World->Sp}{x:Str}
  (hn:l.most=some n) (hn2:n<=sizeLine) (hdf:d.params.defaults=[]) (hr:Wv k callerA)
  (hY:∀ (w:World) (h:Heap),YP w h->(K w.params).In h)
  (F:∀ (w:World) (mg:Str->Option Value) (fa:Addr) (h:Heap),(K w.params).In h->h.Ns mainGlobals mg->mg d.name=some (.ref fa) ->
   ∃ fd:FuncData,(∀ (s:Shared) (u:Value),BindsTo s fd ⟨[u],[]⟩ [(x,u)]) /\
     ∀ base:Heap,(K w.params).In base->base.Ns mainGlobals mg->FnOk l.prog w (K w.params) mg base (CX w) k fa fd [x] (sp w))
  (hsp:∀ (w:World) (H:Hp) (a:Addr) (ns:List Int),ns.length<=n->zg2 H->SqL (K w.params) H a (ns.map V.int)->sp w [.ref a] H (fun v _=>v=.bl true) fun _ _ _=>False)
  (hCX:∀ (w:World) (H:Hp) (s:Shared) (e:Value) (s':Shared),CX w [] H s (fun _ _ _=>False) e s'->False) :
  PySem.W.WalkO q loose XP YP l.row.toRowW d [] (fun f vs=>PySem.call f vs):=by
 refine Att.attach_call hn hdf fun w s₀ s₁ mg mb fa o pm cd doc a vs ns G Y ho hd hcd hmg hobj hints hlen hg=>?_;have KX:=hY w _ Y;obtain⟨fd,hb,hF⟩:=F w mg fa _ KX G.T.g hmg;exact zc2 KX G.T.g G.T.b G.T.builtins G.T.nolimit hg hobj hints (zs2 hlen hn2) hr hF hb (fun H hO hS=>hsp w H a ns hlen hO hS) fun H e s'=>hCX w H s₁ e s'
def Z3(s:Stmt)(j:Nat):Stmt:=match s with
 | .ClassDef _ _ _ body _ _ _ _ _ _ _=>body.getD j (.Pass ⟨0,0,0,0⟩)
 | _=>.Pass ⟨0,0,0,0⟩
def Tg(s:Stmt):Arguments:=match s with
 | .FunctionDef _ a _ _ _ _ _ _ _ _=>a
 | _=>{ posonlyargs:=[],args:=[],vararg:=none,kwonlyargs:=[],kw_defaults:=[],kwarg:=none,defaults:=[] }
def Zp(s:Stmt):List Stmt:=match s with
 | .FunctionDef _ _ b _ _ _ _ _ _ _=>b
 | _=>[]
def Zj(s:Stmt):Scope:=match s with
 | .FunctionDef _ _ _ _ _ _ sc _ _ _=>sc
 | _=>{ kind:=.function,names:=[],isGenerator:=false,isCoroutine:=false }
abbrev E0:XK:=fun _ _ _=>False
structure Fun(K:Frag)(x qual:Str)(st:Stmt)(f:Addr)(fd:FuncData):Prop where
 ex:∃ (oc:Value) (od:Option Addr) (kV doc pm:Value) (an:Option Addr) (cdv ct:Value) (osl:Array (Option Value)),
  fd=PySem.W.fnOf x qual (Tg st) (Zp st) (Zj st) .none kV doc pm an cdv ct/\K.lookup f=some ⟨oc,od,.func fd,osl⟩/\PySem.W.codeIn K cdv qual=true
 kp:PySem.W.keepIn K (.ref f)=true
section
variable{P:Program}{w:World}{K:Frag}{mg:Str->Option Value}{base:Heap}
theorem Fun.binds{x qual:Str}{st:Stmt}{f:Addr}{fd:FuncData}{ps:List Str}(F:Fun K x qual st f fd)
  (h:∀ (kV doc pm:Value) (an:Option Addr) (cdv ct:Value) (us:List Value),us.length=ps.length->bindArgs (PySem.W.fnOf x qual (Tg st) (Zp st) (Zj st) .none kV doc pm an cdv ct) ⟨us,[]⟩=pure (ps.zip us)):T8 K fd ps []:=by
 obtain⟨oc,od,kV,doc,pm,an,cdv,ct,osl,rfl,lk,hcd⟩:=F.ex;exact .all (h kV doc pm an cdv ct)
theorem Pu{x qual:Str}{st:Stmt}{f:Addr}{oc:Value}{od an:Option Addr}{osl:Array (Option Value)}{kV doc pm cdv ct:Value}(l:K.lookup f=some ⟨oc,od,.func (PySem.W.fnOf x qual (Tg st) (Zp st) (Zj st) .none kV doc pm an cdv ct),osl⟩)
  (c:PySem.W.codeIn K cdv qual=true) (k:PySem.W.keepIn K (.ref f)=true):Fun K x qual st f (PySem.W.fnOf x qual (Tg st) (Zp st) (Zj st) .none kV doc pm an cdv ct):=⟨⟨oc,od,kV,doc,pm,an,cdv,ct,osl,rfl,l,c⟩,k⟩
end
theorem Wa(hr:Wv k A):A.units+1<cLine:=zt0 (Nat.add_le_add_left (by decide:1<=64) _) hr.units
theorem Vy(h:n<=1000):n<sizeLine:=zt0 h ⋯
section
variable{X:Cx}
theorem pv(i:Nat)(hN:X.N[i]?=some x:=by rfl)(hv:Vis X.env.scope x:=by first|exact Or.inl rfl|exact Or.inr (Or.inl rfl)|exact Or.inr (Or.inr rfl))(hd:(x == ("__debug__":Str))=false:=by decide)
  (hcd:(x == ("__classdict__":Str))=false:=by decide):PE X (.Name x pos) (zei i):=zgc hN hv hd hcd
theorem za7:Ui X (.builtin "len") (fun xs H Q=>∃ a kvs,xs=[V.ref a]/\H a=some (.dK kvs)/\Q (.int kvs.length) H):=by
 intro pins s σ H xs us Q I r h;obtain⟨a,kvs,rfl,ha,q⟩:=h;obtain⟨u,rfl,ru⟩:=Oz r;cases ru;exact zid I (.inl ha) fun t s' I'=>⟨.int kvs.length,H,I',⟨t,rfl⟩,q⟩
end
theorem iteF{A B:Prop}(h:B):if false=true then A else B:=by
 rw[if_neg zs3];exact h
theorem iteT{A B:Prop}(h:A):if true=true then A else B:=by
 rw[if_pos rfl];exact h
theorem E6{c A B:Prop}[Decidable c](h1:c->A)(h2:¬ c->B):if c then A else B:=by
 by_cases h:c
 ·rw[if_pos h];exact h1 h
 ·rw[if_neg h];exact h2 h
def Same(H H':Hp):Prop:=∀ b o,H b=some o->H' b=some o
theorem Same.refl(H:Hp):Same H H:=fun _ _ h=>h
theorem Same.trans(a:Same H H1)(b:Same H1 H2):Same H H2:=fun c o h=>b c o (a c o h)
theorem Same.free(e:Same H H')(h:H' l=Option.none):H l=Option.none:=by
 cases q:H l with
 | none=>rfl
 | some o =>
   rw[e l o q] at h;cases h
theorem Same.seq{K:Frag}{H H':Hp}{a:Addr}{xs:List V}(e:Same H H')(h:SqL K H a xs):SqL K H' a xs:=by
 rcases h with (h|⟨o,h⟩)|h
 ·exact .inl (.inl (e _ _ h))
 ·exact .inl (.inr ⟨o,e _ _ h⟩)
 ·exact .inr h
section
variable{κ:Type}[DecidableEq κ]
theorem Kj:∀ {l:List κ} {k:κ},l.Nodup->¬ k∈l->(l++[k]).Nodup
 | [],k,_,_=>by simp
 | a :: r,k,h,hk=>by
   obtain⟨h1,h2⟩:=ztd.mp h;show (a :: (r++[k])).Nodup;refine ztd.mpr ⟨fun m=>?_,Kj h2 fun m=>hk (zso.mpr (Or.inr m))⟩;rcases zsv.mp m with q|q
   ·exact h1 q
   ·exact hk (zso.mpr (Or.inl (zsp.mp q).symm))
theorem za8{p:κ×V}{r:List (κ×V)}{k:κ}(e:p.1=k):Xx (p :: r) k=Xx r k:=by
 unfold Xx;rw[zt1,if_neg (by simp[e])]
theorem za9{p:κ×V}{r:List (κ×V)}{k:κ}(e:¬ p.1=k):Xx (p :: r) k=p :: Xx r k:=by
 unfold Xx;rw[zt1,if_pos (by simp[e])]
end
section
variable{X:Cx}{pins:List (Addr×Obj)}{σ:List (Option V)}{H H':Hp}{s:Shared}{h':Heap}
theorem Inv.stepN{g':Array GenState}{t':Nat}{d':Drawn}{ch:List Addr}(I:Inv X pins σ H s)
  (hch:∀ b∈ch,(b∈X.ex\/X.s₀.heap.get? b=none)/\b≠X.env.locals/\(∀ x c,X.env.cells.lookup x=some c->c≠b)/\∀ p∈X.pn++pins,p.1≠b)
  (keep:∀ b o,b≠X.env.locals->b∉X.fs->b∉ch->s.heap.get? b=some o->H b=none->h'.get? b=some o)
  (slot:∀ b o,b≠X.env.locals->b∈X.fs->b∉ch->s.heap.get? b=some o->H b=none->∃ sl,h'.get? b=some { o with slots:=sl }) (free:∀ b o,b∉ch->s.heap.get? b=some o->H b=none->H' b=none)
  (there:∀ b o,b∉ch->s.heap.get? b=some o->∃ o',h'.get? b=some o')
  (tups:∀ b xs,H b=some (.tup xs)->H' b=some (.tup xs)) (frzs:∀ b o u,H b=some (.frz o u)->H' b=some (.frz o u)) (tbls:∀ b ps,H b=some (.tbl ps)->∃ more,H' b=some (.tbl (ps++more)))
  (ns:∀ m,s.heap.Ns X.env.locals m->h'.Ns X.env.locals m) (hok:HOk X.prog X.w H' h') (hg:AllBare g') :
  Inv X pins σ H' { s with heap:=h',gens:=g',drawn:=d',toks:=t' }:=by
 have neL:∀ b o,X.s₀.heap.get? b=some o->b≠X.env.locals:=fun b o e=>ztb (zs1 (Heap.lt_size e) I.ok.above);have neC:∀ b o,X.s₀.heap.get? b=some o->b∉X.ex->b∉ch:=fun b o e hx hb=>by
  rcases(hch b hb).1 with z|z
  ·exact hx z
  ·rw[z] at e;cases e
 have cellK:∀ x c,X.env.cells.lookup x=some c->∀ v,s.heap.IsCell c v->h'.IsCell c v:=fun x c e v ⟨o,ho,hd⟩=>by
  have nch:c∉ch:=fun z=>(hch c z).2.2.1 x c e rfl;by_cases hc:c∈X.fs
  ·obtain⟨sl,q⟩:=slot c o (I.cne x c e) hc nch ho (I.freeC x c e);exact⟨_,q,hd⟩
  ·exact⟨o,keep c o (I.cne x c e) hc nch ho (I.freeC x c e),hd⟩
 refine⟨I.ok,I.os,hg,⟨fun b o e n hb hx=>?_,fun b o e n hb hx=>?_,fun b o e n hx=>?_,fun b o e hx=>?_,fun b xs e=>tups b xs (I.base.tups b xs e),fun b o xs e=>frzs b o xs (I.base.frzs b o xs e),fun b ps e=>?_⟩,?_,fun x c e=>?_,?_,fun x c e=>?_,fun p hp=>?_,hok,I.len⟩
 ·exact keep b o (neL b o e) hb (neC b o e hx) (I.base.keep b o e n hb hx) (I.base.free b o e n hx)
 ·obtain⟨sl,e1⟩:=I.base.slot b o e n hb hx;obtain⟨sl',e2⟩:=slot b _ (neL b o e) hb (neC b o e hx) e1 (I.base.free b o e n hx);exact⟨sl',e2⟩
 ·obtain⟨o',e1⟩:=I.base.there b o e hx;exact free b o' (neC b o e hx) e1 (I.base.free b o e n hx)
 ·obtain⟨o',e1⟩:=I.base.there b o e hx;exact there b o' (neC b o e hx) e1
 ·obtain⟨m1,e1⟩:=I.base.tbls b ps e;obtain⟨m2,e2⟩:=tbls b _ e1;exact⟨m1++m2,by rw[e2,Array.append_assoc]⟩
 ·obtain⟨m,hn,hl⟩:=I.loc;refine⟨m,ns m hn,fun i x v e1 e2 e3=>?_⟩;obtain⟨u,r,l⟩:=hl i x v e1 e2 e3;refine⟨u,r,?_⟩;rcases l with l|⟨k,c,e,z⟩
  ·exact .inl l
  ·exact .inr ⟨k,c,e,cellK x c e _ z⟩
 ·obtain⟨v,z⟩:=I.cell x c e;exact⟨v,cellK x c e v z⟩
 ·obtain⟨m,⟨o,_,_,ho,_⟩,_⟩:=I.loc;exact free _ o (fun z=>(hch _ z).2.1 rfl) ho I.free
 ·obtain⟨v,o,ho,hd⟩:=I.cell x c e;exact free c o (fun z=>(hch c z).2.2.1 x c e rfl) ho (I.freeC x c e)
 ·obtain⟨e,n,ne,nf,d⟩:=I.pin p hp;have nch:p.1∉ch:=fun z=>(hch p.1 z).2.2.2 p hp rfl;exact⟨keep p.1 p.2 ne nf nch e n,free p.1 p.2 nch e n,ne,nf,d⟩
theorem Inv.callN{g':Array GenState}{t':Nat}{d':Drawn}{ch:List Addr}(I:Inv X pins σ H s)(u:Un (frs X.stack) ch H H' s.heap h')(hok:HOk X.prog X.w H' h')(hg:AllBare g')
  (hch:∀ b∈ch,(b∈X.ex\/X.s₀.heap.get? b=none)/\b≠X.env.locals/\(∀ x c,X.env.cells.lookup x=some c->c≠b)/\∀ p∈X.pn++pins,p.1≠b) :
  Inv X pins σ H' { s with heap:=h',gens:=g',drawn:=d',toks:=t' }:=by
 obtain⟨m,⟨o,es,ep,ho,r⟩,_⟩:=id I.loc;obtain⟨sl,hL⟩:=u.any ho I.free fun z=>(hch _ z).2.1 rfl;exact I.stepN (ch:=ch) hch (fun b o hL hb hc e n=>u.keep b o e n (fun z=>(zso.mp (I.stkSub b z)).elim hL hb) hc) (fun b o _ _ hc e n=>u.any e n hc) (fun b o hc e n=>u.free b o e n hc) (fun b o hc e=>u.there b o e hc) u.tups u.frzs u.tbls (fun m' hm=>by
  obtain⟨o',es',ep',ho',r'⟩:=hm;rw[ho] at ho';cases ho';exact⟨_,es',ep',hL,r'⟩) hok hg
theorem Inv.callN'(I:Inv X pins σ H s)(ho:s'.os=s.os)(u:Un (frs X.stack) ch H H' s.heap s'.heap)(hok:HOk X.prog X.w H' s'.heap)(hg:AllBare s'.gens)
  (hch:∀ b∈ch,(b∈X.ex\/X.s₀.heap.get? b=none)/\b≠X.env.locals/\(∀ x c,X.env.cells.lookup x=some c->c≠b)/\∀ p∈X.pn++pins,p.1≠b):Inv X pins σ H' s':=by
 obtain⟨h',g',d',t',o'⟩:=s';have e:o'=s.os:=ho;subst e;exact I.callN (g':=g') (t':=t') (d':=d') u hok hg hch
end
section
variable{P:Program}{w:World}{H H':Hp}{h h' g:Heap}{a:Addr}{o:HO}
theorem Y0.there(x:Y0 P w H h a o):∃ ob,h.get? a=some ob:=by
 cases o with
 | lst xs=>obtain⟨_,_,_,_,e⟩:=x;exact⟨_,e⟩
 | tup xs=>obtain⟨_,_,_,ob,e,_⟩:=x;exact⟨_,e⟩
 | dK kvs=>obtain⟨_,_,_,_,o,_,_,e,_⟩:=x;exact⟨_,e⟩
 | dT kvs=>obtain⟨_,_,_,_,o,_,_,e,_⟩:=x;exact⟨_,e⟩
 | set S n=>obtain⟨o,_,_,_,e,_⟩:=x;exact⟨_,e⟩
 | ins C dx fs=>obtain⟨_,_,_,e,_⟩:=x;exact⟨_,e⟩
 | own y=>obtain⟨_,e⟩:=x;exact⟨_,e⟩
 | xd fs=>obtain⟨_,⟨_,_,_,e,_⟩,_⟩:=x;exact⟨_,e⟩
 | rng lo hi=>obtain⟨_,_,_,e⟩:=x;exact⟨_,e⟩
 | frz ob u=>obtain⟨e,_⟩:=x;exact⟨_,e⟩
 | tbl ps=>exact⟨_,(show h.get? a=some _ from x)⟩
 | met f y=>exact⟨_,(show h.get? a=some _ from x)⟩
 | ext φ=>obtain⟨_,⟨_,e⟩,_⟩:=x;exact⟨_,e⟩
theorem HOk.none_of(x:HOk P w H h)(e:h.get? a=none):H a=none:=by
 cases q:H a with
 | none=>rfl
 | some u =>
   obtain⟨_,z⟩:=(x a u q).there;rw[e] at z;cases z
theorem E7(e:(PySem.W.hideAll h as).get? a=none):h.get? a=none\/a∈as:=by
 by_cases m:a∈as
 ·exact .inr m
 ·cases q:h.get? a with
  | none=>exact .inl rfl
  | some o=>rw[PySem.W.hideAll_get as q m] at e;cases e
end
structure Fly(g:Heap)(H:Hp)(h:Heap)(e T:Addr)(cls:Value):Prop where
 ex:∃ oe vs oT ts,h.get? e=some oe/\oe.cls=cls/\oe.data=.fields vs/\vs[1]?=some (.ref T)/\T≠e/\h.get? T=some oT/\oT.data=.fields ts/\ts[3]?=some .none
 newE:g.get? e=none
 newT:g.get? T=none
 freeE:H e=none
 freeT:H T=none
def CX1(P:Program)(w:World):CXT:=fun outer H s E e s'=>∃ a T cls H',e=.ref a/\s'.os=s.os/\AllBare s'.gens/\Un (frs outer) [] H H' s.heap s'.heap/\HOk P w H' s'.heap/\Fly s.heap H' s'.heap a T cls/\E cls none H'
section
variable{X:Cx}{pins:List (Addr×Obj)}{σ:St}{H H':Hp}{s s':Shared}{h':Heap}{e T:Addr}{cls:Value}
structure Us(X:Cx)(ch:List Addr)(h h':Heap):Prop where
 keep:∀ b o,h.get? b=some o->b∉ch->b∉frs X.stack->h'.get? b=some o
 slot:∀ b o,h.get? b=some o->b∉ch->b∈frs X.stack->∃ sl,h'.get? b=some { o with slots:=sl }
theorem Us.of(I:Inv X pins σ H s)(st:(PySem.W.hideAll s.heap (as++frs X.stack)).StaysIn h')(up:s.heap.UpToSlots h'):Us X as s.heap h' where
 keep:=fun b o q n1 n2=>st b o (PySem.W.hideAll_get _ q (by simp[n1,n2]))
 slot:=fun b o q _ m=>by
  obtain⟨_,o',ho,nf⟩:=I.stack.mem m;rw[q] at ho;cases ho;exact up b o q nf
theorem Us.un(I:Inv X pins σ H s)(t:Us X ch s.heap h')(hch:∀ b∈ch,H b=none):Un (frs X.stack) ch H H s.heap h' where
 keep:=fun b o q n hf hc=>t.keep b o q hc hf
 slot:=fun b o q n hf hc=>t.slot b o q hc hf
 free:=fun _ _ _ n _=>n
 there:=fun b o q hc=>by
  by_cases m:b∈frs X.stack
  ·obtain⟨_,z⟩:=t.slot b o q hc m;exact⟨_,z⟩
  ·exact⟨o,t.keep b o q hc m⟩
 tups:=fun _ _ q=>q
 frzs:=fun _ _ _ q=>q
 tbls:=fun b ps q=>⟨#[],by rw[q];simp⟩
theorem Us.hok(I:Inv X pins σ H s)(t:Us X ch s.heap h')(hch:∀ b∈ch,H b=none):HOk X.prog X.w H h':=fun b u q=>by
 have tr:∀ c v,H c=some v->c∉ch/\c∉frs X.stack:=fun c v z=>⟨(fun m=>by rw[hch c m] at z;cases z),(fun m=>by rw[I.stkFree c m] at z;cases z)⟩
 refine(I.hok b u q).stay (fun c v hc r=>?_) (fun _ z=>z) fun _ _ z=>z;rcases hc with z|z
 ·subst z;exact t.keep c v r (tr c u q).1 (tr c u q).2
 ·exact t.keep c v r (tr c _ z).1 (tr c _ z).2
theorem Inv.newRec(I:Inv X pins σ H s)(hx:X.ex=[])(n:s.heap.get? b=none):(b∈X.ex\/X.s₀.heap.get? b=none)/\b≠X.env.locals/\(∀ x c,X.env.cells.lookup x=some c->c≠b)/\∀ p∈X.pn++pins,p.1≠b:=by
 refine⟨.inr ?_,?_,?_,?_⟩
 ·cases q:X.s₀.heap.get? b with
  | none=>rfl
  | some o =>
    obtain⟨_,z⟩:=I.base.there b o q (by rw[hx];simp);rw[n] at z;cases z
 ·rintro rfl;obtain⟨m,⟨o,_,_,ho,_⟩,_⟩:=I.loc;rw[n] at ho;cases ho
 ·rintro x c hc rfl;obtain⟨v,o,ho,_⟩:=I.cell x c hc;rw[n] at ho;cases ho
 ·rintro p hp rfl;obtain⟨z,_⟩:=I.pin p hp;rw[n] at z;cases z
theorem Inv.raised(I:Inv X pins σ H s)(ho:s'.os=s.os)(hg:AllBare s'.gens)(u:Un (frs X.stack) [] H H' s.heap s'.heap)(hok:HOk X.prog X.w H' s'.heap):Inv X pins σ H' s' :=
 I.call' ho u hok hg (fun _ z=>nomatch z)
theorem Fly.flying(J:Inv X pins σ H s)(hl:s.heap.FunFrames X.base l)(hsub:∀ b∈frs l,b∈frs X.stack)(F:Fly g H s.heap e T cls) :
  ∃ a0,Heap.FlyingW (PySem.W.hideAll s.heap ([e,T]++frs X.stack)) l e cls a0 s.heap:=by
 obtain⟨oe,vs,oT,ts,e1,e2,e3,e4,e5,e6,e7,e8⟩:=F.ex;have sz:0<vs.size:=zt0 (zs9 _) (Array.getElem?_eq_some_iff.mp e4).1;refine⟨vs[0],fun b o q=>PySem.W.of_hideAll _ q,PySem.W.hideAll_none _ (by simp),PySem.W.funFrames_hide hl fun env he a ha=>?_,oe,vs,T,oT,ts,e1,⟨e2,?_⟩,e3,e4,PySem.W.hideAll_none _ (by simp),e5,e6,e7,e8⟩
 ·have:a∈frs l:=zun.mpr ⟨env,he,ha⟩;simp[hsub a this]
 ·exact Array.getElem?_eq_getElem sz
theorem Fly.again(J:Inv X pins σ H s)(F:Fly g H s.heap e T cls)(hg:∀ b,s.heap.get? b=none->g.get? b=none)
  (up:s.heap.UpToSlots h') (st:(PySem.W.hideAll s.heap ([e,T]++frs X.stack)).StaysIn h') (tr:h'.TracedW (PySem.W.hideAll s.heap ([e,T]++frs X.stack)) e cls a0):∃ T',Fly g H h' e T' cls:=by
 obtain⟨oe,vs,T',oT,ts,f1,⟨f2,_⟩,f3,f4,f5,f6,f7,f8,f9⟩:=tr;refine⟨T',⟨oe,vs,oT,ts,f1,f2,f3,f4,f6,f7,f8,f9⟩,F.newE,?_,F.freeE,?_⟩
 all_goals
  rcases E7 f5 with z|z
  ·first
    | exact hg _ z
    | exact J.hok.none_of z
  ·simp only[zsv,zso,zto,or_false] at z;rcases z with (z|z)|z
   ·exact absurd z f6
   ·subst z
    first
     | exact F.newT
     | exact F.freeT
   ·obtain⟨_,o,ho,nf⟩:=J.stack.mem z;obtain⟨sl,q⟩:=up T' o ho nf;rw[f7] at q;cases q;exact absurd f8 (nf _)
end
section
variable{P:Program}{w:World}{K:Frag}{mg:Str->Option Value}{base:Heap}{N:List Str}{qual:Str}{scope:Scope}{f:Addr}{cd:Value}{A:Around}{outer:List Env}{s0:Shared}{H0:Hp}{E:XK}
 {pins:List (Addr×Obj)} {σ:St} {H H':Hp} {s s':Shared} {h':Heap} {e T:Addr} {cls:Value}
theorem E8(hx:X.ex=[])(J:Inv X pins σ H s)(hst:X.stack=X.env :: X.outer)(hf:X.env.frame=some X.env.locals)(t:Us X ch s.heap h')(hch:∀ b∈ch,X.s₀.heap.get? b=none) :
  Un X.fs [] X.H₀ H X.s₀.heap h':=by
 have nb:∀ b o,X.s₀.heap.get? b=some o->b∉ch:=fun b o q m=>by rw[hch b m] at q;cases q
 have mem:∀ b,b∈frs X.stack↔b=X.env.locals\/b∈X.fs:=fun b=>by
  unfold Cx.fs frs;rw[hst,zuj,hf];exact zso
 have neL:∀ b o,X.s₀.heap.get? b=some o->b≠X.env.locals:=fun b o q=>ztb (zs1 (Heap.lt_size q) J.ok.above);have nx:∀ b:Addr,b∉X.ex:=fun b=>by rw[hx];simp
 refine⟨fun b o q n hb _=>?_,fun b o q n hb _=>?_,fun b o q n _=>J.base.free b o q n (nx b),fun b o q _=>?_,J.base.tups,J.base.frzs,J.base.tbls⟩
 ·refine t.keep b o (J.base.keep b o q n hb (nx b)) (nb b o q) fun m=>?_;exact((mem b).mp m).elim (neL b o q) hb
 ·obtain⟨sl,z⟩:=J.base.slot b o q n hb (nx b);obtain⟨sl',z'⟩:=t.slot b _ z (nb b o q) ((mem b).mpr (.inr hb));exact⟨sl',z'⟩
 ·obtain⟨o',z⟩:=J.base.there b o q (nx b);by_cases m:b∈frs X.stack
  ·obtain⟨_,z'⟩:=t.slot b o' z (nb b o q) m;exact⟨_,z'⟩
  ·exact⟨o',t.keep b o' z (nb b o q) m⟩
theorem Zk:Wq (CX1 P w) (cxOf (CX1 P w) P w K mg base N qual scope f cd A outer s0 H0 E) E:=by
 intro pins σ H s ev s' I h;obtain⟨a,T,cls,H',q0,ho,hg,u,hok,F,hE⟩:=h;subst q0;have J:=I.raised ho hg u hok;obtain⟨a0,hfl⟩:=F.flying J J.stack (fun _ z=>z);refine wpAny_leaves_onW (base:=PySem.W.hideAll s'.heap ([a,T]++frs _)) J.ok.frames rfl hfl fun h2 hfl2 up=>?_;have old:∀ b,s.heap.get? b=none->s0.heap.get? b=none:=fun b n=>by
  cases q:s0.heap.get? b with
  | none=>rfl
  | some o =>
    obtain⟨_,z⟩:=I.base.there b o q (by show b∉([]:List Addr);simp);rw[n] at z;cases z
 have old2:∀ b,s'.heap.get? b=none->s0.heap.get? b=none:=fun b n=>by
  cases q:s0.heap.get? b with
  | none=>rfl
  | some o =>
    obtain⟨_,z⟩:=J.base.there b o q (by show b∉([]:List Addr);simp);rw[n] at z;cases z
 have t:=Us.of (as:=[a,T]) J hfl2.1 up;have F0:Fly s0.heap H' s'.heap a T cls:=⟨F.ex,old _ F.newE,old _ F.newT,F.freeE,F.freeT⟩;obtain⟨T',F'⟩:=F0.again J old2 up hfl2.1 hfl2.2.2.2;refine⟨a,T',cls,H',rfl,J.os,J.bare,E8 rfl J rfl rfl t ?_,t.hok J ?_,F',hE⟩
 ·intro b hb;rcases zso.mp hb with rfl|hb
  ·exact F0.newE
  ·rcases zso.mp hb with rfl|hb
   ·exact F0.newT
   ·cases hb
 ·intro b hb;rcases zso.mp hb with rfl|hb
  ·exact F.freeE
  ·rcases zso.mp hb with rfl|hb
   ·exact F.freeT
   ·cases hb
def zf3(X:Cx)(E:XK):Prop:=∀ (pins:List (Addr×Obj)) (σ:St) (H:Hp) (s:Shared) (h':Heap) (e C:Addr) (args:List Value),Inv X pins σ H s->Heap.MadeExcOf s.heap h' e (.ref C) args->E (.ref C) none H->X.xe (.ref e) { s with heap:=h' }
theorem Y9:zf3 (cxOf (CX1 P w) P w K mg base N qual scope f cd A outer s0 H0 E) E:=by
 intro pins σ H s h1 e C args I hm hE;refine wpAny_leaves_madeW (base:=PySem.W.hideAll s.heap ([]++frs _)) (h:=s.heap) I.ok.frames rfl (fun b o q=>PySem.W.of_hideAll _ q)
  (PySem.W.funFrames_hide I.stack fun env he a ha=>by
   have:a∈frs _:=zun.mpr ⟨env,he,ha⟩
   simpa using this) hm fun h2 t hfl _ _ up=>?_
 have up2:s.heap.UpToSlots h2:=(Heap.UpToSlots.of_keeps hm.keeps).trans up;have tt:=Us.of (as:=[]) I hfl.1 up2;have old2:∀ b,s.heap.get? b=none->s0.heap.get? b=none:=fun b n=>by
  cases q:s0.heap.get? b with
  | none=>rfl
  | some o =>
    obtain⟨_,z⟩:=I.base.there b o q (by show b∉([]:List Addr);simp);rw[n] at z;cases z
 obtain⟨oe,vs,T',oT,ts,f1,⟨f2,_⟩,f3,f4,f5,f6,f7,f8,f9⟩:=hfl.2.2.2;have nT:s.heap.get? T'=none:=by
  rcases E7 f5 with z|z
  ·exact z
  ·have z':T'∈frs (cxOf (CX1 P w) P w K mg base N qual scope f cd A outer s0 H0 E).stack:=(zsv.mp z).resolve_left (by simp);obtain⟨_,o,ho,nf⟩:=I.stack.mem z';obtain⟨sl,q⟩:=up2 T' o ho nf;rw[f7] at q;cases q;exact absurd f8 (nf _)
 refine⟨e,T',.ref C,H,rfl,I.os,I.bare,E8 rfl I rfl rfl tt (fun _ z=>nomatch z),tt.hok I (fun _ z=>nomatch z),⟨⟨oe,vs,oT,ts,f1,f2,f3,f4,f6,f7,f8,f9⟩,old2 _ hm.new,old2 _ nT,I.hok.none_of hm.new,I.hok.none_of nT⟩,hE⟩
end
structure Ry(K:Frag)(mg:Str->Option Value)(x:Str)(C:Addr):Prop where
 nm:mg x=some (.ref C)
 ex:PySem.W.excIn K C [.type "ValueError",.type "Exception",.type "BaseException",.type "object"] "ValueError.__new__"=true
theorem Ry.own{K:Frag}{mg:Str->Option Value}{x:Str}{C:Addr}{h:Heap}(c:Ry K mg x C)(X:K.In h):OwnCls x C [.type "ValueError",.type "Exception",.type "BaseException",.type "object"] "ValueError.__new__" mg h:=by
 refine⟨c.nm,?_⟩;have q:=c.ex;unfold PySem.W.excIn at q;split at q
 ·rename_i dd cd sl ho;split at q
  ·rename_i C' bm k0 k1 k2 k3 n k5 hm hs;simp only[zt2,beq_iff_eq,Bool.not_eq_true'] at q;obtain⟨⟨⟨⟨⟨rfl,rfl⟩,hdel⟩,ht⟩,hok⟩,hni⟩:=q;obtain⟨nm,bs,mro,ns,qn,hd,sn,sub,ab,col,del⟩:=cd;dsimp only at hm hdel hok hni;subst hm hdel;have hsl:sl=#[k0,k1,k2,k3,some (.builtin "ValueError.__new__"),k5]:=by
    obtain⟨l⟩:=sl;simp only at hs;rw[hs]
   subst hsl;exact⟨bm,ns,nm,qn,bs,hd,sn,sub,ab,col,dd,k0,k1,k2,k3,k5,_,X _ _ ho,.of_isNs (PySem.W.isNs_of_in X hok),PySem.W.nsMap_none_of_in X hok hni,PySem.W.tail_of_in X ht⟩
  ·cases q
 ·cases q
inductive ze5(C:Addr)(E:XK)(vs:List V)(H1:Hp):Prop where
 | mk(_:vs.length<=sizeLine)(_:E (.ref C) none H1)
def zg3(C:Addr)(E:XK)(t:TA):TS:=fun _ σ H=>t σ H fun vs H1=>ze5 C E vs H1
theorem Xa{X:Cx}{x:Str}{C:Addr}{E:XK}{e₀:Expr}{rest:List Expr}{t:TA}{np cpos pos:Pos}(hl:zf3 X E)(hc:X.calm=true)(c:Ry X.K X.mg x C)(hg:Gl X x)(ha:PA X (e₀ :: rest) t)
  (he:starEach (e₀ :: rest) X.env=(false,eval e₀ X.env) :: starEach rest X.env:=by rfl) (hplain:(backTo cpos (starEach rest X.env)).any (·.1)=false:=by rfl) (hd:(x == ("__debug__":Str))=false:=by decide) :
  PS X (.Raise (some (.Call (.Name x np) (e₀ :: rest) [] cpos)) none pos) (zg3 C E t):=by
 intro pins s σ H D I h;have O:=c.own I.mod.kin;obtain⟨tl,N,nm,q,bs,hdct,sn,sub,ab,col,dd,k0,k1,k2,k3,k5,mN,hC,hN,hni,T⟩:=O.obj;refine wpAny_Raise_call_subT (C:=C) (nm:=nm) (q:=q) (N:=N) (bs:=bs) (bm:=tl) (hdct:=hdct) (sn:=sn) (sub:=sub) (ab:=ab) (col:=col) (dd:=dd) (k0:=k0) (k1:=k1) (k2:=k2) (k3:=k3) (k5:=k5)
  PySem.F.excBase_ValueError (mN:=mN) (T.hasType (by rfl)) (I.ok.hd hc) (by rw[he];show (false||(backTo cpos (starEach rest X.env)).any (·.1))=false;rw[hplain];rfl) hni (Qs I hg c.nm ⟨rfl,?_⟩ hd)
 have hp:=ha cpos pins s σ H _ I h;rw[he] at hp ⊢;refine Calls.evalArgs_plain (wpAny_mono hp (fun us s2 h2=>?_) fun _ _ y=>y);obtain⟨vs,H1,I1,r,hlen,hE⟩:=h2;exact⟨rfl,by rw[<- r.length];exact hlen,I1.bk _ _ hC,hN.keeps I1.bk,T.keeps I1.bk,fun h' e hm=>hl _ _ _ _ _ _ _ _ I1 hm hE⟩
structure Gk(K:Frag)(CB:Addr):Prop where
 ty:PySem.W.typeIn K (.ref CB)=some (.type "type")
 cl:(PySem.W.clsIn K CB).isSome=true
 bx:PySem.W.mroIn K CB (.type "BaseException")=some true
theorem E9{K:Frag}{M:Model}{A:Around}{E:Value->Shared->Prop}{s:Shared}{e C CB:Addr}{b:Bool}{oe:Obj}{Q:Bool->Shared->Prop}(X:K.In s.heap)(c:Gk K CB)
  (he:s.heap.get? e=some oe) (hcls:oe.cls=.ref C) (hm:PySem.W.mroIn K C (.ref CB)=some b) (h:Q b s):wpAny M A (excMatches (.ref e) (.ref CB)) Q E s:=by
 obtain⟨hp,g,d,tk,os⟩:=s;have L1:=PySem.W.looks_typeIn (M:=M) X c.ty;have L2:=PySem.W.looks_mroIn (M:=M) X c.bx;have L3:=PySem.W.looks_mroIn (M:=M) X hm;have L0:PySem.W.Looks M hp (typeOf (.ref e)) (.ref C):=hcls▸(PySem.W.Looks.ld he).andThen .now;have L4:PySem.W.Looks M hp (isType (.ref CB)) true:=by
  have z:=c.cl;unfold PySem.W.clsIn at z;split at z
  ·rename_i c' d' cd' sl' ho;intro A' Q' E' s' k q;unfold isType loadHead;exact wpAny_bind (wpAny_loadPart (k _ _ (X _ _ ho)) (wpAny_pure q))
  ·cases z
 unfold excMatches isInstance isExcClass;refine wpAny_bind (wpAny_bind (L1.at (wpAny_of_eq tc_notTuple ?_)));simp only[ztw,if_false,List.forIn_cons,List.forIn_nil];refine wpAny_bind (wpAny_pure (wpAny_bind ?_));simp only[List.forIn_cons,List.forIn_nil];refine wpAny_bind (wpAny_bind (wpAny_bind (L4.at ?_)));simp only[if_true];refine L2.at ?_;simp only[Bool.not_true,ztw,if_false];refine wpAny_pure (wpAny_pure (wpAny_bind (L0.at (wpAny_bind (wpAny_bind (wpAny_bind (L3.at ?_)))))));cases b with
 | true=>simp only[if_true];exact wpAny_pure (wpAny_pure (wpAny_pure h))
 | false=>simp only[ztw,if_false];exact wpAny_pure (wpAny_pure (wpAny_pure h))
end L2
namespace L2
open PySem PySem.Spec PyProof.Rows PySem.W PySem.Calls PySem.Builtin PySem.Builtin.ObjectAttr PySem.Builtin.Getset_descriptor
def zin(a:Addr)(cls:Value):HO:=.ext fun h=>∃ o vs,h.get? a=some o/\o.cls=cls/\o.data=.fields vs
structure zba(K:Frag)(D:Addr):Prop where
 ga:findIn K (.ref D) "__getattribute__"=some (some (.builtin "BaseException.__getattribute__"))
 gk:findIn K (.ref D) "__getattr__"=some none
 cl:(clsIn K D).isSome=true
 at_:findIn K (.ref D) "__class__"=some (some (.builtin "object.__class__"))
 gt:specialIn K (.builtin "object.__class__") "__get__"=some (some (.builtin "getset_descriptor.__get__"))
 tk:takesIn K (.builtin "object.__class__")=some true
 mo:mroIn K D (.type "object")=some true
 mx:mroIn K D (.type "BaseException")=some true
section
variable{prog:Program}{w:World}{A:Around}{E:Value->Shared->Prop}{s:Shared}{K:Frag}{x D:Addr}
theorem zc3(X:K.In h)(c:zba K D):Looks M h (find (.ref x) (.ref D) "__class__") (.bind (.builtin "getset_descriptor.__get__") (.builtin "object.__class__")):=by
 have L1:=looks_findIn (M:=M) X c.at_;have L2:Looks M h (getOf (some (.builtin "object.__class__"))) (some (.builtin "getset_descriptor.__get__")):=looks_specialIn X c.gt;have L3:=looks_takesIn (M:=M) X c.tk;exact L1.andThen (L2.andThen ((show Looks M h (dataDescriptor? (some (.builtin "object.__class__")) (some (.builtin "getset_descriptor.__get__"))) (some (.builtin "getset_descriptor.__get__",.builtin "object.__class__")) from L3.andThen .now).andThen (Looks.tag .now)))
theorem Bm(X:K.In s.heap)(hx:s.heap.get? x=some o)(hc:o.cls=.ref D)(c:zba K D)(q:R (.ok (.ret (.ref D))) s) :
  codeAny (model prog w) A (.call (.builtin "getset_descriptor.__get__") ⟨[.builtin "object.__class__",.ref x,.ref D],[]⟩) R s:=by
 obtain⟨hh,g,d,t,os⟩:=s;have L0:Looks (model prog w) hh (typeOf (.ref x)) (.ref D):=hc▸(Looks.ld hx).andThen .now;have Lm:=looks_mroIn (M:=model prog w) X c.mo;refine codeAny_call_builtin KF.slot_gs.plain KF.entry_gs (KF.slot_gs.check _ _ _ _ _ _ _ _ KF.type_class (KF.args_gs _ _ _) ?_);unfold Builtin.«getset_descriptor.__get__» descrGet;rw[dga_obj];refine wpAny_bind (wpAny_pure ?_);unfold descrGetter descrCheckInstance descrNameAndClass isInstance;simp only[KF.owner_class]
 repeat lk
 refine⟨Code.quiet_builtin _ ⋯,codeAny_builtin KF.entry_class ?_⟩;unfold Builtin.«object.__class__» shownTypeOf
 repeat lk
 exact q
theorem zg4(X:K.In s.heap)(hx:s.heap.get? x=some o)(hc:o.cls=.ref D)(c:zba K D)(q:Q (.done (.ret (.ref D))) s) :
  wpAny (model prog w) A (Builtin.«object.__getattribute__» ⟨[.ref x,.str "__class__" tk],[]⟩) Q E s:=by
 have L0:Looks (model prog w) s.heap (typeOf (.ref x)) (.ref D):=hc▸(Looks.ld hx).andThen .now;have Lf:=zc3 (x:=x) (M:=model prog w) X c;have e1:slotArgs "__getattribute__" 1 ⟨[.ref x,.str "__class__" tk],[]⟩=pure (.ref x,[.str "__class__" tk]):=rfl;unfold Builtin.«object.__getattribute__»;rw[e1];refine wpAny_bind (wpAny_pure ?_);refine wpAny_bind (show wpAny _ _ (attrName (.str "__class__" tk)) _ _ _ from wpAny_pure ?_);obtain⟨hh,g,d,t,os⟩:=s;refine wpAny_bind (L0.at (wpAny_bind (Lf.at ?_)));show wpAny _ _ (bindTo _ _ _ _) _ _ _;unfold bindTo;dsimp only;refine wpAny_bind (wpAny_holding (wpAny_call (Bm X hx hc c ?_)));exact wpAny_pure q
theorem Io(X:K.In s.heap)(hx:s.heap.get? x=some o)(hc:o.cls=.ref D)(c:zba K D)(q:Q (some (.ref D)) { s with toks:=s.toks+1 }) :
  wpAny (model prog w) A (getAttr? (.ref x) "__class__") Q E s:=by
 obtain⟨hh,g,d,t,os⟩:=s;have L0:Looks (model prog w) hh (typeOf (.ref x)) (.ref D):=hc▸(Looks.ld hx).andThen .now;have La:=looks_findIn (M:=model prog w) X c.ga;have Lk:=looks_findIn (M:=model prog w) X c.gk;have Lx:=looks_mroIn (M:=model prog w) X c.mx;have hb:=PySem.F.attr_ValueError.ga.bind (.ref x);have hne0:(Value.builtin "BaseException.__getattribute__" == Value.builtin "object.__getattribute__")=false:=by decide +kernel
 have hne:(onTheHeap (Value.ref D)&&Value.builtin "BaseException.__getattribute__" == Value.builtin "object.__getattribute__")=false:=by rw[hne0];rfl
 unfold getAttr? getAttrBy? getAttrBy;refine wpAny_bind (wpAny_mkText (wpAny_bind (wpAny_attempt (wpAny_holding (wpAny_bind (L0.at (wpAny_bind (La.at ?_))))))));dsimp only;rw[if_neg (by rw[hne];decide)];unfold getAttrByItsOwn;refine wpAny_bind (show wpAny _ _ (typeLookup (.ref D) "__getattr__") _ _ _ from Lk.at ?_);refine wpAny_bind (wpAny_attempt (wpAny_holding ?_));show wpAny _ _ (boundAndCalled _ _ _) _ _ _;unfold boundAndCalled;rw[hb];refine wpAny_bind (wpAny_pure (wpAny_call ?_));refine codeAny_call_builtin PySem.F.attr_ValueError.ga.plain PySem.F.entry_bexc_ga ?_;have hk:builtinKind "BaseException.__getattribute__"=some .slot:=by decide +kernel
 have hsplit:splitId "BaseException.__getattribute__"=some ("BaseException","__getattribute__"):=by decide +kernel
 have ha:=PySem.F.args_bexc_ga (.ref x) (.str "__class__" t);simp only[checkBuiltinCall,hk,hsplit,List.cons_append,List.nil_append];unfold isInstance
 repeat (first|with_reducible refine zg4 X hx hc c ?_|lk)
 exact q
theorem zc4(c:zba K D):KitX K (.ref x) (.ref D) (fun h=>∃ o,h.get? x=some o/\o.cls=.ref D) where
 ty:=fun M h _ p=>by obtain⟨o,hx,hc⟩:=p;exact hc▸(Looks.ld hx).andThen .now
 it:=fun _ _ X _=>by
  have z:=c.cl;unfold clsIn at z;split at z
  ·rename_i ho;intro A' Q' E' s' k q;unfold isType loadHead;exact wpAny_bind (wpAny_loadPart (k _ _ (X _ _ ho)) (wpAny_pure q))
  ·cases z
 ne:=fun h tp dd its n sl X htp=>by
  refine Bool.eq_false_iff.mpr fun q=>?_;have e:D=tp:=Value.ref.inj (beq_iff_eq.mp q);subst e;have z:=c.cl;unfold clsIn at z;split at z
  ·rename_i ho;have z:=(X _ _ ho).symm.trans htp;cases z
  ·cases z
 ca:=fun X p q=>by obtain⟨o,hx,hc⟩:=p;exact Io X hx hc c q
end
inductive TyX(K:Frag)(H:Hp)(x:V)(t:Value):Prop where
 | of (h:Ny K H x t):TyX K H x t
 | exc {a D:Addr} (ex:x=.ref a) (et:t=.ref D) (h:H a=some (zin a (.ref D))) (c:zba K D):TyX K H x t
def zio:V->Value
 | .ty n=>.type n
 | .ref a=>.ref a
 | _=>.none
inductive ziq(K:Frag)(xs:List V)(H:Hp)(Q:VK):Prop where
 | mk(x)(c)(t)(b)(_:xs=[x,c])(_:TyX K H x t)(_:((∃ n,c=.ty n)\/∃ a,c=.ref a))(_:kitOne K t (zio c)=some b)(_:Q (.bl b) H)
theorem zc5:Ui X (.builtin "isinstance") (ziq X.K):=by
 intro pins s σ H xs us Q I r h;obtain⟨x,c,t,b,rfl,ty,hc,hk,q⟩:=h;obtain⟨u,w',rfl,r1,r2⟩:=zfx r;have e:w'=zio c:=by
  rcases hc with ⟨n,rfl⟩|⟨a,rfl⟩
  ·exact r2
  ·exact r2
 subst e;cases ty with
 | of ty=>exact zaz I r1 ty hk fun tk=>⟨.bl b,H,I.tok tk,rfl,q⟩
 | @exc a D ex et ha cl =>
   subst ex et;cases (show u=Value.ref a from r1);obtain⟨⟨o,vs,ho,hcl,_⟩,_⟩:=(show Y0 X.prog X.w H s.heap a (zin a (.ref D)) from I.hok a _ ha);exact kia_one (zc4 cl) I.kIn ⟨o,ho,hcl⟩ hk (fun z=>nomatch z) fun tk=>⟨.bl b,H,I.tok tk,rfl,q⟩
def fgt:List Nat->St->St
 | [],σ=>σ
 | i :: r,σ=>fgt r (σ.set i none)
theorem Kx:∀ (as:List Nat) (σ:St),(fgt as σ).length=σ.length
 | [],_=>rfl
 | i :: r,σ=>by rw[fgt,Kx r,zt4]
theorem Fn:∀ (as:List Nat) {σ:St} {i:Nat} {v:V},(fgt as σ)[i]?=some (some v)->σ[i]?=some (some v)/\i∉as
 | [],_,_,_,h=>⟨h,by simp⟩
 | j :: r,σ,i,v,h=>by
   obtain⟨h1,h2⟩:=Fn r h;by_cases e:i=j
   ·subst e;rw[List.getElem?_set] at h1;simp at h1
   ·rw[ztj (Ne.symm e)] at h1;exact⟨h1,by simp[e,h2]⟩
abbrev Cx.tried(X:Cx)(E:Value->Shared->Prop)(lk:St)(pn:List (Addr×Obj)):Cx:={ X with xe:=E,lk:=lk,pn:=pn }
abbrev Cx.hand(X:Cx)(e:Addr):Cx:={ X with A:=X.A.mark (some (.ref e)),calm:=false,xe:=fun _ _=>False }
section
variable{X:Cx}{pins pins':List (Addr×Obj)}{σ σ' lk:St}{H:Hp}{s:Shared}{E:Value->Shared->Prop}{e:Addr}
theorem Cx.Ok.tried(ok:X.Ok)(E:Value->Shared->Prop)(lk:St)(pn:List (Addr×Obj)):(X.tried E lk pn).Ok :=
 ⟨ok.mod,ok.kind,ok.glob,ok.blt,ok.above,ok.inj,ok.has,ok.cab,ok.hd,ok.frames,ok.stk,ok.exf,ok.bs,ok.bsz,ok.noex,ok.exfs,ok.funs,ok.frf⟩
theorem Cx.Ok.untried{pn:List (Addr×Obj)}(ok:(X.tried E lk pn).Ok):X.Ok :=
 ⟨ok.mod,ok.kind,ok.glob,ok.blt,ok.above,ok.inj,ok.has,ok.cab,ok.hd,ok.frames,ok.stk,ok.exf,ok.bs,ok.bsz,ok.noex,ok.exfs,ok.funs,ok.frf⟩
theorem Cx.Ok.hand(ok:X.Ok)(e:Addr):(X.hand e).Ok :=
 ⟨ok.mod,ok.kind,ok.glob,ok.blt,ok.above,ok.inj,ok.has,ok.cab,fun z=>(nomatch z),ok.frames,ok.stk,ok.exf,ok.bs,ok.bsz,ok.noex,ok.exfs,ok.funs,ok.frf⟩
theorem Inv.tried(I:Inv X pins σ H s)(E:Value->Shared->Prop)(hlk:∀ (i:Nat) v,lk[i]?=some (some v)->σ[i]?=some (some v)):Inv (X.tried E lk (X.pn++pins)) [] σ H s:=by
 refine⟨I.ok.tried _ _ _,I.os,I.bare,I.base,?_,I.cell,I.free,I.freeC,fun p hp=>I.pin p (by simpa using hp),I.hok,I.len⟩;obtain⟨m,hn,hl⟩:=I.loc;exact⟨m,hn,fun i x v e1 e2 e3=>hl i x v e1 (.inl (e2.elim id (hlk i v))) e3⟩
theorem Inv.untried(I:Inv (X.tried E lk (X.pn++pins)) pins' σ' H s)(hX:X.lk=[])(hl:lk.length=X.N.length):Inv X pins lk H s:=by
 refine⟨I.ok.untried,I.os,I.bare,I.base,?_,I.cell,I.free,I.freeC,fun p hp=>I.pin p (zta _ hp),I.hok,hl⟩;obtain⟨m,hn,hl⟩:=I.loc;exact⟨m,hn,fun i x v e1 e2 e3=>hl i x v e1 (.inr (e2.elim id fun z=>by rw[hX] at z;simp at z)) e3⟩
theorem Inv.untriedN(I:Inv (X.tried E lk (X.pn++pins)) [] σ' H s)(hX:X.lk=[]):Inv X pins σ' H s:=by
 refine⟨I.ok.untried,I.os,I.bare,I.base,?_,I.cell,I.free,I.freeC,fun p hp=>I.pin p (by simpa using hp),I.hok,I.len⟩;obtain⟨m,hn,hl⟩:=I.loc;exact⟨m,hn,fun i x v e1 e2 e3=>hl i x v e1 (e2.elim .inl fun z=>by rw[hX] at z;simp at z) e3⟩
theorem Inv.hand(I:Inv X pins σ H s)(e:Addr):Inv (X.hand e) pins σ H s:=⟨I.ok.hand e,I.os,I.bare,I.base,I.loc,I.cell,I.free,I.freeC,I.pin,I.hok,I.len⟩
theorem Inv.unhand(ok:X.Ok)(I:Inv (X.hand e) pins σ H s):Inv X pins σ H s:=⟨ok,I.os,I.bare,I.base,I.loc,I.cell,I.free,I.freeC,I.pin,I.hok,I.len⟩
theorem SP.unhand(ok:X.Ok)(h:SP (X.hand e) pins D f s'):SP X pins D f s':=by
 cases f with
 | next=>obtain⟨a,b,c,d⟩:=h;exact⟨a,b,c.unhand ok,d⟩
 | brk=>obtain⟨a,b,c,d⟩:=h;exact⟨a,b,c.unhand ok,d⟩
 | cont=>obtain⟨a,b,c,d⟩:=h;exact⟨a,b,c.unhand ok,d⟩
 | ret u=>obtain⟨v,a,b,c,r,d⟩:=h;exact⟨v,a,b,c.unhand ok,r,d⟩
theorem SP.untried(hX:X.lk=[])(h:SP (X.tried E lk (X.pn++pins)) [] D f s'):SP X pins D f s':=by
 cases f with
 | next=>obtain⟨a,b,c,d⟩:=h;exact⟨a,b,c.untriedN hX,d⟩
 | brk=>obtain⟨a,b,c,d⟩:=h;exact⟨a,b,c.untriedN hX,d⟩
 | cont=>obtain⟨a,b,c,d⟩:=h;exact⟨a,b,c.untriedN hX,d⟩
 | ret u=>obtain⟨v,a,b,c,r,d⟩:=h;exact⟨v,a,b,c.untriedN hX,r,d⟩
end
structure zg5(X:Cx):Prop where
 ex:X.ex=[]
 lk:X.lk=[]
 st:X.stack=X.env :: X.outer
 fr:X.env.frame=some X.env.locals
theorem Qv{CX:CXT}{P:Program}{w:World}{K:Frag}{mg:Str->Option Value}{base:Heap}{N:List Str}{qual:Str}{scope:Scope}{f:Addr}{cd:Value}{A:Around}{outer:List Env}{s0:Shared}{H0:Hp}{E:XK} :
  zg5 (cxOf CX P w K mg base N qual scope f cd A outer s0 H0 E):=⟨rfl,rfl,rfl,rfl⟩
section
variable{X:Cx}{pins:List (Addr×Obj)}{σ:St}{H:Hp}{s:Shared}{E:Value->Shared->Prop}
theorem zji(B:zg5 X)(hlk:lk.length=X.N.length)
  (I:Inv (X.tried E' lk (X.pn++pins)) pins' σ' H1 s1) (h:CX1 X.prog X.w X.stack H1 s1 EX ev s2)
  (k:∀ a T cls H2 s3,ev=.ref a->EX cls none H2->Inv X pins lk H2 s3->Fly s1.heap H2 s3.heap a T cls->((a∈X.ex\/X.s₀.heap.get? a=none)/\a≠X.env.locals/\(∀ x c,X.env.cells.lookup x=some c->c≠a)/\∀ p∈X.pn++pins,p.1≠a) ->
   ((T∈X.ex\/X.s₀.heap.get? T=none)/\T≠X.env.locals/\(∀ x c,X.env.cells.lookup x=some c->c≠T)/\∀ p∈X.pn++pins,p.1≠T) ->
   wpAny (model X.prog X.w) X.A (handleBy (.ref a) X.env hs) Q E s3) :
  wpAny (model X.prog X.w) X.A (noteFrame ev X.env) (fun _ s₂=>wpAny (model X.prog X.w) X.A (setFlight ev none) (fun _ s₃=>wpAny (model X.prog X.w) X.A (handleBy ev X.env hs) Q E s₃) E s₂) E s2:=by
 obtain⟨a,T,cls,H2,q0,ho,hg,u,hok,F,hE⟩:=h;subst q0;have J:=I.raised ho hg u hok;obtain⟨a0,hfl⟩:=F.flying J J.stack (fun _ z=>z);have hfl':Heap.FlyingW (PySem.W.hideAll s2.heap ([a,T]++frs X.stack)) (X.env :: X.outer) a cls a0 s2.heap:=by rw[<- B.st];exact hfl
 refine wpAny_looks_onW (base:=PySem.W.hideAll s2.heap ([a,T]++frs X.stack)) (by rw[J.ok.frames];exact congrArg some B.st) B.fr hfl' fun h3 held up1=>?_;refine wpAny_landsW held fun h4 hfl4 up2=>?_;have up:s2.heap.UpToSlots h4:=up1.trans up2;have t:=Us.of (as:=[a,T]) J hfl4.1 up;have frE:∀ b∈[a,T],H2 b=none:=by
  intro b hb;rcases zso.mp hb with rfl|hb
  ·exact F.freeE
  ·rcases zso.mp hb with rfl|hb
   ·exact F.freeT
   ·cases hb
 have rcs:∀ b∈[a,T],(b∈X.ex\/X.s₀.heap.get? b=none)/\b≠X.env.locals/\(∀ x c,X.env.cells.lookup x=some c->c≠b)/\∀ p∈(X.pn++pins)++pins',p.1≠b:=by
  intro b hb;rcases zso.mp hb with rfl|hb
  ·exact I.newRec B.ex F.newE
  ·rcases zso.mp hb with rfl|hb
   ·exact I.newRec B.ex F.newT
   ·cases hb
 have J4:Inv (X.tried E' lk (X.pn++pins)) pins' σ' H2 { s2 with heap:=h4 }:=J.callN' (s':={ s2 with heap:=h4 }) (ch:=[a,T]) rfl (t.un J frE) (t.hok J frE) J.bare rcs;have old:∀ b,s2.heap.get? b=none->s1.heap.get? b=none:=fun b n=>by
  cases q:s1.heap.get? b with
  | none=>rfl
  | some o =>
    obtain⟨_,z⟩:=u.there b o q (by simp);rw[n] at z;cases z
 obtain⟨T',F'⟩:=F.again J old up hfl4.1 hfl4.2.2.2;have sub:∀ {b:Addr},((b∈X.ex\/X.s₀.heap.get? b=none)/\b≠X.env.locals/\(∀ x c,X.env.cells.lookup x=some c->c≠b)/\∀ p∈(X.pn++pins)++pins',p.1≠b) ->
   (b∈X.ex\/X.s₀.heap.get? b=none)/\b≠X.env.locals/\(∀ x c,X.env.cells.lookup x=some c->c≠b)/\∀ p∈X.pn++pins,p.1≠b:=fun z=>⟨z.1,z.2.1,z.2.2.1,fun p hp=>z.2.2.2 p (zta _ hp)⟩
 exact k a T' cls H2 _ rfl hE (J4.untried B.lk hlk) F' (sub (rcs a (by simp))) (sub (I.newRec B.ex F'.newT))
theorem zc6(I:Inv X pins σ H s)(F:Fly g H s.heap a T cls)(hg:∀ b,s.heap.get? b=none->g.get? b=none)
  (ha:(a∈X.ex\/X.s₀.heap.get? a=none)/\a≠X.env.locals/\(∀ x c,X.env.cells.lookup x=some c->c≠a)/\∀ p∈X.pn++pins,p.1≠a)
  (hT:(T∈X.ex\/X.s₀.heap.get? T=none)/\T≠X.env.locals/\(∀ x c,X.env.cells.lookup x=some c->c≠T)/\∀ p∈X.pn++pins,p.1≠T)
  (k:∀ s',Inv X pins σ H s'->(∃ T',Fly g H s'.heap a T' cls)->Q () s'):wpAny (model X.prog X.w) A (setFlight (.ref a) none) Q E s:=by
 obtain⟨a0,hfl⟩:=F.flying I I.stack (fun _ z=>z);refine lands_againW hfl fun h4 hfl4 up=>?_;have t:=Us.of (as:=[a,T]) I hfl4.1 up;have frE:∀ b∈[a,T],H b=none:=by
  intro b hb;rcases zso.mp hb with rfl|hb
  ·exact F.freeE
  ·rcases zso.mp hb with rfl|hb
   ·exact F.freeT
   ·cases hb
 have J4:Inv X pins σ H { s with heap:=h4 }:=I.callN' (s':={ s with heap:=h4 }) (ch:=[a,T]) rfl (t.un I frE) (t.hok I frE) I.bare fun b hb=>by
  rcases zso.mp hb with rfl|hb
  ·exact ha
  ·rcases zso.mp hb with rfl|hb
   ·exact hT
   ·cases hb
 exact k _ J4 (F.again I hg up hfl4.1 hfl4.2.2.2)
end
def xCl(K:Frag)(as:List Nat)(CB:Addr)(th:TS)(D:Ox)(σ:St):XK:=fun cls _ H'=>∃ C,cls=.ref C/\PySem.W.mroIn K C (.ref CB)=some true/\th D (fgt as σ) H'
def zjj(K:Frag)(as:List Nat)(CB:Addr)(tb:XK->TS)(th:TS):TS:=fun D σ H=>tb (xCl K as CB th D σ) D σ H
section
variable{X:Cx}{as:List Nat}{i:Nat}{CB:Addr}{tb:XK->TS}{th:TS}{body suite:List Stmt}{b₀:Stmt}{n cx:Str}{p hpos pos:Pos}
theorem Fo(B:zg5 X)(c:Gk X.K CB)(hg:Gl X cx)(hm:X.mg cx=some (.ref CB))
  (hb:∀ (E':Value->Shared->Prop) (lk:St) (pn:List (Addr×Obj)) (EX:XK),(∀ j∈as,∀ v,lk[j]?≠some (some v))->PassesOwn (model X.prog X.w) X.A X.env E'->Wq (CX1 X.prog X.w) (X.tried E' lk pn) EX->PSs (X.tried E' lk pn) body (tb EX))
  (hh:∀ a,PSs (X.hand a) (b₀ :: suite) th) (hd:(cx == ("__debug__":Str))=false:=by decide) :
  PS X (.Try body [.ExceptHandler (some (.Name cx p)) none (b₀ :: suite) hpos] [] [] pos) (zjj X.K as CB tb th):=by
 intro pins s σ H D I h;refine wpAny_Try_except ?_;have lkl:(fgt as σ).length=X.N.length:=by rw[Kx];exact I.len
 have I':=I.tried (lk:=fgt as σ) (fun ev s₁=>wpAny (model X.prog X.w) X.A (noteFrame ev X.env) (fun _ s₂=>wpAny (model X.prog X.w) X.A (setFlight ev none)
  (fun _ s₃=>wpAny (model X.prog X.w) X.A (handleBy ev X.env [.ExceptHandler (some (.Name cx p)) none (b₀ :: suite) hpos]) (SP X pins D) X.xe s₃) X.xe s₂) X.xe s₁) fun i v z=>(Fn as z).1
 refine wpAny_mono (hb _ _ _ (xCl X.K as CB th D σ) (fun j hj v z=>(Fn as z).2 hj) PassesOwn.looking (fun pins' σ' H1 s1 ev s2 J hcx=>?_) [] s σ H D I' h) (fun f s1 h1=>?_) fun _ _ z=>z
 ·refine zji B lkl J hcx fun a T cls H2 s3 _ hE J3 F ha hT=>?_;obtain⟨C,rfl,hmro,hth⟩:=hE;obtain⟨oe,vs,oT,ts,e1,e2,e3,_⟩:=F.ex;refine wpAny_handleBy_cons (codeAny_handlers_test (Qs (X:=X.hand a) (J3.hand a) hg hm (E9 J3.kIn c e1 e2 hmro ?_) hd)) (by intro q;cases q);refine codeAny_handlers_suite ?_;have F0:Fly (Att.noObjs s3.heap) H2 s3.heap a T (.ref C):=⟨F.ex,Att.noObjs_get _ _,Att.noObjs_get _ _,F.freeE,F.freeT⟩;refine zc6 J3 F0 (fun b _=>Att.noObjs_get _ _) ha hT fun s4 J4 _=>?_;refine wpAny_mono (hh a pins s4 _ _ _ (J4.hand a) hth) (fun f s6 h6=>?_) fun _ _ z=>z.elim;exact h6.unhand I.ok
 ·have h2:=SP.untried B.lk h1;cases f with
  | next=>exact wpAny_execs_nil h2
  | brk=>exact h2
  | cont=>exact h2
  | ret u=>exact h2
end
section
variable{P:Program}{w:World}{K:Frag}{mg:Str->Option Value}{base:Heap}
theorem Fun.okX{x qual:Str}{st:Stmt}{f:Addr}{fd:FuncData}{N ps:List Str}{k:Nat}{sp:Sp}(F:Fun K x qual st f fd)(S:Zl N ps (Zj st))(len:∀ vs H Q E,sp vs H Q E->vs.length=ps.length)
  (hbody:∀ (cdv:Value) (A:Around) (outer:List Env) (s:Shared) (H:Hp) (vs:List V) (Q:VK) (E:XK),Wv k (A.deeper (envOfC qual (Zj st) s.heap.objs.size f cdv))->sp vs H Q E ->
   ∃ t,PSs (cxOf (CX1 P w) P w K mg base N qual (Zj st) f cdv A outer s H E) (Zp st) t/\t { nx:=fun _ H'=>Q .non H',rt:=Q } (Mv N vs) H):FnOk P w K mg base (CX1 P w) (k+1) f fd ps sp:=by
 obtain⟨oc,od,kV,doc,pm,an,cdv,ct,osl,rfl,lk,hcd⟩:=F.ex;exact zib lk hcd S len fun A outer s H vs Q E hr hsp=>hbody cdv A outer s H vs Q E hr hsp
end
def Ip{α:Type}(p:α->Prop):List α->Prop
 | []=>True
 | a :: r=>p a/\Ip p r
theorem Ip.get:∀ {l:List α} {a:α},Ip p l->a∈l->p a
 | _ :: _,_,h,.head _=>h.1
 | _ :: _,_,h,.tail _ m=>Ip.get h.2 m
def Yv(X:Cx)(pn:List (Addr×Obj))(Nc:List Str)(scope:Scope)(cl:List (Str×Addr))(s₀:Shared)(H₀:Hp)(fp:List Addr)(C:Addr):Cx :=
 { X with N:=Nc,s₀:=s₀,H₀:=H₀,env:=compEnvC scope cl C X.env,outer:=X.stack,stack:=X.stack,ex:=fp,fn:=fun _=>false,pn:=pn,xe:=fun _ _=>False,lk:=[] }
def cs(js:List Nat)(σ:St)(x:V):St:=some x :: js.map fun j=>(σ[j]?).getD none
def PTs(X:Cx)(ifs:List Expr)(t:TT):Prop :=
 ∀ (pins:List (Addr×Obj)) (s:Shared) (σ:St) (H:Hp) (Q:Bool->Hp->Prop),Inv X pins σ H s->t σ H Q ->
   wpAny (model X.prog X.w) X.A (forIn ifs true fun c r=>if r=true then do let ok <- isTrue c X.env (eval c X.env);pure (ForInStep.yield ok) else pure (ForInStep.yield r)) (TP X pins σ Q) X.xe s
def tYes:TT:=fun _ H Q=>Q true H
theorem V7:PTs X [] tYes:=fun _ _ _ H _ I h=>wpAny_tests_nil ⟨H,I,h⟩
theorem Kk(h:PT X c t):PTs X [c] t:=fun pins s σ H Q I q=>wpAny_tests_one (h pins s σ H Q I q)
def Ay(J:It)(js:List Nat)(tt:TT)(te:TE)(σ:St)(H:Hp)(Q:VK):Prop:=∃ W:Nat->Nat->List V->Hp->Prop,(∃ m,W 0 m [] H)/\∀ i m ys H,W i m ys H ->
 (J.stop i H/\ys.length<=sizeLine/\∀ p,H p=none->Q (.ref p) (upd H p (.lst ys))) \/
 (J.go i H/\ys.length<sizeLine/\∃ N:List V->Hp->Prop,(∀ ys' H',N ys' H'->∃ m',m' < m/\W (i+1) m' ys' H')/\∀ x H',J.yld i H x H'->tt (cs js σ x) H' fun b H2=>if b=true then te (cs js σ x) H2 fun y H3=>N (ys++[y]) H3 else N ys H2)
def zf4(wi:TI)(js:List Nat)(tt:TT)(te:TE):TE:=fun σ H Q=>wi σ H fun J H1=>Ay J js tt te σ H1 Q
section
variable{X:Cx}{elt iter:Expr}{x:Str}{px pos:Pos}{ifs:List Expr}{scope:Scope}{cl:List (Str×Addr)}{ys:List Str}{js:List Nat}
structure Az(X:Cx)(x:Str)(scope:Scope)(cl:List (Str×Addr))(ys:List Str)(js:List Nat):Prop where
 clos:closureFor scope X.env=pure cl
 kind:scope.kind=.function
 names:∀ y∈scope.names,y.2=.local->scope.names.lookup y.1=some .local
 nocell:∀ y∈scope.names,y.2≠.cell
 own:scope.names.lookup x=some .local
 nd:(x :: ys).Nodup
 at_:js.map (X.N[·]?)=ys.map some
 free:Ip (fun y=>X.env.kindOf y=some .cell/\(relabel scope X.env).names.lookup y=some .cell/\cl.lookup y=X.env.cells.lookup y) ys
 only:Ip (fun p=>X.env.cells.lookup p.1=some p.2) cl
 vis:∀ y∈scope.names,y.2=.free->y.1∈ys
theorem O3{env:Env}:∀ {names:List (Str×NameKind)} {y:Str},(names.map fun (n,k)=>if (k == NameKind.free&&env.scope.kind == .function&&env.kindOf n == some .cell) then (n,NameKind.cell) else (n,k)).lookup y=some .cell \/
  (names.map fun (n,k)=>if (k == NameKind.free&&env.scope.kind == .function&&env.kindOf n == some .cell) then (n,NameKind.cell) else (n,k)).lookup y=some .free->∃ k,(y,k)∈names/\(k=.cell\/k=.free)
 | [],_,h=>by rcases h with h|h<;>simp at h
 | (n,k) :: r,y,h=>by
   by_cases hx:y=n
   ·subst hx;refine⟨k,zte,?_⟩;rw[zsx] at h;dsimp only at h;by_cases hc:(k == NameKind.free&&env.scope.kind == .function&&env.kindOf y == some .cell)=true
    ·simp only[zt2,beq_iff_eq] at hc;exact .inr hc.1.1
    ·rw[if_neg hc] at h;simp only[ztk,beq_self_eq_true] at h;rcases h with h|h
     ·exact .inl (Option.some.inj h)
     ·exact .inr (Option.some.inj h)
   ·have hb:(y == n)=false:=zs5.mpr hx;have ih:=@O3 env r y;rw[zsx] at h;have key:∀ z:Str×NameKind,z.1=n->List.lookup y (z :: (r.map fun (n,k)=>if (k == NameKind.free&&env.scope.kind == .function&&env.kindOf n == some .cell) then (n,NameKind.cell) else (n,k))) =
      List.lookup y (r.map fun (n,k)=>if (k == NameKind.free&&env.scope.kind == .function&&env.kindOf n == some .cell) then (n,NameKind.cell) else (n,k)):=fun z hz=>by
     obtain⟨z1,z2⟩:=z;cases hz;simp only[ztk,hb]
    rw[key _ (by dsimp only;split<;>rfl)] at h;obtain⟨k',m,q⟩:=ih h;exact⟨k',zs4 _ m,q⟩
variable{wi:TI}{tt:TT}{te:TE}
end
theorem Vc{K:Frag}{js:List Nat}{tt:TT}{te:TE}{a:Addr}{xs:List V}{σ:St}{H:Hp}{Q:VK}(Pv:Nat->List V->Hp->Prop)(h0:Pv 0 [] H)(hl:∀ i ys H,i<=xs.length->Pv i ys H->SqL K H a xs)(hz:xs.length<=sizeLine)
  (hy:∀ i ys H,Pv i ys H->ys.length<=i)
  (hs:∀ i x ys H,xs[i]?=some x->Pv i ys H->tt (cs js σ x) H fun b H2=>if b=true then te (cs js σ x) H2 fun y H3=>Pv (i+1) (ys++[y]) H3 else Pv (i+1) ys H2)
  (hd:∀ ys H,Pv xs.length ys H->∀ p,H p=none->Q (.ref p) (upd H p (.lst ys))):Ay (Itl K a) js tt te σ H Q:=by
 refine⟨fun i m ys H=>m=xs.length-i/\i<=xs.length/\Pv i ys H,⟨xs.length,by simp,zs9 _,h0⟩,?_⟩;rintro i m ys H ⟨rfl,hi,p⟩;have q:=hl i ys H hi p;have ly:=hy i ys H p;by_cases hlt:i<xs.length
 ·refine .inr ⟨⟨xs,xs[i],q,by simp[hlt]⟩,by omega,Pv (i+1),fun ys' H' p'=>⟨xs.length-(i+1),by omega,rfl,hlt,p'⟩,fun x H' y=>?_⟩;obtain⟨e,y⟩:=y;subst e;exact hs i x ys _ (y xs q) p
 ·have e:i=xs.length:=by omega
  subst e;exact .inl ⟨⟨xs,q,zst _⟩,by omega,hd ys H p⟩
theorem Pw{js:List Nat}{tt:TT}{te:TE}{lo:Int}{n:Nat}{σ:St}{H:Hp}{Q:VK}(Pv:Nat->List V->Hp->Prop)(h0:Pv 0 [] H)(hz:n<=sizeLine)(hy:∀ i ys H,Pv i ys H->ys.length<=i)
  (hs:∀ i ys H,i<n->Pv i ys H->tt (cs js σ (.int (lo+i))) H fun b H2=>if b=true then te (cs js σ (.int (lo+i))) H2 fun y H3=>Pv (i+1) (ys++[y]) H3 else Pv (i+1) ys H2)
  (hd:∀ ys H,Pv n ys H->∀ p,H p=none->Q (.ref p) (upd H p (.lst ys))):Ay (Itr lo n) js tt te σ H Q:=by
 refine⟨fun i m ys H=>m=n-i/\i<=n/\Pv i ys H,⟨n,by simp,zs9 _,h0⟩,?_⟩;rintro i m ys H ⟨rfl,hi,p⟩;have ly:=hy i ys H p;by_cases hlt:i<n
 ·refine .inr ⟨hlt,by omega,Pv (i+1),fun ys' H' p'=>⟨n-(i+1),by omega,rfl,hlt,p'⟩,fun x H' y=>?_⟩;obtain⟨e,y⟩:=y;subst e y;exact hs i ys _ hlt p
 ·have e:i=n:=by omega
  subst e;exact .inl ⟨zst _,by omega,hd ys H p⟩
theorem Gm{js:List Nat}{te:TE}{lo:Int}{n:Nat}{σ:St}{H:Hp}{Q:VK}(f:Nat->V)(hz:n<=sizeLine)
  (hs:∀ i (R:VK),i<n->R (f i) H->te (cs js σ (.int (lo+i))) H R) (hd:∀ p,H p=none->Q (.ref p) (upd H p (.lst ((List.range n).map f)))):Ay (Itr lo n) js tYes te σ H Q:=by
 refine Pw (fun i ys H'=>H'=H/\ys=(List.range i).map f) ⟨rfl,rfl⟩ hz (fun i ys H' ⟨_,e⟩=>by rw[e,zsk,ztu];exact zst _) (fun i ys H' hi ⟨e1,e2⟩=>?_) fun ys H' ⟨e1,e2⟩ p hp=>?_
 ·subst e1;unfold tYes;dsimp only;rw[if_pos rfl];refine hs i _ hi ⟨rfl,?_⟩;rw[e2,List.range_succ,zsq];rfl
 ·subst e1;rw[e2];exact hd p hp
theorem Mx:∀ {xs:List V} {us:List Value},xs.length=us.length->(∀ (j:Nat) x u,xs[j]?=some x->us[j]?=some u->RelV x u)->Vals xs us
 | [],[],_,_=>.nil
 | x :: xs,u :: us,hl,h=>.cons (h 0 x u rfl rfl) (Mx (by simpa using hl) fun j x' u' h1 h2=>h (j+1) x' u' (by simpa using h1) (by simpa using h2))
abbrev TF:=St->Hp->(Hp->Prop)->Prop
def PF(X:Cx)(e:Expr)(t:TF):Prop :=
 ∀ (pins:List (Addr×Obj)) (s:Shared) (σ:St) (H:Hp) (k:Hp->Prop),Inv X pins σ H s->t σ H k ->
   wpAny (model X.prog X.w) X.A (eval e X.env) (fun u s'=>∃ y tk H',u=.str y tk/\y.length<=10000/\Inv X pins σ H' s'/\k H') X.xe s
def PFs(X:Cx)(es:List Expr)(t:TF):Prop :=
 ∀ (pins:List (Addr×Obj)) (s:Shared) (σ:St) (H:Hp) (k:Hp->Prop) (acc:Str),Inv X pins σ H s->acc.length+10000*es.length<=sizeLine->t σ H k ->
   Joins (model X.prog X.w) X.A X.xe (evalEach es X.env) acc (fun out s'=>out.length<=sizeLine/\∃ H',Inv X pins σ H' s'/\k H') s
def zir:TF:=fun _ H k=>k H
def zis(t u:TF):TF:=fun σ H k=>t σ H fun H1=>u σ H1 k
def okF(v:V):Prop:=(∃ i,v=.int i/\i.natAbs.log2<1920)\/∃ y,v=.str y/\y.length<=10000
def zjk(te:TE):TF:=fun σ H k=>te σ H fun v H1=>okF v/\k H1
def zit(t:TF):TE:=fun σ H Q=>t σ H fun H1=>∀ z,Q (.str z) H1
section
variable{X:Cx}{e:Expr}{es:List Expr}{te:TE}{t u:TF}{pos:Pos}
theorem Xk{j}(h:x.length<=10000):PF X (.Constant (.str x) j pos) zir:=fun _ _ _ H _ I hk=>Calls.Constant_str ⟨x,_,H,rfl,h,I.tok _,hk⟩
theorem Wr(he:PE X e te):PF X (.FormattedValue e (-1) none pos) (zjk te):=by
 intro pins s σ H k I h;refine FormattedValue_plain (thn (he pins s σ H _ I h) fun v s1 ⟨x,H1,I1,r1,ok,hk⟩=>?_);rcases ok with ⟨i,rfl,hi⟩|⟨y,rfl,hy⟩
 ·obtain⟨t,rfl⟩:=r1;refine formatField_int_small hi ⟨_,_,H1,rfl,?_,I1.tok _,hk⟩;have:=int_text_length_le (k:=1920) ⋯ hi;show (Str.ofString (toString i)).length<=10000;rw[PySem.ofString_length];omega
 ·obtain⟨t,rfl⟩:=r1;exact formatField_str (fun t' tk=>⟨y,t',H1,rfl,hy,I1.tok tk,hk⟩) (by rw[sizeLine_eq];omega)
theorem Wy:PFs X [] zir:=fun _ _ _ H _ _ I hz hk=>⟨by simpa using hz,H,I,hk⟩
theorem Zx(h1:PF X e t)(h2:PFs X es u)(hs:evalEach (e :: es) X.env=eval e X.env :: evalEach es X.env:=by rfl):PFs X (e :: es) (zis t u):=by
 intro pins s σ H k acc I hz h;rw[hs];refine thn (h1 pins s σ H _ I h) fun v s1 ⟨y,tk,H1,e1,hy,I1,hk⟩=>⟨y,tk,e1,?_,?_⟩
 ·rw[strLen_append];rw[zs8] at hz;omega
 ·exact h2 pins s1 σ H1 k _ I1 (by rw[strLen_append];rw[zs8] at hz;omega) hk
theorem Wz(h:PFs X (e :: e' :: es) t)(hl:es.length<=100):PE X (.JoinedStr (e :: e' :: es) pos) (zit t):=by
 intro pins s σ H Q I h';refine wpAny_JoinedStr ?_;have q:=h pins s σ H _ Str.empty I (by rw[sizeLine_eq];simp only[zs8];have:Str.empty.length=0:=rfl;omega) h';have mono:∀ (ps:List (Sem Value)) (acc:Str) (Q1 Q2:Str->Shared->Prop) (s:Shared),(∀ o s,Q1 o s->Q2 o s)->Joins (model X.prog X.w) X.A X.xe ps acc Q1 s->Joins (model X.prog X.w) X.A X.xe ps acc Q2 s:=by
  intro ps
  induction ps with
  | nil=>intro acc Q1 Q2 s m z;exact m _ _ z
  | cons p r ih=>intro acc Q1 Q2 s m z;exact thn z fun v s1 ⟨y,tk,e1,hz,z1⟩=>⟨y,tk,e1,hz,ih _ _ _ _ m z1⟩
 refine mono _ _ _ _ _ (fun out s1 ⟨hz,H1,I1,hk⟩=>⟨hz,.str out,H1,I1.tok _,⟨_,rfl⟩,hk out⟩) q
end
section
variable{X:Cx}
theorem Bn(hc:X.calm=true):Ui X (.type "list") (fun xs H Q=>∃ a kvs,xs=[.ref a]/\Rd H a (.dK kvs)/\∀ l,H l=none->Q (.ref l) (upd H l (.lst (kvs.map fun kv=>kV kv.1)))):=by
 intro pins s σ H xs us Q I r h;obtain⟨a,kvs,rfl,ha,q⟩:=h;obtain⟨u,rfl,ru⟩:=Oz r;cases (show u=Value.ref a from ru);obtain⟨hz,lo,vs,kv,o,es,ep,e1,e2⟩:=Rx I.hok ha;have hl:kvs.length=vs.length:=KV.length kv;refine PySem.W.kdl_call (PySem.W.kdl_dict (knd:=Yo X.prog X.w) (kvs:=vs) (ep:=ep) lo) (I.ok.hd hc) ⟨o,es,e1,e2⟩ (by rw[<- hl];exact hz) fun h' tk acc c hk hS hacc=>?_;have hf:H s.heap.objs.size=none:=I.hok.fresh (zst _);refine⟨.ref s.heap.objs.size,upd H s.heap.objs.size (.lst (kvs.map fun kv=>kV kv.1)),I.laid (t':=tk) hk (zst _) ?_,rfl,q _ hf⟩;obtain⟨accl⟩:=acc;refine⟨by rw[zsk];exact hz,accl,c,?_,hS⟩;have hlen:accl.length=vs.length:=by have:=hacc.1;simpa using this
 refine Mx (by rw[zsk,hl,hlen]) fun j x u hx hu=>?_;obtain⟨k,y,hk1,hk2⟩:=hacc.2 j u (by simpa using hu);have ek:=congrArg (·[j]?) (KV.keys kv);simp only[zsr,hk1,ztr] at ek;rw[zsr] at hx;cases hkv:kvs[j]? with
 | none=>rw[hkv] at hx;cases hx
 | some p =>
   rw[hkv] at hx ek;have e1:kV p.1=x:=Option.some.inj hx;have e2:p.1=k:=Option.some.inj ek;rw[<- e1,e2];rcases Yx hk2 with ⟨i,t,rfl,rfl⟩|⟨z,t,rfl,rfl⟩
   ·exact⟨t,rfl⟩
   ·exact⟨t,rfl⟩
end
inductive Dt where
 | non|bl (b:Bool)|int (i:Int)|str (x:Str)|lst (xs:List Dt)|tup (xs:List Dt)
mutual
inductive Is(K:Frag)(H:Hp):V->Dt->Prop where
 | non:Is K H .non .non
 | bl (b:Bool):Is K H (.bl b) (.bl b)
 | int (i:Int):Is K H (.int i) (.int i)
 | str (x:Str):Is K H (.str x) (.str x)
 | lst {a:Addr} {xs:List V} {ds:List Dt} (h:SqL K H a xs) (hs:X7 K H xs ds):Is K H (.ref a) (.lst ds)
 | tup {a:Addr} {xs:List V} {ds:List Dt} (h:SqT K H a xs) (hs:X7 K H xs ds):Is K H (.ref a) (.tup ds)
inductive X7(K:Frag)(H:Hp):List V->List Dt->Prop where
 | nil:X7 K H [] []
 | cons {x:V} {xs:List V} {d:Dt} {ds:List Dt} (h:Is K H x d) (t:X7 K H xs ds):X7 K H (x :: xs) (d :: ds)
end
mutual
def eqD:Dt->Dt->Bool
 | .non,.non=>true
 | .bl a,.bl b=>a == b
 | .bl a,.int b=>(if a then 1 else 0) == b
 | .int a,.bl b=>a == (if b then 1 else 0)
 | .int a,.int b=>a == b
 | .str a,.str b=>a == b
 | .lst xs,.lst ys=>Q7 xs ys
 | .tup xs,.tup ys=>Q7 xs ys
 | _,_=>false
def Q7:List Dt->List Dt->Bool
 | [],[]=>true
 | x :: xs,y :: ys=>eqD x y&&Q7 xs ys
 | _,_=>false
end
mutual
theorem zc7:∀ d:Dt,eqD d d=true
 | .non=>by simp[eqD]
 | .bl _=>by simp[eqD]
 | .int _=>by simp[eqD]
 | .str _=>by simp[eqD]
 | .lst xs=>by rw[eqD];exact Nz xs
 | .tup xs=>by rw[eqD];exact Nz xs
theorem Nz:∀ ds:List Dt,Q7 ds ds=true
 | []=>by simp[Q7]
 | d :: ds=>by rw[Q7,zc7 d,Nz ds];rfl
end
mutual
def zjl:Dt->Nat
 | .lst xs=>zc8 xs+1
 | .tup xs=>zc8 xs+1
 | _=>0
def zc8:List Dt->Nat
 | []=>0
 | d :: ds=>max (zjl d) (zc8 ds)
end
section
variable{X:Cx}{pins:List (Addr×Obj)}{σ:St}{H:Hp}{s:Shared}
theorem Rz(I:Inv X pins σ H s)(h1:SqL X.K H a xs)(h2:SqT X.K H a ys):False:=by
 obtain⟨_,_,⟨o,n,e1,e2,_⟩,_⟩:=I.list h1;obtain⟨_,_,⟨o',e1',e2',_⟩,_⟩:=I.tuple h2;rw[e1] at e1';cases e1';exact absurd (Value.type.inj (e2.symm.trans e2')) ⋯
mutual
theorem Is.inj(I:Inv X pins σ H s):∀ {x:V} {d d':Dt},Is X.K H x d->Is X.K H x d'->d=d'
 | _,_,_,.non,.non=>rfl
 | _,_,_,.bl _,.bl _=>rfl
 | _,_,_,.int _,.int _=>rfl
 | _,_,_,.str _,.str _=>rfl
 | _,_,_,.lst h hs,.lst h' hs'=>by
   have e:=I.list_inj h h';subst e;rw[X7.inj I hs hs']
 | _,_,_,.tup h hs,.tup h' hs'=>by
   have e:=I.tuple_inj h h';subst e;rw[X7.inj I hs hs']
 | _,_,_,.lst h _,.tup h' _=>(Rz I h h').elim
 | _,_,_,.tup h _,.lst h' _=>(Rz I h' h).elim
theorem X7.inj(I:Inv X pins σ H s):∀ {xs:List V} {ds ds':List Dt},X7 X.K H xs ds->X7 X.K H xs ds'->ds=ds'
 | _,_,_,.nil,.nil=>rfl
 | _,_,_,.cons h t,.cons h' t'=>by rw[Is.inj I h h',X7.inj I t t']
end
mutual
def toPy:Dt->PyData
 | .non=>.none
 | .bl b=>.bool b
 | .int i=>.int i
 | .str x=>.str x
 | .lst xs=>.list (Xz xs)
 | .tup xs=>.tuple (Xz xs)
def Xz:List Dt->List PyData
 | []=>[]
 | d :: ds=>toPy d :: Xz ds
end
mutual
theorem O4:∀ d e:Dt,PyData.eqv (toPy d) (toPy e)=eqD d e
 | .non,e=>by cases e<;>simp[toPy,eqD,PyData.eqv]
 | .bl _,e=>by cases e<;>simp[toPy,eqD,PyData.eqv]
 | .int _,e=>by cases e<;>simp[toPy,eqD,PyData.eqv]
 | .str _,e=>by cases e<;>simp[toPy,eqD,PyData.eqv]
 | .lst xs,.lst ys=>by rw[toPy,toPy,PyData.eqv,eqD];exact N0 xs ys
 | .tup xs,.tup ys=>by rw[toPy,toPy,PyData.eqv,eqD];exact N0 xs ys
 | .lst _,.non=>by simp[toPy,eqD,PyData.eqv]
 | .lst _,.bl _=>by simp[toPy,eqD,PyData.eqv]
 | .lst _,.int _=>by simp[toPy,eqD,PyData.eqv]
 | .lst _,.str _=>by simp[toPy,eqD,PyData.eqv]
 | .lst _,.tup _=>by simp[toPy,eqD,PyData.eqv]
 | .tup _,.non=>by simp[toPy,eqD,PyData.eqv]
 | .tup _,.bl _=>by simp[toPy,eqD,PyData.eqv]
 | .tup _,.int _=>by simp[toPy,eqD,PyData.eqv]
 | .tup _,.str _=>by simp[toPy,eqD,PyData.eqv]
 | .tup _,.lst _=>by simp[toPy,eqD,PyData.eqv]
theorem N0:∀ ds es:List Dt,PyData.eqvAll (Xz ds) (Xz es)=Q7 ds es
 | [],[]=>by simp[Xz,Q7,PyData.eqvAll]
 | [],_ :: _=>by simp[Xz,Q7,PyData.eqvAll]
 | _ :: _,[]=>by simp[Xz,Q7,PyData.eqvAll]
 | d :: ds,e :: es=>by rw[Xz,Xz,PyData.eqvAll,Q7,O4 d e,N0 ds es]
end
mutual
theorem Is.reads(I:Inv X pins σ H s):∀ {d:Dt} {x:V} {u:Value},Is X.K H x d->RelV x u->∃ as,Reads s.heap u (toPy d) as
 | _,_,_,.non,r=>by cases r;exact⟨_,.none⟩
 | _,_,_,.bl b,r=>by cases r;exact⟨_,.bool b⟩
 | _,_,_,.int i,r=>by obtain⟨t,rfl⟩:=r;exact⟨_,.int i t⟩
 | _,_,_,.str i,r=>by obtain⟨t,rfl⟩:=r;exact⟨_,.str i t⟩
 | _,_,_,.lst h hs,r=>by
   cases r;obtain⟨its,r1,⟨o,n',e1,e2,e3,e4⟩,_⟩:=I.list h;obtain⟨as,q⟩:=X7.reads I hs r1;rw[toPy];exact⟨_,.list e1 e2 e4 (by simpa using q)⟩
 | _,_,_,.tup h hs,r=>by
   cases r;obtain⟨its,r1,⟨o,e1,e2,n',e4⟩,_⟩:=I.tuple h;obtain⟨as,q⟩:=X7.reads I hs r1;rw[toPy];exact⟨_,.tuple e1 e2 e4 (by simpa using q)⟩
theorem X7.reads(I:Inv X pins σ H s):∀ {ds:List Dt} {xs:List V} {us:List Value},X7 X.K H xs ds->Vals xs us->∃ as,ReadsAll s.heap us (Xz ds) as
 | _,_,_,.nil,r=>by cases r;exact⟨_,.nil⟩
 | _,_,_,.cons h t,r=>by
   cases r with
   | cons r1 r2 =>
     obtain⟨as,q1⟩:=Is.reads I h r1;obtain⟨bs,q2⟩:=X7.reads I t r2;exact⟨_,.cons q1 q2⟩
end
def shD(d:Dt):Prop:=SeqAt.shaped (toPy d)=true
inductive zc9(K:Frag)(neg:Bool)(x:V)(y:V)(H:Hp)(Q:VK):Prop where
 | mk(d)(e)(_:Is K H x d)(_:Is K H y e)(_:shD d)(_:shD e)(_:Q (.bl (if neg then !eqD d e else eqD d e)) H)
theorem zg6(hu:X.A.units+64<cLine):OpR X (compareOp .Eq) (zc9 X.K false):=by
 intro pins s σ H x y v u Q I rx ry h;obtain⟨d,e,h1,h2,s1,s2,q⟩:=h;obtain⟨as,r1⟩:=h1.reads I rx;obtain⟨bs,r2⟩:=h2.reads I ry;exact eq_dataH r1 r2 s1 s2 hu (by rw[O4];exact⟨.bl _,H,I,rfl,q⟩)
theorem zg7(hu:X.A.units+64<cLine):OpR X (compareOp .NotEq) (zc9 X.K true):=by
 intro pins s σ H x y v u Q I rx ry h;obtain⟨d,e,h1,h2,s1,s2,q⟩:=h;obtain⟨as,r1⟩:=h1.reads I rx;obtain⟨bs,r2⟩:=h2.reads I ry;exact ne_dataH r1 r2 s1 s2 hu (by rw[O4];exact⟨.bl _,H,I,rfl,q⟩)
end
mutual
theorem Is.same{K:Frag}{H H':Hp}(e:Same H H'):∀ {d:Dt} {x:V},Is K H x d->Is K H' x d
 | _,_,.non=>.non
 | _,_,.bl b=>.bl b
 | _,_,.int i=>.int i
 | _,_,.str i=>.str i
 | _,_,.lst h hs=>.lst (e.seq h) (X7.same e hs)
 | _,_,.tup h hs=>.tup (by
   rcases h with (h|⟨o,h⟩)|h
   ·exact .inl (.inl (e _ _ h))
   ·exact .inl (.inr ⟨o,e _ _ h⟩)
   ·exact .inr h) (X7.same e hs)
theorem X7.same{K:Frag}{H H':Hp}(e:Same H H'):∀ {ds:List Dt} {xs:List V},X7 K H xs ds->X7 K H' xs ds
 | _,_,.nil=>.nil
 | _,_,.cons h t=>.cons (Is.same e h) (X7.same e t)
end
section
variable{P:Program}{w:World}{K:Frag}{mg:Str->Option Value}{base:Heap}{x m:Str}{k j:Nat}{ps:List Str}{sp:Sp}{C:Addr}
def Z4(P:Program)(w:World)(K:Frag)(mg:Str->Option Value)(base:Heap)(x:Str)(k:Nat)(ps:List Str)(sp:Sp):Prop :=
 ∃ (f:Addr) (fd:FuncData),FnOk P w K mg base (CX1 P w) k f fd ps sp/\mg x=some (.ref f)/\PySem.W.keepIn K (.ref f)=true/\T8 K fd ps []
def Zu(P:Program)(w:World)(K:Frag)(mg:Str->Option Value)(base:Heap)(C:Addr)(m:Str)(k:Nat)(ps:List Str)(sp:Sp):Prop :=
 ∃ (f:Addr) (fd:FuncData),FnOk P w K mg base (CX1 P w) k f fd ps sp/\zcn K C m f/\T8 K fd ps []
def Tt(P:Program)(w:World)(K:Frag)(mg:Str->Option Value)(base:Heap)(x:Str)(C:Addr)(k:Nat)(ps:List Str)(sp:Sp):Prop :=
 ∃ (f:Addr) (fd:FuncData),FnOk P w K mg base (CX1 P w) k f fd ps sp/\Mk K C f/\mg x=some (.ref C)/\T8 K fd ps []
theorem Dc:Wq (CX1 P w) X E0:=fun _ _ _ _ _ _ _ h=>by obtain⟨_,_,_,_,_,_,_,_,_,_,z⟩:=h;exact z.elim
structure zjt(K:Frag)(mg:Str->Option Value)(x:Str)(st:Stmt)(f:Addr)(fd:FuncData):Prop where
 fn:Fun K x x st f fd
 nm:mg x=some (.ref f)
end
section
variable{X:Cx}{k:Nat}{C:Addr}{ps:List Str}{sp:Sp}{E:XK}{x m:Str}{p pos apos:Pos}{e o:Expr}{es:List Expr}{ta:TE}{t:TA}
theorem Dd(D:Z4 X.prog X.w X.K X.mg X.base x k ps sp)(hr:Wv k X.A)(hx:Wq (CX1 X.prog X.w) X E)(hg:Gl X x)(ha:PA X (e :: es) t)(hdb:(x == ("__debug__":Str))=false:=by decide)
  (he:starEach (e :: es) X.env=(false,eval e X.env) :: starEach es X.env:=by rfl) (hpl:(backTo pos (starEach es X.env)).any (·.1)=false:=by rfl):PE X (.Call (.Name x p) (e :: es) [] pos) (zco sp [] E t):=by
 obtain⟨f,fd,F,hm,kp,b⟩:=D;exact zep F hr hg hm kp b .nil hx ha hdb he hpl
theorem Xd(he:PE X o ta)(c:Cls X.K C)(M:Zu X.prog X.w X.K X.mg X.base C m k ps sp)(hr:Wv k X.A)(hx:Wq (CX1 X.prog X.w) X E)(ha:PA X (e :: es) t)
  (hst:starEach (e :: es) X.env=(false,eval e X.env) :: starEach es X.env:=by rfl) (hpl:(backTo pos (starEach es X.env)).any (·.1)=false:=by rfl)
  (ht:eval (.Call (.Attribute o m apos) (e :: es) [] pos) X.env=(do
   let ov <- eval o X.env
   standAt apos.atName
   let (f,first) <- holding [ov] (getMethod ov m pl)
   callWith pos f first (backTo pos (starEach (e :: es) X.env)) (backToKw pos (keywordEach [] X.env))):=by rfl):PE X (.Call (.Attribute o m apos) (e :: es) [] pos) (Ao C m sp [] E ta t):=by
 obtain⟨f,fd,F,hm,b⟩:=M;exact zeq he c hm F hr b .nil hx ha hst hpl ht
theorem Yi(he:PE X o ta)(c:Cls X.K C)(M:Zu X.prog X.w X.K X.mg X.base C m k ps sp)(hr:Wv k X.A)(hx:Wq (CX1 X.prog X.w) X E)
  (ht:eval (.Call (.Attribute o m apos) [] [] pos) X.env=(do
   let ov <- eval o X.env
   standAt apos.atName
   let (f,first) <- holding [ov] (getMethod ov m pl)
   callWith pos f first (backTo pos (starEach [] X.env)) (backToKw pos (keywordEach [] X.env))):=by rfl):PE X (.Call (.Attribute o m apos) [] [] pos) (Ao C m sp [] E ta Ba):=by
 obtain⟨f,fd,F,hm,b⟩:=M;exact zcp he c hm F hr b .nil hx ht
theorem Fp(M:Tt X.prog X.w X.K X.mg X.base x C k ps sp)(hr:Wv (k+1) X.A)(hx:Wq (CX1 X.prog X.w) X E)(hg:Gl X x)(ha:PA X (e :: es) t)(hdb:(x == ("__debug__":Str))=false:=by decide)
  (he:starEach (e :: es) X.env=(false,eval e X.env) :: starEach es X.env:=by rfl) (hpl:(backTo pos (starEach es X.env)).any (·.1)=false:=by rfl):PE X (.Call (.Name x p) (e :: es) [] pos) (Ap C sp [] E t):=by
 obtain⟨f,fd,F,mk,hm,b⟩:=M;exact zer mk F hr hg hm b .nil hx ha hdb he hpl
theorem A0(M:Tt X.prog X.w X.K X.mg X.base x C k ps sp)(hr:Wv (k+1) X.A)(hx:Wq (CX1 X.prog X.w) X E)(hg:Gl X x)(hdb:(x == ("__debug__":Str))=false:=by decide):PE X (.Call (.Name x p) [] [] pos) (Ap C sp [] E Ba):=by
 obtain⟨f,fd,F,mk,hm,b⟩:=M;exact zcq mk F hr hg hm b .nil hx hdb
theorem Wb(hg:Gl X x)(hm:∃ t,X.mg x=some (.int i t))(hd:(x == ("__debug__":Str))=false:=by decide):PE X (.Name x pos) (tC (.int i)):=by
 obtain⟨t,hm⟩:=hm;exact zej hg hm ⟨t,rfl⟩ hd
end
inductive ziu(te:TE)(D:Ox)(σ:L2.St)(x:V)(H1:Hp):Prop where
 | mk(l)(xs)(_:x=.ref l)(_:H1 l=some (.lst xs))(_:te σ H1 fun y H2=>∃ ys,H2 l=some (.lst ys)/\ys.length<sizeLine/\D.nx σ (upd H2 l (.lst (ys++[y]))))
def ziv(to te:TE):TS:=fun D σ H=>to σ H fun x H1=>ziu te D σ x H1
theorem Yk(ho:PE X o to)(he:PE X e te)(hbase:attributeBase o "append" X.env (eval o X.env)=eval o X.env:=by rfl)
  (hst:starEach [e] X.env=[(false,eval e X.env)]:=by rfl)
  (hline:(apos.endLine == cpos.line)=true:=by rfl) (hs:swapsWith (.Call (.Attribute o "append" apos) [e] [] cpos) none pos.line X.env=pure false:=by rfl):PS X (.Expr (.Call (.Attribute o "append" apos) [e] [] cpos) pos) (ziv to te):=by
 intro pins s σ H D I h;refine wpAny_Expr ?_ I.quiet;refine wpAny_Call_method_late hbase (by rw[hst];rfl) hline rfl (thn (ho pins s σ H _ I h) fun v s1 ⟨x,H1,I1,r1,l,xs,e1,hl,q1⟩=>?_);subst e1;obtain⟨h1,h2⟩:=Bi (T:="list") I1 r1 (.inl ⟨rfl,_,SqL.of hl⟩);refine⟨"list","list.append",PySem.F.plainAttrs_list,PySem.F.slot_list_append,PySem.F.type_list_append,h1,h2,?_⟩;rw[hst];refine Calls.callWith_builtin rfl (Calls.evalArgs_plain ?_);refine Calls.spliced_cons (thn (he pins s1 σ H1 _ I1 q1) fun u s2 ⟨y,H2,I2,r2,ys,hl2,hz,q2⟩=>Calls.spliced_nil ?_);refine thn (za4 pins s2 σ H2 (.ref l) [y] v [u] (fun v H3=>v=.non/\D.nx σ H3) I2 r1 (.cons r2 .nil) ⟨l,ys,y,rfl,rfl,hl2,hz,rfl,q2⟩) fun z s3 ⟨zv,H3,I3,rz,ez,q3⟩=>?_;subst ez;cases rz;exact⟨σ,H3,I3,q3⟩
section
variable{X:Cx}{K:Frag}
theorem zda(hK:X.K=K):IxR X (Ik K):=hK▸ze1
theorem ze6(hK:X.K=K):IxR X (zgy K):=hK▸zgz
theorem Iq(hK:X.K=K):Ui X (.builtin "len") (fun xs H Q=>∃ p ys,xs=[.ref p]/\(SqL K H p ys\/SqT K H p ys)/\Q (.int ys.length) H):=hK▸Fl
theorem Xc(hK:X.K=K):Ui X (.type "list") (fun xs H Q=>∃ p ys,xs=[.ref p]/\(SqL K H p ys\/SqT K H p ys)/\∀ l,H l=none->Q (.ref l) (upd H l (.lst ys))):=hK▸Fm
theorem Up(hK:X.K=K):Ui X (.builtin "isinstance") (ziq K):=hK▸zc5
theorem Ky(hK:X.K=K):OpR X (compareOp .In) (rIn K false):=hK▸za3
theorem Pj(hK:X.K=K):OpR X (compareOp .NotIn) (rIn K true):=hK▸Fj
theorem ze7(hK:X.K=K)(hu:X.A.units+64<cLine):OpR X (compareOp .Eq) (zc9 K false):=hK▸zg6 hu
theorem ze8(hK:X.K=K)(hu:X.A.units+64<cLine):OpR X (compareOp .NotEq) (zc9 K true):=hK▸zg7 hu
theorem De(hK:X.K=K):SlR X (zik K):=hK▸ze2
variable{o e l tg value a:Expr}{f:Str}{pos pos':Pos}{ta tv tl:TE}{es:List Expr}{k n:Nat}{t:TGs}
theorem Zn(hK:X.K=K)(he:PE X e ta)(hb:attributeBase e f X.env (eval e X.env)=eval e X.env):PE X (.Attribute e f pos) (zh6 K ta f):=hK▸zgm he hb
theorem Y1(hK:X.K=K)(ha:PE X o ta)(hv:PE X value tv)(hs:swapsWith value (some (.Attribute o f pos')) pos.line X.env=pure false):PS X (.Assign [.Attribute o f pos'] value pos) (zh8 K ta tv f):=hK▸zgn ha hv hs
theorem Yj(hK:X.K=K)(hl:PE X l tl):PI X tg l (zfu K tl):=hK▸zek hl
theorem Wm(hK:X.K=K)(hc:X.calm=true)(h:PGs X es t)(hn:(assignEach es X.env).length=n:=by rfl)(hst:(assignEach es X.env).findIdx? (·.1)=none:=by rfl):PG X (.Tuple es k pos) (zh0 K n t):=hK▸zgh hc h hn hst
theorem Gn(hK:X.K=K)(ha:PE X a ta)(he:∀ whole,isTrue a X.env whole=(do let v <- whole;standAt a.pos;holding [v] (truthy v))):PT X a (fun σ H Q=>ta σ H fun x H'=>∃ k,TruV K x H' k/\Q k H'):=hK▸zck ha he
end
section
variable{X:Cx}{K:Frag}
theorem Kz(hK:X.K=K):Ui X (.type "tuple") (fun xs H Q=>∃ p ys,xs=[.ref p]/\((SqL K H p ys/\∀ l,H l=none->Q (.ref l) (upd H l (.tup ys)))\/(SqT K H p ys/\Q (.ref p) H))):=hK▸Im
end
end L2
namespace G
open PySem PySem.Spec PyProof.Rows L2
theorem sz1:1<=sizeLine:=by decide
theorem sz2:2<=sizeLine:=by decide
theorem sz3:3<=sizeLine:=by decide
theorem sz4:4<=sizeLine:=by decide
theorem szN(h:n<=1000):n<=sizeLine:=Nat.le_of_lt (Vy h)
theorem itD{p:Prop}[Decidable p]{A B:Prop}(h1:p->A)(h2:¬ p->B):if decide p=true then A else B:=by
 by_cases h:p
 ·rw[zss h,if_pos rfl];exact h1 h
 ·rw[zsw h,if_neg ⋯];exact h2 h
theorem itN{p:Prop}[Decidable p]{A B:Prop}(h1:¬ p->A)(h2:p->B):if (!decide p)=true then A else B:=by
 by_cases h:p
 ·rw[zss h];exact iteF (h2 h)
 ·rw[zsw h];exact iteT (h1 h)
theorem itB{b:Bool}{A B:Prop}(h1:b=true->A)(h2:b=false->B):if b=true then A else B:=by
 cases b
 ·exact iteF (h2 rfl)
 ·exact iteT (h1 rfl)
theorem R0:decide (V.int i=V.int j)=decide (i=j):=by
 by_cases h:i=j
 ·subst h;simp
 ·rw[zsw h,zsw (fun z=>h (V.int.inj z))]
theorem itV{i j:Int}{A B:Prop}(h1:i=j->A)(h2:¬ i=j->B):if decide (V.int i=V.int j)=true then A else B:=by
 rw[R0];exact itD h1 h2
theorem Zf(h:H p=none):Same H (upd H p o):=fun b u e=>by rw[Zh (Zg e h)];exact e
def Yr(i:Int):Prop:=i.natAbs.log2<1920
theorem Yh(h:i.natAbs<=10 ^ 60):Yr i:=by
 unfold Yr;by_cases h0:i.natAbs=0
 ·rw[h0];decide
 ·exact(Nat.log2_lt h0).mpr (zt0 h ⋯)
theorem Z7(h:-1000<=i)(h':i<=1000):Yr i:=Yh (zs2 (show i.natAbs<=1000 by omega) ⋯)
theorem Wx{xs:List Int}{i:Int}(h0:0<=i)(h1:i<xs.length):atI (xs.map V.int) i=some (.int (xs.getD i.toNat 0)):=by
 obtain⟨k,rfl⟩:∃ k:Nat,i=k:=⟨i.toNat,by omega⟩;refine Z9 ?_;have hk:k<xs.length:=by omega
 rw[zsr,zsl hk,ztr,zs0,ztc,zsl hk];rfl
theorem O5(h1:∀ Q:Bool->Hp->Prop,Q b H->t σ H Q)(h2:∀ Q:Bool->Hp->Prop,Q c H->u σ H Q)(Q:Bool->Hp->Prop)(h:Q (b||c) H):tOr t u σ H Q:=by
 refine h1 _ ?_;cases b with
 | true=>exact h
 | false=>exact h2 _ h
theorem Ss(h1:∀ Q:Bool->Hp->Prop,Q b H->t σ H Q)(h:if b=true then A D σ H else B D σ H):zat t A B D σ H:=h1 _ h
theorem Fq(h:A { D with nx:=B D } σ H):Z0 A B D σ H:=h
theorem Df(J:L2.St->Hp->Prop)(hc:∀ Q:Bool->Hp->Prop,Q b H->c σ H Q)(h1:b=true->∀ N:L2.St->Hp->Prop,(∀ σ' H',J σ' H'->N σ' H')->t { D with nx:=N } σ H)
  (h2:b=false->∀ N:L2.St->Hp->Prop,(∀ σ' H',J σ' H'->N σ' H')->e { D with nx:=N } σ H) (h3:∀ σ' H',J σ' H'->u D σ' H'):Z0 (zat c t e) u D σ H:=by
 refine hc _ ?_;cases b with
 | true=>rw[if_pos rfl];exact h1 rfl _ h3
 | false=>rw[if_neg ⋯];exact h2 rfl _ h3
theorem Z1(h:D.nx σ H):zcf D σ H:=h
theorem Su{K:Frag}{C:Addr}{v:Value}{r:Bool}(e:PySem.W.mroIn K C v=some r):(PySem.W.clsIn K C).isSome=true:=by
 obtain⟨cd,h,_⟩:=Option.bind_eq_some_iff.mp e;rw[h];rfl
theorem zg8(K:Frag):PySem.W.kitOne K (.type "int") (.type "int")=some true:=rfl
theorem zg9(K:Frag):PySem.W.kitOne K (.type "int") (.type "bool")=some false:=by with_unfolding_all rfl
theorem Bo(K:Frag):PySem.W.kitOne K (.type "list") (.type "list")=some true:=rfl
theorem zha(K:Frag):PySem.W.kitOne K (.type "tuple") (.type "tuple")=some true:=rfl
inductive Yb(H:Hp):List V->List (List V)->Prop where
 | nil:Yb H [] []
 | cons {t:Addr} {r:List V} {ts:List V} {R:List (List V)} (h:H t=some (.tup r)) (q:Yb H ts R):Yb H (.ref t :: ts) (r :: R)
theorem Yb.mono(k:∀ t xs,H t=some (.tup xs)->H' t=some (.tup xs)):∀ {ts:List V} {R:List (List V)},Yb H ts R->Yb H' ts R
 | _,_,.nil=>.nil
 | _,_,.cons h r=>.cons (k _ _ h) (Yb.mono k r)
theorem Yb.same(e:Same H H')(h:Yb H ts R):Yb H' ts R:=h.mono fun t xs q=>e _ _ q
theorem Yb.length:∀ {ts:List V} {R:List (List V)},Yb H ts R->ts.length=R.length
 | _,_,.nil=>rfl
 | _,_,.cons _ r=>by simp[Yb.length r]
theorem Yb.snoc(h:H t=some (.tup x)):∀ {ts:List V} {R:List (List V)},Yb H ts R->Yb H (ts++[.ref t]) (R++[x])
 | _,_,.nil=>.cons h .nil
 | _,_,.cons h' r=>.cons h' (Yb.snoc h r)
theorem Yb.get:∀ {ts:List V} {R:List (List V)} {i:Nat} {x:V},Yb H ts R->ts[i]?=some x->∃ t r,x=.ref t/\R[i]?=some r/\H t=some (.tup r)
 | _,_,_,_,.nil,e=>by simp at e
 | _,_,0,_,.cons h _,e=>by simp at e;subst e;exact⟨_,_,rfl,rfl,h⟩
 | _,_,i+1,x,.cons _ r,e=>by
   obtain⟨t,n,h1,h2,h3⟩:=Yb.get (i:=i) (x:=x) r (by simpa using e);exact⟨t,n,h1,by simpa using h2,h3⟩
theorem Yb.getR:∀ {ts:List V} {R:List (List V)} {i:Nat} {r:List V},Yb H ts R->R[i]?=some r->∃ t,ts[i]?=some (.ref t)/\H t=some (.tup r)
 | _,_,_,_,.nil,e=>by simp at e
 | _,_,0,_,.cons h _,e=>by simp at e;subst e;exact⟨_,rfl,h⟩
 | _,_,i+1,x,.cons _ r,e=>by
   obtain⟨t,h1,h2⟩:=Yb.getR (i:=i) (r:=x) r (by simpa using e);exact⟨t,by simpa using h1,h2⟩
inductive Fs(vs:List V)(H:Hp)(Q:VK)(_:XK):Prop where
 | mk(i)(_:vs=[.int i])(_:Q (.bl true) H)
def Ym(ns:List Int)(k:Nat):Int:=(ns[k]?).getD 0
inductive zbb(K:Frag)(vs:List V)(H:Hp)(Q:VK)(_:XK):Prop where
 | mk(b:Addr)(ns:List Int)(k:Nat)(_:vs=[.ref b,.int k])(_:SqL K H b (ns.map V.int))(_:Q (.int (Ym ns k)) H)
def zhb(c k:Int):Int:=(c*48271+k)%2147483647
def ziw(c k:Int):Int:=(zhb c k*69621+7*k)%2147483629
def zjm(c k:Int):Int:=(ziw c k*39373+zhb c k)%2147483587
def mixS(c k:Int):Int:=(zhb c k*2147483647+ziw c k)*2147483647+zjm c k
inductive A4(vs:List V)(H:Hp)(Q:VK)(_:XK):Prop where
 | mk(c)(k)(_:vs=[.int c,.int k])(_:Q (.int (mixS c k)) H)
def stp(c:Int):Int:=([1,2,5,10,100,500,998]:List Int).getD (c%7).toNat 0
def zbc(c:Int)(j:Nat):Int:=1+(c/7+stp c*(j:Int))%999
def My(c:Int)(many:Nat):List Int:=(List.range many).map (zbc c)
inductive K0(vs:List V)(H:Hp)(Q:VK)(_:XK):Prop where
 | mk(c:Int)(many:Nat)(_:vs=[.int c,.int many])(_:many<=1000)(_:∀ l H',H' l=some (.lst ((My c many).map V.int))->Same H H'->H l=none->Q (.ref l) H')
def Ft(c:Int):Int:=([1,2,5,10,50,97,98]:List Int).getD (c%7).toNat 0
def Gp(c:Int)(j:Nat):Int:=1+(c/7+Ft c*(j:Int))%99
def R1(c:Int)(many:Nat):List Int:=(List.range many).map (Gp c)
inductive A5(vs:List V)(H:Hp)(Q:VK)(_:XK):Prop where
 | mk(c:Int)(many:Nat)(_:vs=[.int c,.int many])(_:many<=1000)(_:∀ l H',H' l=some (.lst ((R1 c many).map V.int))->Same H H'->H l=none->Q (.ref l) H')
def oneV(x:V):Prop:=x=.non\/∃ i,x=.int i
inductive Fu(vs:List V)(H:Hp)(Q:VK)(_:XK):Prop where
 | mk(x)(_:vs=[x,x])(_:oneV x)(_:Q (.bl true) H)
inductive Gq(K:Frag)(vs:List V)(H:Hp)(Q:VK)(_:XK):Prop where
 | mk(b c:Addr)(xs:List V)(_:vs=[.ref b,.ref c])(_:H b=some (.tup xs))(_:SqT K H c xs)(_:(∀ x∈xs,oneV x))(_:xs.length<=1000)(_:Q (.bl true) H)
inductive Gs(K:Frag)(vs:List V)(H:Hp)(Q:VK)(_:XK):Prop where
 | mk(b c:Addr)(ts us:List V)(R:List (List V))(_:vs=[.ref b,.ref c])(_:H b=some (.lst ts))(_:SqL K H c us)(_:Yb H ts R)(_:Yb H us R)(_:(∀ r∈R,r.length<=1000/\∀ x∈r,oneV x))(_:R.length<=1000)(_:Q (.bl true) H)
inductive A7(K:Frag)(vs:List V)(H:Hp)(Q:VK)(_:XK):Prop where
 | mk(b:Addr)(ns:List Int)(_:vs=[.ref b])(_:SqL K H b (ns.map V.int))(_:ns.length<=63)(_:∀ H',Q (.bl true) H')
structure Row where
 h:Int
 g:Int
 d:Int
 w:Option Int
def oV:Option Int->V
 | none=>.non
 | some n=>.int n
def row4(r:Row):List V:=[.int r.h,.int r.g,.int r.d,oV r.w]
theorem zhc(o:Option Int):oneV (oV o):=by
 cases o with
 | none=>exact .inl rfl
 | some n=>exact .inr ⟨n,rfl⟩
theorem zhd{H:Hp}{ts:List V}{rs:List Row}{i:Nat}{x:V}(h:Yb H ts (rs.map row4))(e:ts[i]?=some x):∃ t r,x=.ref t/\rs[i]?=some r/\H t=some (.tup (row4 r)):=by
 obtain⟨t,r,h1,h2,h3⟩:=h.get e;rw[zsr] at h2;cases q:rs[i]? with
 | none=>rw[q] at h2;cases h2
 | some m=>rw[q] at h2;cases h2;exact⟨t,m,h1,rfl,h3⟩
def hit(n c:Int)(r:Row):Bool:=decide (r.w=some n)&&(decide (r.h=c)||decide (r.g=c))
def Fv(n c:Int)(Rs:List (List Row)):Nat×Nat:=Rs.foldl (fun p rs=>(p.1+1,if rs.any (hit n c) then p.1+1 else p.2)) (0,0)
def metS(Rs:List (List Row))(n c:Int):Nat:=(Fv n c Rs).2
theorem zdb(n c:Int)(Rs:List (List Row)):(Fv n c Rs).1=Rs.length:=by
 have h:∀ (Rs:List (List Row)) (p:Nat×Nat),(Rs.foldl (fun p rs=>(p.1+1,if rs.any (hit n c) then p.1+1 else p.2)) p).1=p.1+Rs.length:=fun Rs=>by
  induction Rs with
  | nil=>intro p;rfl
  | cons r Rs ih=>intro p;rw[List.foldl_cons,ih,zs8];simp only;omega
 have:=h Rs (0,0);unfold Fv;rw[this];simp
theorem zbd(Rs:List (List Row))(rs:List Row)(n c:Int):metS (Rs++[rs]) n c=if rs.any (hit n c) then Rs.length+1 else metS Rs n c:=by
 unfold metS;have e:Fv n c (Rs++[rs])=((Fv n c Rs).1+1,if rs.any (hit n c) then (Fv n c Rs).1+1 else (Fv n c Rs).2):=by
  unfold Fv;rw[List.foldl_append];rfl
 rw[e,zdb]
def Dg(kvs:List (List Key×V))(f:Int->Int->Nat):Prop:=∀ n c:Int,valV kvs [inl n,inl c]=if f n c=0 then none else some (.int (f n c))
inductive Sv(H:Hp):List V->List (List Row)->Prop where
 | nil:Sv H [] []
 | cons {t:Addr} {ts rs:List V} {r:List Row} {R:List (List Row)} (h:H t=some (.tup ts)) (q:Yb H ts (r.map row4)) (n:Sv H rs R):Sv H (.ref t :: rs) (r :: R)
theorem Sv.mono(k:∀ t xs,H t=some (.tup xs)->H' t=some (.tup xs)):∀ {ts:List V} {R:List (List Row)},Sv H ts R->Sv H' ts R
 | _,_,.nil=>.nil
 | _,_,.cons h q r=>.cons (k _ _ h) (q.mono k) (Sv.mono k r)
theorem Sv.length:∀ {ts:List V} {R:List (List Row)},Sv H ts R->ts.length=R.length
 | _,_,.nil=>rfl
 | _,_,.cons _ _ r=>by simp[Sv.length r]
theorem Sv.snoc(h:H t=some (.tup xs))(q:Yb H xs (x.map row4)):∀ {ts:List V} {R:List (List Row)},Sv H ts R->Sv H (ts++[.ref t]) (R++[x])
 | _,_,.nil=>.cons h q .nil
 | _,_,.cons h' q' r=>.cons h' q' (Sv.snoc h q r)
theorem Sv.getR:∀ {ts:List V} {R:List (List Row)} {i:Nat} {r:List Row},Sv H ts R->R[i]?=some r->∃ t xs,ts[i]?=some (.ref t)/\H t=some (.tup xs)/\Yb H xs (r.map row4)
 | _,_,_,_,.nil,e=>by simp at e
 | _,_,0,_,.cons h q _,e=>by simp at e;subst e;exact⟨_,_,rfl,h,q⟩
 | _,_,i+1,x,.cons _ _ r,e=>by
   obtain⟨t,xs,h1,h2,h3⟩:=Sv.getR (i:=i) (r:=x) r (by simpa using e);exact⟨t,xs,by simpa using h1,h2,h3⟩
def tot(Rs:List (List Row)):Nat:=(Rs.map List.length).sum
theorem zdc(Rs:List (List Row))(rs:List Row):tot (Rs++[rs])=tot Rs+rs.length:=by unfold tot;rw[zsq,List.sum_append];simp
structure Vu(C:Addr)(H:Hp)(p lr ld:Addr)(Rs:List (List Row)):Prop where
 at_:∃ dx,H p=some (.ins C dx [("rounds",.ref lr),("meetings",.ref ld)])
 rd:∃ rs,H lr=some (.lst rs)/\Sv H rs Rs
 mt:∃ kvs,H ld=some (.dT kvs)/\Dg kvs (metS Rs)/\kvs.length<=2*tot Rs
theorem Vu.same{C:Addr}{H H':Hp}{p lr ld:Addr}{Rs:List (List Row)}(h:Vu C H p lr ld Rs)(e:Same H H'):Vu C H' p lr ld Rs:=by
 obtain⟨⟨dx,h1⟩,⟨rs,h2,h3⟩,⟨kvs,h4,h5⟩⟩:=h;exact⟨⟨dx,e _ _ h1⟩,⟨rs,e _ _ h2,h3.mono fun t xs q=>e _ _ q⟩,⟨kvs,e _ _ h4,h5⟩⟩
theorem Vu.keep{C:Addr}{H H':Hp}{p lr ld:Addr}{Rs:List (List Row)}(h:Vu C H p lr ld Rs)(ep:∀ o,H p=some o->H' p=some o)(er:∀ o,H lr=some o->H' lr=some o)(ed:∀ o,H ld=some o->H' ld=some o)(et:∀ t xs,H t=some (.tup xs)->H' t=some (.tup xs)):Vu C H' p lr ld Rs:=by
 obtain⟨⟨dx,h1⟩,⟨rs,h2,h3⟩,⟨kvs,h4,h5⟩⟩:=h;exact⟨⟨dx,ep _ h1⟩,⟨rs,er _ h2,h3.mono et⟩,⟨kvs,ed _ h4,h5⟩⟩
theorem Sb:List.lookup ("rounds":Str) ([("rounds",V.ref x),("meetings",V.ref y)]:List (Str×V))=some (.ref x):=by simp only[ztk,beq_self_eq_true]
theorem R6:List.lookup ("meetings":Str) ([("rounds",V.ref x),("meetings",V.ref y)]:List (Str×V))=some (.ref y):=by
 have e:(("meetings":Str) == "rounds")=false:=by decide +kernel
 simp only[ztk,e,beq_self_eq_true]
theorem Mz{x y:Addr}{m:Str}(h:¬ m="rounds")(h':¬ m="meetings"):List.lookup m ([("rounds",V.ref x),("meetings",V.ref y)]:List (Str×V))=none:=by
 have e:(m == "rounds")=false:=zs5.mpr h;have e':(m == "meetings")=false:=zs5.mpr h';simp only[ztk,e,e',List.lookup_nil]
inductive A8(C:Addr)(vs:List V)(H:Hp)(Q:VK)(_:XK):Prop where
 | mk(p)(dx)(_:vs=[.ref p])(_:H p=some (.ins C dx []))(_:∀ lr ld H',Vu C H' p lr ld []->(∀ b o,H b=some o->b≠p->H' b=some o)->H lr=none->H ld=none->lr≠ld->Q .non H')
inductive N1(C:Addr)(vs:List V)(H:Hp)(Q:VK)(_:XK):Prop where
 | mk(p)(lr)(ld)(Rs)(_:vs=[.ref p])(_:Vu C H p lr ld Rs)(_:Q (.int (Rs.length:Nat)) H)
inductive A9(C N:Addr)(vs:List V)(H:Hp)(Q:VK)(E:XK):Prop where
 | mk(p)(lr)(ld)(Rs)(i)(_:vs=[.ref p,.int i])(_:Vu C H p lr ld Rs)(_:Yr i)(_:(i<1\/(Rs.length:Int)<i->E (.ref N) none H))(_:∀ (k:Nat) r,i=(k:Int)+1->Rs[k]?=some r->∀ l ts,H l=none->Yb H ts (r.map row4)->Q (.ref l) (upd H l (.lst ts)))
inductive zf5(C:Addr)(vs:List V)(H:Hp)(Q:VK)(_:XK):Prop where
 | mk(p)(lr)(ld)(Rs)(n)(c)(_:vs=[.ref p,.int n,.int c])(_:Vu C H p lr ld Rs)(_:∀ H',Same H H'->Q (.int (metS Rs n c:Nat)) H')
theorem Qw:([inl n,inl c]:List Key)=[inl n',inl c']↔n=n'/\c=c':=by
 constructor
 ·intro h;injection h with h1 h2;injection h2 with h2 _;exact⟨inl.inj h1,inl.inj h2⟩
 ·rintro⟨rfl,rfl⟩;rfl
theorem Dg.put(h:Dg kvs f)(n c:Int)(t:Nat)(ht:0<t):Dg (putK kvs [inl n,inl c] (.int t)) (fun n' c'=>if n'=n/\c'=c then t else f n' c'):=fun n' c'=>by
 rw[Ww];show _=if (if n'=n/\c'=c then t else f n' c')=0 then none else some (V.int ((if n'=n/\c'=c then t else f n' c':Nat):Int))
 by_cases e:n'=n/\c'=c
 ·rw[if_pos e,if_pos (Qw.mpr e),if_neg ⋯]
 ·rw[if_neg (fun z=>e (Qw.mp z)),if_neg e];exact h n' c'
def N2(Rs:List (List Row))(rs:List Row)(i:Nat)(n c:Int):Nat:=if (rs.take i).any (hit n c) then Rs.length+1 else metS Rs n c
theorem zbe(Rs:List (List Row))(rs:List Row):N2 Rs rs 0=metS Rs:=by funext n c;unfold N2;simp
theorem zdd(Rs:List (List Row))(rs:List Row):N2 Rs rs rs.length=metS (Rs++[rs]):=by funext n c;unfold N2;rw[zs7,zbd]
theorem Gu(e:rs[i]?=some r)(n c:Int):N2 Rs rs (i+1) n c=if hit n c r then Rs.length+1 else N2 Rs rs i n c:=by
 unfold N2;rw[ztv,e,List.any_append];cases h1:(rs.take i).any (hit n c)<;>cases h2:hit n c r<;>simp[h2]
theorem zbf(e:rs[i]?=some r)(h:r.w=none):N2 Rs rs (i+1)=N2 Rs rs i:=by
 funext n c
 rw[Gu e];have:hit n c r=false:=by unfold hit;rw[h];simp
 rw[this];simp
theorem zbg(e:rs[i]?=some r)(h:r.w=some w) :
  (fun n c=>if n=w/\c=r.g then Rs.length+1 else (fun n c=>if n=w/\c=r.h then Rs.length+1 else N2 Rs rs i n c) n c)=N2 Rs rs (i+1):=by
 funext n c
 rw[Gu e];unfold hit;rw[h];show (if n=w/\c=r.g then Rs.length+1 else if n=w/\c=r.h then Rs.length+1 else N2 Rs rs i n c)=_;by_cases h1:n=w
 ·subst h1;by_cases h2:r.g=c
  ·rw[if_pos ⟨rfl,h2.symm⟩,if_pos (by simp[h2])]
  ·rw[if_neg (fun z=>h2 z.2.symm)];by_cases h3:r.h=c
   ·rw[if_pos ⟨rfl,h3.symm⟩,if_pos (by simp[h3])]
   ·rw[if_neg (fun z=>h3 z.2.symm),if_neg (by simp[h2,h3])]
 ·rw[if_neg (fun z=>h1 z.1),if_neg (fun z=>h1 z.1),if_neg (by simp;intro z;exact absurd z.symm h1)]
theorem zde{C:Addr}{H1 H':Hp}{x dx lr ld:Addr}(hx:H1 x=none)(hdx:H1 dx=none)(ne:dx≠x)(k:∀ b o,upd (upd H1 dx (.own x)) x (.ins C dx []) b=some o->b≠x->H' b=some o)
  (h1:upd (upd H1 dx (.own x)) x (.ins C dx []) lr=none) (h2:upd (upd H1 dx (.own x)) x (.ins C dx []) ld=none):Same H1 H'/\H1 lr=none/\H1 ld=none:=by
 have fr:∀ {l:Addr},upd (upd H1 dx (.own x)) x (.ins C dx []) l=none->H1 l=none:=fun {l} q=>by
  have n1:l≠x:=fun z=>by rw[z,Zb] at q;cases q
  have n2:l≠dx:=fun z=>by rw[z,Zh ne,Zb] at q;cases q
  rw[Zh n1,Zh n2] at q;exact q
 refine⟨fun b o e=>k b o ?_ (Zg e hx),fr h1,fr h2⟩;rw[Zh (Zg e hx),Zh (Zg e hdx)];exact e
theorem zix{lr ld:Addr}:putF "meetings" (V.ref ld) [(("rounds":Str),V.ref lr)]=[(("rounds":Str),V.ref lr),(("meetings":Str),V.ref ld)]:=by
 show (if ("rounds":Str)="meetings" then _ else _)=_;rw[if_neg ⋯];rfl
theorem Ya(h:H l=none)(s:Same H H'):Same H (upd H' l o):=fun b u e=>by
 rw[Zh (Zg e h)];exact s b u e
theorem zdf(h:oneV x):Tf x=true:=by rcases h with rfl|⟨i,rfl⟩<;>rfl
inductive RLs(H:Hp):List Addr->List (List Row)->Prop where
 | nil:RLs H [] []
 | cons {l:Addr} {ts:List V} {ls:List Addr} {r:List Row} {R:List (List Row)} (h:H l=some (.lst ts)) (q:Yb H ts (r.map row4)) (n:RLs H ls R):RLs H (l :: ls) (r :: R)
theorem Ir(c:Int)(m:Nat):(R1 c m).length=m:=by unfold R1;rw[zsk,ztu]
theorem O6(c:Int)(m:Nat):(My c m).length=m:=by unfold My;rw[zsk,ztu]
structure L1(C:Addr)(H0:Hp)(p lr ld kR:Addr)(ls:List Addr)(R S:List (List Row))(H:Hp):Prop where
 base:Same H0 H
 led:Vu C H p lr ld R
 krs:H kR=some (.lst (ls.map V.ref))
 rls:RLs H ls S
 sep:∀ l∈ls,l≠lr/\l≠kR
structure C1(H0:Hp)(lr ld kR:Addr):Prop where
 fr:H0 lr=none
 fd:H0 ld=none
 fk:H0 kR=none
 rk:lr≠kR
theorem zbh(h1:∀ Q:Bool->Hp->Prop,Q b H->t σ H Q)(h2:∀ Q:Bool->Hp->Prop,Q c H->u σ H Q)(Q:Bool->Hp->Prop)(h:Q (b&&c) H):zgd t u σ H Q:=by
 refine h1 _ ?_;cases b with
 | true=>exact h2 _ h
 | false=>exact h
def Rj(Rs:List (List Row))(n c rest:Int):Bool:=decide ((if (0:Int)>(Rs.length:Nat)-rest then 0 else ((Rs.length:Nat):Int)-rest)<(metS Rs n c:Nat))
inductive Dh(C:Addr)(vs:List V)(H:Hp)(Q:VK)(_:XK):Prop where
 | mk(p)(lr)(ld)(Rs)(n)(c)(rest)(_:vs=[.int n,.int c,.ref p,.int rest])(_:Vu C H p lr ld Rs)(_:∀ H',Same H H'->Q (.bl (Rj Rs n c rest)) H')
def bw(b:Bool)(w:Str):List Str:=if b then [w] else []
def whyS(Rs:List (List Row))(n g c h gu d:Int)(o:Bool)(rest:Int):List Str :=
 bw o "away"++(bw (decide (g<d)) "grade"++(bw (decide (c=h)||decide (c=gu)) "club"++bw (Rj Rs n h rest||Rj Rs n gu rest) "met"))
inductive Gv(K:Frag)(C:Addr)(vs:List V)(H:Hp)(Q:VK)(_:XK):Prop where
 | mk(t1 t2 p lr ld:Addr)(Rs:List (List Row))(n g c h gu d rest:Int)(o:Bool)(_:vs=[.ref t1,.ref t2,.bl o,.ref p,.int rest])(_:H t1=some (.tup [.int n,.int g,.int c]))(_:H t2=some (.tup [.int h,.int gu,.int d]))(_:Vu C H p lr ld Rs)(_:∀ l H',H' l=some (.lst ((whyS Rs n g c h gu d o rest).map V.str))->Same H H'->H l=none->Q (.ref l) H')
def Gr(c:TT)(σ:L2.St)(H:Hp)(b:Bool):Prop:=∀ Q:Bool->Hp->Prop,(∀ H1,Same H H1->Q b H1)->c σ H Q
theorem Dj(h1:Gr t σ H b)(h2:∀ H1,Same H H1->Gr u σ H1 c):Gr (tOr t u) σ H (b||c):=fun Q h=>by
 refine h1 _ fun H1 s1=>?_;cases b with
 | true=>exact h H1 s1
 | false=>exact h2 H1 s1 _ fun H2 s2=>h H2 (s1.trans s2)
theorem Qx(h:∀ Q:Bool->Hp->Prop,Q b H->c σ H Q):Gr c σ H b:=fun Q q=>h Q (q H (Same.refl H))
theorem Th(hc:Gr c σ H b)(h0:H0 l=none)(s:Same H0 H)(hl:H l=some (.lst (xs.map V.str)))(hx:xs.length<=100)(hv:σ[i]?=some (some (.ref l)))
  (h3:∀ H',Same H0 H'->H' l=some (.lst ((xs++bw b w).map V.str))->(∀ b o,H b=some o->b≠l->H' b=some o)->u D σ H'):Z0 (zat c (ziv (zei i) (tC (.str w))) zcf) u D σ H:=by
 refine hc _ fun H1 s1=>?_;have hl1:=s1 _ _ hl;cases b with
 | true =>
   rw[if_pos rfl];refine⟨_,hv,l,_,rfl,hl1,_,hl1,Vy (by rw[zsk];omega),?_⟩;refine h3 _ (Ya h0 (s.trans s1)) ?_ fun b o e n=>by rw[Zh n];exact s1 _ _ e
   rw[Zb,zsq];rfl
 | false =>
   rw[if_neg ⋯];exact h3 _ (s.trans s1) (by rw[show bw false w=[] from rfl,zup];exact hl1) fun b o e _=>s1 _ _ e
theorem N3(b:Bool)(w:Str):(bw b w).length<=1:=by cases b<;>simp[bw]
theorem ze9:x<metS Rs n c↔∃ (j:Nat) (r:List Row),Rs[j]?=some r/\r.any (hit n c)=true/\x<j+1:=by
 have gen:∀ (Rs:List (List Row)) (p:Nat×Nat),p.2<=p.1->(x<(Rs.foldl (fun p rs=>(p.1+1,if rs.any (hit n c) then p.1+1 else p.2)) p).2↔(∃ (j:Nat) (r:List Row),Rs[j]?=some r/\r.any (hit n c)=true/\x<p.1+j+1)\/x<p.2):=fun Rs=>by
  induction Rs with
  | nil=>intro p hp;simp
  | cons r Rs ih =>
    intro p hp;rw[List.foldl_cons,ih _ (by show (if r.any (hit n c) then p.1+1 else p.2)<=p.1+1;split<;>omega)];show ((∃ (j:Nat) (r':List Row),Rs[j]?=some r'/\r'.any (hit n c)=true/\x<p.1+1+j+1)\/x<(if r.any (hit n c) then p.1+1 else p.2))↔_;constructor
    ·rintro(⟨j,r',h1,h2,h3⟩|h)
     ·exact .inl ⟨j+1,r',by simpa using h1,h2,by omega⟩
     ·by_cases hr:r.any (hit n c)=true
      ·rw[if_pos hr] at h;exact .inl ⟨0,r,rfl,hr,by omega⟩
      ·rw[if_neg hr] at h;exact .inr h
    ·rintro(⟨j,r',h1,h2,h3⟩|h)
     ·cases j with
      | zero =>
        have e:r=r':=by simpa using h1
        subst e;exact .inr (by rw[if_pos h2];omega)
      | succ j=>exact .inl ⟨j,r',by simpa using h1,h2,by omega⟩
     ·right
      split<;>omega
 have:=gen Rs (0,0) (zst _);unfold metS Fv;rw[this];simp
theorem zbi{Rs:List (List Row)}{n c rest:Int}:Rj Rs n c rest=true↔∃ (j:Nat) (r:List Row),Rs[j]?=some r/\r.any (hit n c)=true/\(Rs.length:Int)-rest<=j:=by
 unfold Rj;rw[decide_eq_true_eq];have e:(if (0:Int)>(Rs.length:Nat)-rest then 0 else ((Rs.length:Nat):Int)-rest)<(metS Rs n c:Nat)↔(((Rs.length:Nat):Int)-rest).toNat<metS Rs n c:=by
  split<;>omega
 rw[e,ze9];constructor
 ·rintro⟨j,r,h1,h2,h3⟩;exact⟨j,r,h1,h2,by omega⟩
 ·rintro⟨j,r,h1,h2,h3⟩;exact⟨j,r,h1,h2,by omega⟩
theorem zdg(c:Int)(hi:i<40)(hj:j<40)(h:zbc c i=zbc c j):i=j:=by
 unfold zbc at h;have hs:stp c=1\/stp c=2\/stp c=5\/stp c=10\/stp c=100\/stp c=500\/stp c=998:=by
  unfold stp;have h0:0<=c%7:=by omega
  have h1:c%7<7:=by omega
  generalize c%7=r at h0 h1;obtain⟨k,rfl⟩:∃ k:Nat,r=k:=⟨r.toNat,by omega⟩;rw[zs0];have hk:k<7:=by omega
  match k,hk with
  | 0,_=>simp
  | 1,_=>simp
  | 2,_=>simp
  | 3,_=>simp
  | 4,_=>simp
  | 5,_=>simp
  | 6,_=>simp
 generalize c/7=x at h;rcases hs with e|e|e|e|e|e|e<;>rw[e] at h<;>omega
end G
namespace G
open PySem PySem.Spec PyProof.Rows L2
abbrev P3:=Int×Int×Int
def pV(m:P3):List V:=[.int m.1,.int m.2.1,.int m.2.2]
theorem K1{H:Hp}{ts:List V}{Ms:List P3}{i:Nat}{x:V}(h:Yb H ts (Ms.map pV))(e:ts[i]?=some x):∃ t m,x=.ref t/\Ms[i]?=some m/\H t=some (.tup (pV m)):=by
 obtain⟨t,r,h1,h2,h3⟩:=h.get e;rw[zsr] at h2;cases q:Ms[i]? with
 | none=>rw[q] at h2;cases h2
 | some m=>rw[q] at h2;cases h2;exact⟨t,m,h1,rfl,h3⟩
theorem Yb.reverse:∀ {ts:List V} {R:List (List V)},Yb H ts R->Yb H ts.reverse R.reverse
 | _,_,.nil=>.nil
 | _,_,.cons h q=>by rw[zug,zug];exact(Yb.reverse q).snoc h
def R9(Rs:List (List Row))(h gu d:Int)(os:List V)(rest:Int)(m:P3):Bool:=(whyS Rs m.1 m.2.1 m.2.2 h gu d (inV (.int m.1) os) rest).isEmpty
inductive Dk(K:Frag)(C:Addr)(vs:List V)(H:Hp)(Q:VK)(_:XK):Prop where
 | mk(lp lo tm p lr ld:Addr)(Rs:List (List Row))(ts:List V)(Ms:List P3)(os:List V)(h gu d rest:Int)(_:vs=[.ref lp,.ref tm,.ref lo,.ref p,.int rest])(_:H lp=some (.lst ts))(_:Yb H ts (Ms.map pV))(_:H lo=some (.lst os))(_:(∀ x∈os,oneV x))(_:H tm=some (.tup [.int h,.int gu,.int d]))(_:Vu C H p lr ld Rs)(_:Ms.length<=1000)(_:∀ l H',H' l=some (.lst ((Ms.filter (R9 Rs h gu d os rest)).map fun m=>V.int m.1))->Same H H'->H l=none->Q (.ref l) H')
theorem zbj{Rs:List (List Row)}{n c rest:Int}(hr:0<=rest):Rj Rs n c rest=true↔∃ rs∈Rs.drop ((Rs.length:Int)-rest).toNat,∃ r∈rs,hit n c r=true:=by
 rw[zbi];constructor
 ·rintro⟨j,rs,h1,h2,h3⟩;obtain⟨r,hr1,hr2⟩:=List.any_eq_true.mp h2;refine⟨rs,?_,r,hr1,hr2⟩;have hk:((Rs.length:Int)-rest).toNat<=j:=by omega
  refine zsy (i:=j-((Rs.length:Int)-rest).toNat) ?_;rw[List.getElem?_drop,Nat.add_sub_cancel' hk];exact h1
 ·rintro⟨rs,h1,r,h2,h3⟩;obtain⟨i,hi,e⟩:=ztn h1;refine⟨((Rs.length:Int)-rest).toNat+i,rs,?_,List.any_eq_true.mpr ⟨r,h2,h3⟩,by omega⟩;rw[<- List.getElem?_drop,zsl hi,e]
def zf6(xs:List V):List Nat:=(List.range xs.length).filter fun i=>decide (xs[i]?=some .non)
def Wf(xs:List V)(n:Int):Option Nat:=(List.range xs.length).find? fun i=>decide (xs[i]?=some (.int n))
def oN:Option Nat->V
 | none=>.non
 | some i=>.int i
inductive Gw(K:Frag)(vs:List V)(H:Hp)(Q:VK)(_:XK):Prop where
 | mk(b:Addr)(xs:List V)(n:Int)(_:vs=[.ref b,.int n])(_:H b=some (.lst xs))(_:(∀ x∈xs,oneV x))(_:xs.length<=100)(_:∀ H',Same H H'->Q (oN (Wf xs n)) H')
def Ys:List (Nat×Option Int)->List V->List V
 | [],xs=>xs
 | (p,w) :: r,xs=>Ys r (xs.set p (oV w))
def Vv(s:Nat×Option Int):List V:=[.int (s.1:Nat),oV s.2]
inductive N4(K:Frag)(vs:List V)(H:Hp)(Q:VK)(_:XK):Prop where
 | mk(b c:Addr)(xs ts:List V)(st:List (Nat×Option Int))(_:vs=[.ref b,.ref c])(_:H b=some (.lst xs))(_:H c=some (.lst ts))(_:Yb H ts (st.map Vv))(_:(∀ s∈st,s.1<xs.length))(_:(∀ x∈xs,oneV x))(_:xs.length<=100)(_:st.length<=100)(_:∀ l H',H' l=some (.lst (Ys st xs))->Same H H'->H l=none->Q (.ref l) H')
theorem X1:∀ (st:List (Nat×Option Int)) (xs:List V),(Ys st xs).length=xs.length
 | [],_=>rfl
 | (p,w) :: r,xs=>by rw[Ys,X1 r,zt4]
theorem Dl(xs:List V)(n:Int):(Wf xs n=none/\∀ i:Nat,xs[i]?≠some (V.int n))\/∃ i:Nat,Wf xs n=some i/\xs[i]?=some (V.int n):=by
 unfold Wf;cases h:(List.range xs.length).find? fun i=>decide (xs[i]?=some (.int n)) with
 | none =>
   refine .inl ⟨rfl,fun i e=>?_⟩;have hi:i<xs.length:=(zsm.mp e).1;have:=List.find?_eq_none.mp h i (ztq.mpr hi);exact this (zss e)
 | some i =>
   have:=List.find?_some h;exact .inr ⟨i,rfl,of_decide_eq_true this⟩
theorem zbk(xs:List V)(k:Nat):Ij xs (some (k:Int)) none=xs.drop k:=by
 unfold Ij;rw[HT.sIx_nat,HT.sIx_none];by_cases h:k<=xs.length
 ·rw[Nat.min_eq_left h,<- List.length_drop,zs7]
 ·rw[Nat.min_eq_right ⋯,List.drop_length,List.take_nil,List.drop_eq_nil_of_le ⋯]
inductive ILs(H:Hp):List Addr->List (List Int)->Prop where
 | nil:ILs H [] []
 | cons {l:Addr} {ls:List Addr} {r:List Int} {R:List (List Int)} (h:H l=some (.lst (r.map V.int))) (n:ILs H ls R):ILs H (l :: ls) (r :: R)
theorem ILs.keep:∀ {ls:List Addr} {R:List (List Int)},(∀ l∈ls,∀ o,H l=some o->H' l=some o)->ILs H ls R->ILs H' ls R
 | _,_,_,.nil=>.nil
 | _,_,k,.cons h r=>.cons (k _ zte _ h) (ILs.keep (fun l hl=>k l (zs4 _ hl)) r)
theorem ILs.same(e:Same H H')(h:ILs H ls R):ILs H' ls R:=h.keep fun l _ o q=>e _ _ q
theorem ILs.length:∀ {ls:List Addr} {R:List (List Int)},ILs H ls R->ls.length=R.length
 | _,_,.nil=>rfl
 | _,_,.cons _ r=>by simp[ILs.length r]
theorem ILs.snoc(h:H l=some (.lst (x.map V.int))):∀ {ls:List Addr} {R:List (List Int)},ILs H ls R->ILs H (ls++[l]) (R++[x])
 | _,_,.nil=>.cons h .nil
 | _,_,.cons h' r=>.cons h' (ILs.snoc h r)
theorem ILs.has:∀ {ls:List Addr} {R:List (List Int)} {l:Addr},ILs H ls R->l∈ls->∃ xs,H l=some (.lst xs)
 | _,_,_,.nil,e=>by simp at e
 | _,_,_,.cons h r,e=>by
   rcases zso.mp e with rfl|e
   ·exact⟨_,h⟩
   ·exact ILs.has r e
theorem ILs.getR:∀ {ls:List Addr} {R:List (List Int)} {i:Nat} {r:List Int},ILs H ls R->R[i]?=some r->∃ l,ls[i]?=some l/\H l=some (.lst (r.map V.int))
 | _,_,_,_,.nil,e=>by simp at e
 | _,_,0,_,.cons h _,e=>by simp at e;subst e;exact⟨_,rfl,h⟩
 | _,_,i+1,x,.cons _ r,e=>by
   obtain⟨t,h1,h2⟩:=ILs.getR (i:=i) (r:=x) r (by simpa using e);exact⟨t,by simpa using h1,h2⟩
structure M0(rows:List (List Int))(nu:List Int):Prop where
 few:rows.length<=20
 crowd:nu.length<=30
 inj:nu.Nodup
 rng:∀ n∈nu,1<=n/\n<=999
 sub:∀ r∈rows,r.Nodup/\∀ n∈r,n∈nu
structure Yt(rows:List (List Int))(gs:List V):Prop where
 len:gs.length=rows.length
 one:∀ x∈gs,oneV x
 may:∀ (k:Nat) (n:Int),gs[k]?=some (.int n)->∃ r,rows[k]?=some r/\n∈r
 inj:∀ (j k:Nat) (n:Int),gs[j]?=some (.int n)->gs[k]?=some (.int n)->j=k
def Sw(rows:List (List Int))(gs:List V)(p:Nat):Prop:=∃ S:Nat->Prop,S p/\∀ q,S q->q<rows.length/\∀ r,rows[q]?=some r->∀ n∈r,∃ q',q' < p/\gs[q']?=some (.int n)/\S q'
def Ve(rows:List (List Int))(gs:List V):Prop:=∀ p,gs[p]?=some .non->Sw rows gs p
inductive zdh(K:Frag)(vs:List V)(H:Hp)(Q:VK)(_:XK):Prop where
 | mk(l:Addr)(ls:List Addr)(rows:List (List Int))(nu:List Int)(_:vs=[.ref l])(_:H l=some (.lst (ls.map V.ref)))(_:ILs H ls rows)(_:M0 rows nu)(_:∀ l' gs H',H' l'=some (.lst gs)->Yt rows gs->Ve rows gs->Same H H'->H l'=none->Q (.ref l') H')
inductive M3(K:Frag)(vs:List V)(H:Hp)(Q:VK)(_:XK):Prop where
 | mk(l lg:Addr)(ls:List Addr)(rows:List (List Int))(gs:List V)(_:vs=[.ref l,.ref lg])(_:H l=some (.lst (ls.map V.ref)))(_:ILs H ls rows)(_:rows.length<=100)(_:H lg=some (.lst gs))(_:Yt rows gs)(_:∀ H',Same H H'->Q (.bl true) H')
theorem Fw{n:Int}{r:List Int}:inV (.int n) (r.map V.int)=decide (n∈r):=by
 induction r with
 | nil=>rfl
 | cons x r ih =>
   unfold inV at ih ⊢;rw[zsx,zuf,ih];have e:eqV (.int x) (.int n)=decide (n=x):=by
    show (x == n)=_;by_cases h:n=x
    ·subst h;simp
    ·rw[zsw h];exact zs5.mpr (Ne.symm h)
   rw[e];by_cases h:n=x
   ·subst h;simp
   ·by_cases h2:n∈r<;>simp[h,h2]
theorem zbl(r:List Int):(r.map V.int).all Tf=true:=by
 rw[List.all_map];exact zui.mpr fun _ _=>rfl
end G
namespace G
open PySem PySem.Spec PyProof.Rows L2
def newS(st:List (Nat×Option Int))(k:Nat):List V:=(st.filter fun s=>decide (s.1=k)).map fun s=>oV s.2
theorem Gx:∀ (st:List (Nat×Option Int)) (xs:List V) (k:Nat),(st.map (·.1)).Nodup->k<xs.length->(Ys st xs)[k]?=some ((newS st k++[xs.getD k .non]).getD 0 .non)
 | [],xs,k,_,hk=>by
   rw[Ys,zsl hk];show _=some (xs.getD k .non);rw[ztc,zsl hk];rfl
 | (p,w) :: r,xs,k,nd,hk=>by
   rw[zsx,ztd] at nd;rw[Ys,Gx r _ k nd.2 (by rw[zt4];exact hk)];by_cases h:p=k
   ·subst h;have e:newS r p=[]:=by
     unfold newS;rw[List.map_eq_nil_iff,List.filter_eq_nil_iff];intro s hs z;exact nd.1 (zsu.mpr ⟨s,hs,of_decide_eq_true z⟩)
    have e2:newS ((p,w) :: r) p=oV w :: newS r p:=by
     unfold newS;rw[zt1,if_pos (zss rfl),zsx]
    rw[e2,e];show some ((xs.set p (oV w)).getD p .non)=some (oV w);rw[ztc,ztm hk];rfl
   ·have e2:newS ((p,w) :: r) k=newS r k:=by
     unfold newS;rw[zt1,if_neg (by rw[zsw h];decide)]
    rw[e2];have e3:(xs.set p (oV w)).getD k .non=xs.getD k .non:=by
     rw[ztc,ztc,ztj h]
    rw[e3]
section
variable{rows:List (List Int)}{gs:List V}
def adjN(rows:List (List Int))(gs:List V)(q:Nat)(n:Int)(q':Nat):Prop:=(∃ r,rows[q]?=some r/\n∈r)/\gs[q']?=some (.int n)
def Px(rows:List (List Int))(gs:List V)(q:Nat)(n:Int):Prop:=(∃ r,rows[q]?=some r/\n∈r)/\∀ j:Nat,gs[j]?≠some (V.int n)
def Uj(rows:List (List Int))(gs:List V)(q:Nat):Prop:=∃ n,Px rows gs q n
inductive Walk(rows:List (List Int))(gs:List V)(p:Nat):Nat->Nat->Prop where
 | nil:Walk rows gs p p 0
 | snoc {q q' k:Nat} {n:Int} (h:Walk rows gs p q k) (a:adjN rows gs q n q'):Walk rows gs p q' (k+1)
theorem Walk.cons(a:adjN rows gs p n p')(h:Walk rows gs p' q k):Walk rows gs p q (k+1):=by
 induction h with
 | nil=>exact .snoc .nil a
 | snoc _ a' ih=>exact .snoc ih a'
inductive Ch(rows:List (List Int))(gs:List V):Nat->List (Nat×Option Int)->Nat->Option Int->Prop where
 | one (q:Nat) (w:Option Int):Ch rows gs q [(q,w)] q w
 | step {q q' e:Nat} {n:Int} {st:List (Nat×Option Int)} {w:Option Int} (a:adjN rows gs q n q') (h:Ch rows gs q' st e w):Ch rows gs q ((q,some n) :: st) e w
theorem Ch.pos{q e:Nat}{st:List (Nat×Option Int)}{w:Option Int}(h:Ch rows gs q st e w):0<st.length:=by cases h<;>simp
theorem Ch.walk{q e:Nat}{st:List (Nat×Option Int)}{w:Option Int}(h:Ch rows gs q st e w):Walk rows gs q e (st.length-1):=by
 induction h with
 | one q w=>exact .nil
 | step a h ih =>
   have:=h.pos;have e:=Walk.cons a ih;rw[zs8,Nat.add_sub_cancel];rw[Nat.sub_add_cancel this] at e;exact e
theorem Ch.drop{q e:Nat}{st:List (Nat×Option Int)}{w:Option Int}(h:Ch rows gs q st e w):∀ x∈st.map (·.1),∃ st',Ch rows gs x st' e w/\st'.length<=st.length:=by
 induction h with
 | one q w=>intro x hx;simp at hx;subst hx;exact⟨_,.one _ _,zst _⟩
 | @step q q' e n st w a h ih =>
   intro x hx;rw[zsx] at hx;rcases zso.mp hx with z|z
   ·subst z;exact⟨_,.step a h,zst _⟩
   ·obtain⟨st',h1,h2⟩:=ih x z;exact⟨st',h1,by rw[zs8];omega⟩
theorem Ch.hd{q e:Nat}{st:List (Nat×Option Int)}{w:Option Int}(h:Ch rows gs q st e w):∃ x r,st=(q,x) :: r:=by cases h<;>exact⟨_,_,rfl⟩
theorem Ch.last{q e:Nat}{st:List (Nat×Option Int)}{w:Option Int}(h:Ch rows gs q st e w):e∈st.map (·.1):=by
 induction h with
 | one q w=>simp
 | step a h ih=>rw[zsx];exact zs4 _ ih
theorem Ch.nodup{q e:Nat}{st:List (Nat×Option Int)}{w:Option Int}(h:Ch rows gs q st e w)(hm:∀ k,Walk rows gs q e k->st.length<=k+1):(st.map (·.1)).Nodup:=by
 induction h with
 | one q w=>simp
 | @step q q' e n st w a h ih =>
   rw[zsx,ztd];refine⟨fun hq=>?_,ih fun k hk=>?_⟩
   ·obtain⟨st',h1,h2⟩:=h.drop q hq;have:=hm _ h1.walk;have:=h1.pos;rw[zs8] at *;omega
   ·have:=hm _ (Walk.cons a hk);rw[zs8] at this;omega
theorem Ch.mem{q e:Nat}{st:List (Nat×Option Int)}{w:Option Int}(h:Ch rows gs q st e w):∀ (k:Nat) (n:Int),(k,some n)∈st->(adjN rows gs k n k\/True)/\(((∃ r,rows[k]?=some r/\n∈r)/\∃ k',gs[k']?=some (V.int n)/\k'∈st.tail.map (·.1))\/(w=some n/\k=e)):=by
 induction h with
 | one q w =>
   intro k n hk;simp at hk;exact⟨.inr trivial,.inr ⟨hk.2.symm,hk.1⟩⟩
 | @step q q' e n' st w a h ih =>
   intro k n hk;refine⟨.inr trivial,?_⟩;rcases zso.mp hk with z|z
   ·cases z;refine .inl ⟨a.1,q',a.2,?_⟩;obtain⟨x,r,e⟩:=h.hd;rw[e];simp
   ·rcases(ih k n z).2 with ⟨h1,k',h2,h3⟩|h1
    ·refine .inl ⟨h1,k',h2,?_⟩;show k'∈st.map (·.1);obtain⟨x,r,e⟩:=h.hd;rw[e] at h3 ⊢;exact zs4 _ h3
    ·exact .inr h1
theorem Ch.inj{q e:Nat}{st:List (Nat×Option Int)}{w:Option Int}(FP:Yt rows gs)(h:Ch rows gs q st e w)(hw:∀ n,w=some n->∀ j:Nat,gs[j]?≠some (V.int n))(nd:(st.map (·.1)).Nodup):∀ (j k:Nat) (n:Int),(j,some n)∈st->(k,some n)∈st->j=k:=by
 induction h with
 | one q w=>intro j k n h1 h2;simp at h1 h2;rw[h1.1,h2.1]
 | @step q q' e n' st w a h ih =>
   intro j k n h1 h2;rw[zsx,ztd] at nd;have key:∀ k,(k,some n')∈st->False:=fun k hk=>by
    rcases(h.mem k n' hk).2 with ⟨_,k',h2,h3⟩|⟨h1,_⟩
    ·have e:k'=q':=FP.inj k' q' n' h2 a.2;subst e;obtain⟨x,r,e⟩:=h.hd;have nd2:=nd.2;rw[e] at nd2 h3;rw[zsx,ztd] at nd2;exact nd2.1 h3
    ·exact hw n' h1 q' a.2
   rcases zso.mp h1 with z1|z1<;>rcases zso.mp h2 with z2|z2
   ·cases z1;cases z2;rfl
   ·cases z1;exact(key k z2).elim
   ·cases z2;exact(key j z1).elim
   ·exact ih hw nd.2 j k n z1 z2
theorem zdi{st:List (Nat×Option Int)}{k:Nat}(nd:(st.map (·.1)).Nodup):(k∉st.map (·.1)/\newS st k=[])\/∃ w,(k,w)∈st/\newS st k=[oV w]:=by
 induction st with
 | nil=>exact .inl ⟨by simp,rfl⟩
 | cons s r ih =>
   obtain⟨p,w⟩:=s;rw[zsx,ztd] at nd;by_cases h:p=k
   ·subst h;refine .inr ⟨w,zte,?_⟩;rcases ih nd.2 with ⟨_,e⟩|⟨w',h1,_⟩
    ·have e2:newS ((p,w) :: r) p=oV w :: newS r p:=by
      unfold newS;rw[zt1,if_pos (zss rfl),zsx]
     rw[e2,e]
    ·exact absurd (zsu.mpr ⟨_,h1,rfl⟩) nd.1
   ·have e2:newS ((p,w) :: r) k=newS r k:=by
     unfold newS;rw[zt1,if_neg (by rw[zsw h];decide)]
    rw[e2];rcases ih nd.2 with ⟨h1,e⟩|⟨w',h1,e⟩
    ·exact .inl ⟨fun z=>by rcases zso.mp z with q|q;exact h q.symm;exact h1 q,e⟩
    ·exact .inr ⟨w',zs4 _ h1,e⟩
theorem Wg{st:List (Nat×Option Int)}{xs:List V}{k:Nat}(nd:(st.map (·.1)).Nodup)(hk:k<xs.length):(k∉st.map (·.1)/\(Ys st xs)[k]?=xs[k]?)\/∃ w,(k,w)∈st/\(Ys st xs)[k]?=some (oV w):=by
 rw[Gx st xs k nd hk];rcases zdi (k:=k) nd with ⟨h,e⟩|⟨w,h,e⟩
 ·refine .inl ⟨h,?_⟩;rw[e];show some (xs.getD k .non)=_;rw[ztc,zsl hk];rfl
 ·exact .inr ⟨w,h,by rw[e];rfl⟩
theorem Ch.lt{q e:Nat}{st:List (Nat×Option Int)}{w:Option Int}(FP:Yt rows gs)(h:Ch rows gs q st e w)(hq:q<rows.length):∀ s∈st,s.1<rows.length:=by
 induction h with
 | one q w=>intro s hs;simp at hs;subst hs;exact hq
 | @step q q' e n st w a h ih =>
   intro s hs;rcases zso.mp hs with z|z
   ·subst z;exact hq
   ·refine ih ?_ s z;have:=(zsm.mp a.2).1;rw[FP.len] at this;exact this
theorem Ch.fill{q e:Nat}{st:List (Nat×Option Int)}{w:Option Int}(FP:Yt rows gs)(h:Ch rows gs q st e w)(hq:q<rows.length)(hw:∀ n,w=some n->Px rows gs e n)(nd:(st.map (·.1)).Nodup):Yt rows (Ys st gs):=by
 have hlt:=h.lt FP hq;have hinj:=h.inj FP (fun n hn=>(hw n hn).2) nd;have src:∀ (k:Nat) (n:Int),(k,some n)∈st->(∃ r,rows[k]?=some r/\n∈r)/\∀ j:Nat,gs[j]?=some (V.int n)->j∈st.map (·.1):=fun k n hk=>by
  rcases(h.mem k n hk).2 with ⟨h1,k',h2,h3⟩|⟨h1,rfl⟩
  ·refine⟨h1,fun j hj=>?_⟩;rw[FP.inj j k' n hj h2];obtain⟨x,r,e⟩:=h.hd;rw[e] at h3 ⊢;exact zs4 _ h3
  ·exact⟨(hw n h1).1,fun j hj=>absurd hj ((hw n h1).2 j)⟩
 have cs:∀ k,k<gs.length->(k∉st.map (·.1)/\(Ys st gs)[k]?=gs[k]?)\/∃ w,(k,w)∈st/\(Ys st gs)[k]?=some (oV w):=fun k hk=>Wg nd hk;have at_:∀ (k:Nat) (n:Int),(Ys st gs)[k]?=some (V.int n)->(k∉st.map (·.1)/\gs[k]?=some (V.int n))\/(k,some n)∈st:=fun k n hk=>by
  have hkl:k<gs.length:=by
   have:=(zsm.mp hk).1;rw[X1] at this;exact this
  rcases cs k hkl with ⟨h1,e⟩|⟨w',h1,e⟩
  ·exact .inl ⟨h1,by rw[<- e];exact hk⟩
  ·rw[e] at hk;cases w' with
   | none=>cases hk
   | some m=>cases hk;exact .inr h1
 refine⟨by rw[X1];exact FP.len,fun x hx=>?_,fun k n hk=>?_,fun j k n hj hk=>?_⟩
 ·obtain⟨k,hk,rfl⟩:=ztn hx;have hkl:k<gs.length:=by rw[X1] at hk;exact hk
  have e0:=zsl hk;rcases cs k hkl with ⟨_,e⟩|⟨w',_,e⟩
  ·rw[e,zsl hkl] at e0;rw[<- Option.some.inj e0];exact FP.one _ (ztf hkl)
  ·rw[e] at e0;rw[<- Option.some.inj e0];exact zhc w'
 ·rcases at_ k n hk with ⟨_,h1⟩|h1
  ·exact FP.may k n h1
  ·exact(src k n h1).1
 ·rcases at_ j n hj with ⟨a1,a2⟩|a1<;>rcases at_ k n hk with ⟨b1,b2⟩|b1
  ·exact FP.inj j k n a2 b2
  ·exact absurd ((src k n b1).2 j a2) a1
  ·exact absurd ((src j n a1).2 k b2) b1
  ·exact hinj j k n a1 b1
theorem Ch.out{p0 q e:Nat}{n0:Int}{w:Option Int}{st:List (Nat×Option Int)}{S:Nat->Prop}(FP:Yt rows gs)(hS:∀ q,S q->q<rows.length/\∀ r,rows[q]?=some r->∀ n∈r,∃ q',q' < p0/\gs[q']?=some (.int n)/\S q')(h:Ch rows gs q st e w):w=some n0->Px rows gs e n0->¬ S q:=by
 induction h with
 | one q w =>
   intro hw hf hs;obtain⟨r,h1,h2⟩:=hf.1;obtain⟨q',_,h3,_⟩:=(hS _ hs).2 r h1 n0 h2;exact hf.2 q' h3
 | @step q q' e n st w a h ih =>
   intro hw hf hs;obtain⟨r,h1,h2⟩:=a.1;obtain⟨q'',_,h3,h4⟩:=(hS q hs).2 r h1 n h2;have:q''=q':=FP.inj q'' q' n h3 a.2;subst this;exact ih hw hf h4
theorem Sw.behind{p0 q e:Nat}{n0:Int}{st:List (Nat×Option Int)}(FP:Yt rows gs)(S0:Sw rows gs p0)(h:Ch rows gs q st e (some n0))(hf:Px rows gs e n0)(hq:q<rows.length)(nd:(st.map (·.1)).Nodup):Sw rows (Ys st gs) p0:=by
 obtain⟨S,hp,hS⟩:=S0;have outAll:∀ x∈st.map (·.1),¬ S x:=fun x hx=>by
  obtain⟨st',h1,_⟩:=h.drop x hx;exact h1.out FP hS rfl hf
 refine⟨S,hp,fun q1 h1=>⟨(hS q1 h1).1,fun r hr n hn=>?_⟩⟩;obtain⟨q',h2,h3,h4⟩:=(hS q1 h1).2 r hr n hn;refine⟨q',h2,?_,h4⟩;have hkl:q' < gs.length:=(zsm.mp h3).1;rcases Wg nd hkl with ⟨_,e⟩|⟨w,h5,_⟩
 ·rw[e];exact h3
 ·exact absurd h4 (outAll q' (zsu.mpr ⟨_,h5,rfl⟩))
structure Xe(rows:List (List Int))(gs:List V)(p:Nat)(st:List (Nat×Option Int))(e:Nat)(w:Option Int):Prop where
 ch:Ch rows gs p st e w
 free:∀ n,w=some n->Px rows gs e n/\∀ q k,Walk rows gs p q k->Uj rows gs q->st.length<=k+1
 none:w=none->(∀ q k,Walk rows gs p q k->¬ Uj rows gs q)/\(∀ q k,Walk rows gs p q k->q<=e)/\∀ k,Walk rows gs p e k->st.length<=k+1
theorem Xe.nodup{p e:Nat}{st:List (Nat×Option Int)}{w:Option Int}(c:Xe rows gs p st e w):(st.map (·.1)).Nodup:=by
 refine c.ch.nodup fun k hk=>?_;cases h:w with
 | none=>exact(c.none h).2.2 k hk
 | some n=>exact(c.free n h).2 e k hk ⟨n,(c.free n h).1⟩
theorem Xe.fill{p e:Nat}{st:List (Nat×Option Int)}{w:Option Int}(FP:Yt rows gs)(c:Xe rows gs p st e w)(hp:p<rows.length):Yt rows (Ys st gs):=c.ch.fill FP hp (fun n hn=>(c.free n hn).1) c.nodup
theorem zdj(FP:Yt rows gs)(hp:p<rows.length)(ha:∀ q n,gs[q]?=some (V.int n)->q<p)(hn:∀ q k,Walk rows gs p q k->¬ Uj rows gs q):Sw rows gs p:=by
 refine⟨fun q=>∃ k,Walk rows gs p q k,⟨0,.nil⟩,fun q ⟨k,hk⟩=>⟨?_,fun r hr n hnr=>?_⟩⟩
 ·cases hk with
  | nil=>exact hp
  | snoc _ a =>
    have:=(zsm.mp a.2).1;rw[FP.len] at this;exact this
 ·by_cases hx:∃ j:Nat,gs[j]?=some (V.int n)
  ·obtain⟨j,hj⟩:=hx;exact⟨j,ha j n hj,hj,k+1,.snoc hk ⟨⟨r,hr,hnr⟩,hj⟩⟩
  ·exact absurd ⟨n,⟨r,hr,hnr⟩,fun j hj=>hx ⟨j,hj⟩⟩ (hn q k hk)
end
section
variable{rows:List (List Int)}{gs:List V}{p:Nat}
structure Bfs(rows:List (List Int))(gs:List V)(p:Nat)(line:List Nat)(dep:Nat->Nat):Prop where
 nodup:line.Nodup
 memp:p∈line
 d0:dep p=0
 walk:∀ q∈line,Walk rows gs p q (dep q)
 sorted:∀ (i j q q':Nat),i<=j->line[i]?=some q->line[j]?=some q'->dep q<=dep q'
def Done(rows:List (List Int))(gs:List V)(line:List Nat)(dep:Nat->Nat)(dn:Nat):Prop:=∀ (i q:Nat),i<dn->line[i]?=some q->∀ n q',adjN rows gs q n q'->q'∈line/\dep q'<=dep q+1
theorem zbm(rows:List (List Int))(gs:List V)(p:Nat):Bfs rows gs p [p] (fun _=>0):=by
 refine⟨by simp,by simp,rfl,fun q hq=>?_,fun i j q q' _ _ _=>zst _⟩;simp at hq;subst hq;exact .nil
variable{line:List Nat}{dep:Nat->Nat}{dn:Nat}
theorem Bfs.reach(B:Bfs rows gs p line dep)(D:Done rows gs line dep dn)(h:Walk rows gs p q k):(q∈line/\dep q<=k)\/∃ j q',dn<=j/\line[j]?=some q'/\dep q' < k:=by
 induction h with
 | nil=>exact .inl ⟨B.memp,by rw[B.d0];exact zst _⟩
 | @snoc q q' k n h a ih =>
   rcases ih with ⟨h1,h2⟩|⟨j,x,h1,h2,h3⟩
   ·obtain⟨i,hi,e⟩:=ztn h1;have e':line[i]?=some q:=by rw[zsl hi,e]
    by_cases hd:i<dn
    ·obtain⟨a1,a2⟩:=D i q hd e' n q' a;exact .inl ⟨a1,by omega⟩
    ·exact .inr ⟨i,q,by omega,e',by omega⟩
   ·exact .inr ⟨j,x,h1,h2,by omega⟩
theorem Bfs.full(B:Bfs rows gs p line dep)(D:Done rows gs line dep line.length)(h:Walk rows gs p q k):q∈line/\dep q<=k:=by
 rcases B.reach D h with z|⟨j,x,h1,h2,_⟩
 ·exact z
 ·have:=(zsm.mp h2).1;omega
theorem Bfs.early(B:Bfs rows gs p line dep)(D:Done rows gs line dep dn)(hh:line[dn]?=some here)(h:Walk rows gs p q k)(hk:k<dep here):∃ i,i<dn/\line[i]?=some q:=by
 rcases B.reach D h with ⟨h1,h2⟩|⟨j,x,h1,h2,h3⟩
 ·obtain⟨i,hi,e⟩:=ztn h1;have e':line[i]?=some q:=by rw[zsl hi,e]
  refine⟨i,?_,e'⟩;by_cases hd:i<dn
  ·exact hd
  ·have:=B.sorted dn i here q ⋯ hh e';omega
 ·have:=B.sorted dn j here x h1 hh h2;omega
theorem Bfs.fewest(B:Bfs rows gs p line dep)(D:Done rows gs line dep dn)(hh:line[dn]?=some here)(hno:∀ (i q:Nat),i<dn->line[i]?=some q->¬ Uj rows gs q)(h:Walk rows gs p q k)(hf:Uj rows gs q):dep here+1<=k+1:=by
 by_cases hk:k<dep here
 ·obtain⟨i,hi,e⟩:=B.early D hh h hk;exact absurd hf (hno i q hi e)
 ·omega
def Vf(dep:Nat->Nat)(q d:Nat):Nat->Nat:=fun x=>if x=q then d else dep x
theorem Bfs.app(B:Bfs rows gs p line dep)(hh:line[dn]?=some here)(near:∀ x∈line,dep x<=dep here+1)(a:adjN rows gs here n q')(hn:q'∉line) :
  Bfs rows gs p (line++[q']) (Vf dep q' (dep here+1))/\(∀ x∈line,Vf dep q' (dep here+1) x=dep x)/\∀ x∈line++[q'],Vf dep q' (dep here+1) x<=dep here+1:=by
 have old:∀ x∈line,Vf dep q' (dep here+1) x=dep x:=fun x hx=>by
  unfold Vf;rw[if_neg (fun (z:x=q')=>hn (by rw[<- z];exact hx))]
 have new:Vf dep q' (dep here+1) q'=dep here+1:=by unfold Vf;rw[if_pos rfl]
 have hhm:=zsy hh;have all:∀ x∈line++[q'],Vf dep q' (dep here+1) x<=dep here+1:=fun x hx=>by
  rcases zsv.mp hx with z|z
  ·rw[old x z];exact near x z
  ·rw[zsp.mp z,new];exact zst _
 refine⟨⟨Kj B.nodup hn,zta _ B.memp,by rw[old p B.memp];exact B.d0,fun q hq=>?_,fun i j x y hij hx hy=>?_⟩,old,all⟩
 ·rcases zsv.mp hq with z|z
  ·rw[old q z];exact B.walk q z
  ·rw[zsp.mp z,new];exact .snoc (B.walk here hhm) a
 ·by_cases hj:j<line.length
  ·rw[zti hj] at hy;rw[zti ⋯] at hx;rw[old x (zsy hx),old y (zsy hy)];exact B.sorted i j x y hij hx hy
  ·rw[zth ⋯] at hy;have:y=q':=by
    cases e:j-line.length with
    | zero=>rw[e] at hy;simpa using hy.symm
    | succ m=>rw[e] at hy;simp at hy
   subst this;rw[new];exact all x (zsy hx)
theorem Done.app(D:Done rows gs line dep dn)(hd:dn<=line.length)(hl:∃ r,line'=line++r)(he:∀ x∈line,dep' x=dep x):Done rows gs line' dep' dn:=fun i q hi e n q' a=>by
 obtain⟨r,rfl⟩:=hl;rw[zti ⋯] at e;obtain⟨h1,h2⟩:=D i q hi e n q' a;exact⟨zta _ h1,by rw[he q' h1,he q (zsy e)];exact h2⟩
def Ut(rows:List (List Int))(gs:List V)(p:Nat)(line:List Nat)(dep:Nat->Nat)(fr:Nat->Option (Nat×Int)):Prop:=fr p=none/\∀ q∈line,q≠p->∃ par n,fr q=some (par,n)/\par∈line/\adjN rows gs par n q/\dep q=dep par+1
theorem Ut.back(d0:dep p=0)(F:Ut rows gs p line dep fr):∀ (d q e:Nat) (w:Option Int) (st:List (Nat×Option Int)),dep q=d->q∈line->Ch rows gs q st e w->∃ pre,Ch rows gs p (pre++st) e w/\pre.length=d:=fun d=>by
 induction d with
 | zero =>
   intro q e w st hd hq h;by_cases hp:q=p
   ·subst hp;exact⟨[],h,rfl⟩
   ·obtain⟨par,n,_,_,_,h4⟩:=F.2 q hq hp;omega
 | succ d ih =>
   intro q e w st hd hq h;by_cases hp:q=p
   ·subst hp;rw[d0] at hd;cases hd
   ·obtain⟨par,n,h1,h2,h3,h4⟩:=F.2 q hq hp;obtain⟨pre,h5,h6⟩:=ih par e w _ ⋯ h2 (.step h3 h);exact⟨pre++[(par,some n)],by rw[zt3];exact h5,by rw[zsn,h6];rfl⟩
theorem Bp{here:Nat}{n:Int}{st:List (Nat×Option Int)}(B:Bfs rows gs p line dep)(D:Done rows gs line dep dn)(hh:line[dn]?=some here)(hno:∀ (i q:Nat),i<dn->line[i]?=some q->¬ Uj rows gs q)(hf:Px rows gs here n)(c:Ch rows gs p st here (some n))(hl:st.length=dep here+1):Xe rows gs p st here (some n) :=
 ⟨c,fun m e=>by cases e;exact⟨hf,fun q k hk hq=>by rw[hl];exact B.fewest D hh hno hk hq⟩,(fun z=>nomatch z)⟩
theorem Bq{e:Nat}{st:List (Nat×Option Int)}(B:Bfs rows gs p line dep)(D:Done rows gs line dep line.length)(hno:∀ q∈line,¬ Uj rows gs q)(he:∀ q∈line,q<=e)(c:Ch rows gs p st e none)(hl:st.length=dep e+1):Xe rows gs p st e none :=
 ⟨c,(fun m z=>nomatch z),fun _=>⟨fun q k hk=>hno q (B.full D hk).1,fun q k hk=>he q (B.full D hk).1,fun k hk=>by rw[hl];have:=(B.full D hk).2;omega⟩⟩
end
end G
namespace L2
open PySem PySem.Spec PyProof.Rows
inductive zhe(x:V)(vs:List V)(H:Hp)(Q:VK):Prop where
 | mk(l:Addr)(xs:List V)(y:V)(j:Nat)(_:x=.ref l)(_:vs=[y])(_:H l=some (.lst xs))(_:Tf y=true)(_:xs.all Tf=true)(_:(∃ z,xs[j]?=some z/\eqV z y=true))(_:(∀ m z,m<j->xs[m]?=some z->eqV z y=false))(_:Q (.int (j:Nat)) H)
theorem zdk:MtM X "list.index" zhe:=by
 intro pins s σ H x vs v us Q I rx rv h;obtain⟨l,xs,y,j,rfl,rfl,hH,fy,fs,⟨zj,hzj,hej⟩,hno,q⟩:=h;cases rx;obtain⟨u,rfl,ru⟩:=rv.one;obtain⟨z,its,n,r,hl,e⟩:=I.lstM hH;have hjx:j<xs.length:=(zsm.mp hzj).1;have hj:j<its.toArray.size:=by rw[zsz];omega
 have hline:=Pq;have ev:∀ (m:Nat) (hm:m<its.toArray.size) (w:V),xs[m]?=some w->eqU y (its.toArray[m]'hm)=eqV w y:=fun m hm w hw=>by
  obtain⟨uu,hu,ruu⟩:=r.get hw;have:its.toArray[m]'hm=uu:=by
   have h1:its[m]?=some (its.toArray[m]'hm):=by simp
   rw[h1] at hu;exact Option.some.inj hu
  rw[this];refine Bh ruu ?_;exact zui.mp fs w (zsy hw)
 refine call_meets PySem.F.slot_list_index ⟨_,e,rfl⟩ PySem.F.entry_list_index (PySem.F.args_list_index_2 _ _) (SeqAt.list_indexAt l its.toArray n none #[] u (eqU y) j hj ⋯ (by rw[ev j hj zj hzj];exact hej) (fun m hm hmj=>?_)) ⟨e,fun w hw=>Sa ru fy r fs w (by simpa using hw),?_⟩
 ·have hmx:m<xs.length:=by rw[zsz] at hm;omega
  have hw:xs[m]?=some (xs[m]'hmx):=zsl hmx;rw[ev m hm _ hw];exact hno m _ hmj hw
 ·exact⟨.int (j:Nat),H,I.tok _,⟨_,rfl⟩,q⟩
end L2
namespace G
open PySem PySem.Spec PyProof.Rows L2
theorem ziy{H:Hp}{ts:List V}{st:List (Nat×Option Int)}{i:Nat}{s:Nat×Option Int}(h:Yb H ts (st.map Vv))(e:st[i]?=some s):∃ t,ts[i]?=some (.ref t)/\H t=some (.tup (Vv s)):=by
 have e':(st.map Vv)[i]?=some (Vv s):=by rw[zsr,e];rfl
 exact h.getR e'
theorem Kl(ho:oneV z):eqV z (.int n)=true↔z=.int n:=by
 rcases ho with rfl|⟨i,rfl⟩
 ·constructor
  ·intro h;cases h
  ·intro h;cases h
 ·show (i == n)=true↔_;constructor
  ·intro h;rw[beq_iff_eq.mp h]
  ·intro h;cases h;simp
theorem zdl(ho:∀ x∈gs,oneV x):inV (.int n) gs=true↔∃ j:Nat,gs[j]?=some (V.int n):=by
 unfold inV;rw[List.any_eq_true];constructor
 ·rintro⟨z,hz,e⟩;obtain⟨j,hj,rfl⟩:=ztn hz;exact⟨j,by rw[zsl hj,(Kl (ho _ hz)).mp e]⟩
 ·rintro⟨j,hj⟩;have:=zsy hj;exact⟨_,this,(Kl (ho _ this)).mpr rfl⟩
theorem zfa(r:List Int):PyData.canLayAll0 (Xz (r.map Dt.int))=true/\PyData.depthAll (Xz (r.map Dt.int))<=1:=by
 induction r with
 | nil=>exact⟨rfl,by decide⟩
 | cons x r ih =>
   obtain⟨h1,h2⟩:=ih;refine⟨by rw[zsx,Xz,PyData.canLayAll0,h1];rfl,?_⟩;rw[zsx,Xz,PyData.depthAll];have:PyData.depth (toPy (Dt.int x))<=1:=by simp[toPy,PyData.depth]
   omega
theorem zaa(r:List Int):shD (.lst (r.map Dt.int)):=by
 obtain⟨a1,a2⟩:=zfa r;unfold shD SeqAt.shaped;rw[toPy,PyData.canLay0,a1,Bool.true_and];refine zss ?_;rw[PyData.depth];omega
theorem zab:shD (.lst []):=zaa []
theorem zac(f:α->Dt)(xs:List α):eqD (.lst (xs.map f)) (.lst [])=xs.isEmpty:=by
 cases xs with
 | nil=>simp[eqD,Q7]
 | cons x xs=>simp[eqD,Q7]
structure zjw(rows:List (List Int))(gs:List V)(i:Nat):Prop where
 len:gs.length=i
 one:∀ x∈gs,oneV x
 may:∀ (k:Nat) (n:Int),gs[k]?=some (.int n)->∃ r,rows[k]?=some r/\n∈r
 inj:∀ (j k:Nat) (n:Int),gs[j]?=some (.int n)->gs[k]?=some (.int n)->j=k
theorem Yt.drop(F:Yt rows gs)(p:Nat):Yt rows (gs.set p .non):=by
 have cs:∀ (k:Nat) (n:Int),(gs.set p .non)[k]?=some (.int n)->k≠p/\gs[k]?=some (.int n):=fun k n h=>by
  by_cases e:k=p
  ·subst e;by_cases hk:k<gs.length
   ·rw[ztm hk] at h;cases h
   ·rw[List.getElem?_eq_none (by rw[zt4];omega)] at h;cases h
  ·rw[ztj (Ne.symm e)] at h;exact⟨e,h⟩
 refine⟨by rw[zt4];exact F.len,fun x hx=>?_,fun k n h=>F.may k n (cs k n h).2,fun j k n h1 h2=>F.inj j k n (cs j n h1).2 (cs k n h2).2⟩;rcases List.mem_or_eq_of_mem_set hx with z|z
 ·exact F.one x z
 ·exact .inl z
theorem Yt.without(F:Yt rows gs)(hx:gs[p]?=some x)(f:Int->Bool)(hf:∀ n,f n=false->x=.int n):Yt (rows.map fun r=>r.filter f) (gs.set p .non):=by
 have D:=F.drop p;refine⟨by rw[zsk];exact D.len,D.one,fun k n h=>?_,D.inj⟩;obtain⟨r,h1,h2⟩:=D.may k n h;refine⟨r.filter f,by rw[zsr,h1];rfl,ztp.mpr ⟨h2,?_⟩⟩;cases e:f n with
 | true=>rfl
 | false =>
   have hx':=hf n e;subst hx';have hk:k≠p:=fun z=>by
    subst z;rw[ztm (zsm.mp hx).1] at h;cases h
   rw[ztj (Ne.symm hk)] at h;exact absurd (F.inj k p n h hx) hk
theorem zdm(h1:Gr t σ H b)(h:∀ H1,Same H H1->if b=true then A D σ H1 else B D σ H1):zat t A B D σ H:=h1 _ fun H1 s1=>h H1 s1
def Rk(xs:List Nat):List V:=xs.map fun k=>V.int (k:Nat)
end G
namespace G
open PySem PySem.Spec PyProof.Rows L2
inductive Fx(K:Frag)(vs:List V)(H:Hp)(Q:VK)(_:XK):Prop where
 | mk(l lg:Addr)(ls:List Addr)(rows:List (List Int))(nu:List Int)(gs:List V)(p:Nat)(_:vs=[.ref l,.ref lg,.int p])(_:H l=some (.lst (ls.map V.ref)))(_:ILs H ls rows)(_:M0 rows nu)(_:H lg=some (.lst gs))(_:Yt rows gs)(_:p<rows.length)(_:gs[p]?=some .non)(_:∀ lt ts st e w H',H' lt=some (.lst ts)->Yb H' ts (st.map Vv)->Xe rows gs p st e w->Same H H'->H lt=none->Q (.ref lt) H')
theorem Xe.len{rows:List (List Int)}{gs:List V}{p e:Nat}{st:List (Nat×Option Int)}{w:Option Int}(FP:Yt rows gs)(hp:p<rows.length)(c:Xe rows gs p st e w):st.length<=rows.length:=by
 have hlt:=c.ch.lt FP hp;have:=c.nodup.length_le_of_subset (l₂:=List.range rows.length) fun x hx=>by
  obtain⟨s,hs,rfl⟩:=zsu.mp hx;exact ztq.mpr (hlt s hs)
 rw[zsk,ztu] at this;exact this
end G
namespace L2
open PySem PySem.Spec PyProof.Rows
section
variable{X:Cx}{pins:List (Addr×Obj)}{σ:List (Option V)}{H H':Hp}{s:Shared}{h':Heap}
theorem Inv.turnedL{t':Nat}{fp:List Addr}(I:Inv X pins σ H s)(hf:∀ b∈fp,FpOk X pins H b)(k:∀ b o,b∉fp->s.heap.get? b=some o->h'.get? b=some o):Inv X pins σ H { s with heap:=h',toks:=t' }:=by
 have nit:∀ b u,H b=some u->b∉fp:=fun b u e z=>by rw[(hf b z).1] at e;cases e
 refine I.step (g':=s.gens) (d':=s.drawn) (ch:=fp) (fun b hb=>?_) (fun b o _ _ hc e _=>k b o hc e) (fun b o _ _ hc e _=>⟨o.slots,k b o hc e⟩) (fun _ _ _ _ n=>n)
  (fun b o hc e=>⟨o,k b o hc e⟩) (fun _ _ e=>e) (fun _ _ _ e=>e) (fun b ps e=>⟨#[],by rw[e];simp⟩) (fun m hm=>?_) (fun b u e=>?_) I.bare
 ·obtain⟨f0,f1,f2,f3,f4,f5⟩:=hf b hb;exact⟨f3,f1,f4,f5⟩
 ·obtain⟨o,es,ep,ho,r⟩:=hm;exact⟨o,es,ep,k _ o (fun z=>(hf _ z).2.1 rfl) ho,r⟩
 ·refine(I.hok b u e).stay (fun c v hc q=>k c v ?_ q) (fun _ q=>q) fun _ _ q=>q;rcases hc with z|z
  ·rw[z];exact nit b u e
  ·exact nit c _ z
theorem Inv.turnLay{t':Nat}{fp:List Addr}{a:Addr}{o:HO}(I:Inv X pins σ H s)(hf:∀ b∈fp,FpOk X pins H b)(k:∀ b o,b∉fp->s.heap.get? b=some o->h'.get? b=some o)(hp:s.heap.objs.size<=a)(new:Y0 X.prog X.w (upd H a o) h' a o):Inv X pins σ (upd H a o) { s with heap:=h',toks:=t' }:=by
 have nit:∀ b u,H b=some u->b∉fp:=fun b u e z=>by rw[(hf b z).1] at e;cases e
 have hn:H a=none:=I.hok.fresh hp;have ne:∀ b u,s.heap.get? b=some u->b≠a:=fun b u e=>ztb (zs1 (Heap.lt_size e) hp);refine I.step (g':=s.gens) (d':=s.drawn) (ch:=fp) (fun b hb=>?_) (fun b o _ _ hc e _=>k b o hc e) (fun b o _ _ hc e _=>⟨o.slots,k b o hc e⟩) (fun b u _ e n=>by rw[Zh (ne b u e)];exact n)
  (fun b o hc e=>⟨o,k b o hc e⟩) (fun b _ e=>by rw[Zh (Zg e hn)];exact e) (fun b _ _ e=>by rw[Zh (Zg e hn)];exact e) (fun b ps e=>⟨#[],by rw[Zh (Zg e hn),e];simp⟩) (fun m hm=>?_) (fun b u e=>?_) I.bare
 ·obtain⟨f0,f1,f2,f3,f4,f5⟩:=hf b hb;exact⟨f3,f1,f4,f5⟩
 ·obtain⟨o,es,ep,ho,r⟩:=hm;exact⟨o,es,ep,k _ o (fun z=>(hf _ z).2.1 rfl) ho,r⟩
 ·by_cases hb:b=a
  ·subst hb;rw[Zb] at e;cases e;exact new
  ·rw[Zh hb] at e;refine(I.hok b u e).stay (fun c v hc q=>k c v ?_ q) (fun c q=>by rw[Zh (Zg q hn)];exact q) fun c _ q=>by rw[Zh (Zg q hn)];exact q
   rcases hc with z|z
   ·rw[z];exact nit b u e
   ·exact nit c _ z
end
def Ite(K:Frag)(a:Addr):It :=
 ⟨fun i H=>∃ xs x,SqL K H a xs/\xs[i]?=some x,fun i H x H'=>∃ p y,H p=none/\(∀ xs,SqL K H a xs->xs[i]?=some y)/\x=.ref p/\H'=upd H p (.tup [.int (i:Nat),y]),fun i H=>∃ xs,SqL K H a xs/\xs.length<=i⟩
theorem zbn{P:Program}{w:World}{K:Frag}{elts:List Expr}{k:Nat}{tp:Pos}(a e it:Addr)(hne:e≠it):Et P w K (.Tuple elts k tp) (Ite K a) [e,it] e (fun i h=>(∃ old,IsEnum h e it (i:Nat) old)/\h.IsListIter it a i) where
 mem:=by simp
 obj:=fun i h st b hb=>by
  obtain⟨⟨old,h1⟩,h2⟩:=st;have e:b=e\/b=it:=by simpa using hb
  rcases e with rfl|rfl
  ·exact⟨_,h1,fun v z=>by cases z⟩
  ·obtain⟨o,e,c,d⟩:=h2;exact⟨o,e,fun v z=>by rw[d] at z;cases z⟩
 keep:=fun i h h' st k=>⟨let ⟨old,h1⟩:=st.1;⟨old,k e (by simp) _ h1⟩,st.2.at fun o q=>k it (by simp) o q⟩
 item:=by
  intro X hP hw hK hc i pins s σ H E I hf st hg;subst hP hw hK;obtain⟨xs,x,hq,hx⟩:=hg;obtain⟨its,rv,p,hz⟩:=I.list hq;obtain⟨u,hu,ru⟩:=rv.get hx;obtain⟨⟨old,h1⟩,h2⟩:=st;refine wpAny_pyNext_enum_item h1 h2 p.isList (x:=u) (by simpa using hu) hne fun h' o1 o2 o3 o4 o5=>?_;refine⟨_,rfl,wpAny_letOwnedTupleGo_enum o1 fun h'' e1 sb=>?_⟩;have hes:e≠s.heap.objs.size:=fun z=>by
   exact zt6 _ (z▸Heap.lt_size h1)
  have kk:∀ b o,b∉[e,it]->s.heap.get? b=some o->h''.get? b=some o:=fun b o hb q=>by
   have hb':b≠e/\b≠it:=by simpa using hb
   exact(sb.2 b hb'.1).trans (o5 b o hb'.1 hb'.2 q)
  have new:h''.get? s.heap.objs.size=some { cls:=Value.type "tuple",data:=Data.seq #[Value.int (i:Nat) s.toks,u] }:=(sb.2 _ (Ne.symm hes)).trans o3;have line:=Pq;refine⟨.ref s.heap.objs.size,_,I.turnLay (t':=s.toks+1) (o:=.tup [.int (i:Nat),x]) hf kk (zst _) ⟨?_,_,.cons ⟨s.toks,rfl⟩ (.cons ru .nil),⟨_,new,rfl,_,rfl⟩⟩,rfl,⟨_,x,I.hok.fresh (zst _),fun ys hy=>by rw[I.list_inj hy hq];exact hx,rfl,rfl⟩,⟨⟨u,e1⟩,o2.at fun o q=>(sb.2 it (Ne.symm hne)).trans q⟩,fun b hb=>?_⟩
  ·show 2<=sizeLine;rw[sizeLine_eq];decide
  ·have hb':b=e\/b=it:=by simpa using hb
   have hlt:b<s.heap.objs.size:=by
    rcases hb' with rfl|rfl
    ·exact Heap.lt_size h1
    ·obtain⟨o,q,_⟩:=h2;exact Heap.lt_size q
   rw[Zh (ztb hlt)];exact(hf b hb).1
 done:=by
  intro X hP hw hK hc i pins s σ H E I hf st hg;subst hP hw hK;obtain⟨xs,hq,hx⟩:=hg;obtain⟨its,rv,p,hz⟩:=I.list hq;obtain⟨⟨old,h1⟩,h2⟩:=st;have hl:=rv.length;exact wpAny_pyNext_enum_end (I.ok.hd hc) h1 h2 p.isList (by simp;omega) fun h' eb=>⟨rfl,I.turnedL (t':=s.toks) hf fun b o hb q=>eb b o (fun z=>hb (by simp[z])) q⟩
 self:=fun _ _ _ _ _ st h=>by
  obtain⟨⟨old,h1⟩,h2⟩:=st;exact wpAny_pyIter_enum h1 h
inductive zhf(K:Frag)(R:It->Hp->Prop)(vs:List V)(H1:Hp):Prop where
 | mk(a)(_:vs=[.ref a])(_:(∃ xs,SqL K H1 a xs))(_:R (Ite K a) H1)
def ziz(K:Frag)(ta:TA):TI:=fun σ H R=>ta σ H fun vs H1=>zhf K R vs H1
theorem zfb{X:Cx}{K:Frag}{elts:List Expr}{k:Nat}{tp:Pos}{a:Expr}{ta:TA}{p pos:Pos}(hK:X.K=K)(hg:Gl X "enumerate")(hm:X.mg "enumerate"=none)(ha:PA X [a] ta)(hs:starEach [a] X.env=[(false,eval a X.env)]:=by rfl):PI X (.Tuple elts k tp) (.Call (.Name "enumerate" p) [a] [] pos) (ziz K ta):=by
 subst hK;intro pins s σ H R I h;refine Call_ (Po I hg hm boot_enumerate (PyProof.Rows.callWith_type1 (thn (ha pos pins s σ H _ I h) fun us s1 ⟨vs,H1,I1,r1,q1⟩=>?_) hs rfl));obtain⟨a,e,⟨xs,hq⟩,q⟩:=q1;subst e;obtain⟨u,rfl,ru⟩:=Oz r1;cases ru;obtain⟨its,rv,pl,hz⟩:=I1.list hq;refine call_enumerate_list pl.isList fun h' e1 e2 e3 e4=>?_;refine wpAny_pyIter_enum e1 ?_;refine⟨_,[s1.heap.objs.size+1,s1.heap.objs.size],_,_,H1,rfl,I1.kept (t':=s1.toks) e4,zbn a _ _ (Nat.succ_ne_self _),⟨⟨_,e1⟩,e2⟩,fun b hb=>?_,q⟩;have e:b=s1.heap.objs.size+1\/b=s1.heap.objs.size:=by simpa using hb
 rcases e with rfl|rfl
 ·exact I1.fpOk (Nat.le_succ _) (I1.hok.fresh (Nat.le_succ _))
 ·exact I1.fpOk (zst _) (I1.hok.fresh (zst _))
theorem zdn{K:Frag}{a:Addr}{xs:List V}{g:TG}{tb:TS}{D:Ox}{σ:St}{H:Hp}(Pv:Nat->St->Hp->Prop)(h0:Pv 0 σ H)(hl:∀ i σ H,i<=xs.length->Pv i σ H->SqL K H a xs)
  (hs:∀ i x p σ H,xs[i]?=some x->Pv i σ H->H p=none->g (.ref p) σ (upd H p (.tup [.int (i:Nat),x])) fun σ2 H2=>tb { D with nx:=Pv (i+1),ct:=Pv (i+1),bk:=D.nx } σ2 H2) (hd:∀ σ H,Pv xs.length σ H->D.nx σ H) :
  ∃ W:Nat->Nat->St->Hp->Prop,(∃ m,W 0 m σ H)/\∀ i m σ H,W i m σ H ->
    ((Ite K a).stop i H/\D.nx σ H)\/((Ite K a).go i H/\∃ N:St->Hp->Prop,(∀ σ' H',N σ' H'->∃ m',m' < m/\W (i+1) m' σ' H')/\∀ x H',(Ite K a).yld i H x H'->g x σ H' fun σ2 H2=>tb { D with nx:=N,ct:=N,bk:=D.nx } σ2 H2):=by
 refine⟨fun i m σ H=>m=xs.length-i/\i<=xs.length/\Pv i σ H,⟨xs.length,by simp,zs9 _,h0⟩,?_⟩;rintro i m σ H ⟨rfl,hi,p⟩;have q:=hl i σ H hi p;by_cases hlt:i<xs.length
 ·refine .inr ⟨⟨xs,xs[i],q,by simp[hlt]⟩,Pv (i+1),fun σ' H' p'=>⟨xs.length-(i+1),by omega,rfl,hlt,p'⟩,fun x H' y=>?_⟩;obtain⟨t,y,h1,h2,rfl,rfl⟩:=y;exact hs i y t σ _ (h2 xs q) p h1
 ·have e:i=xs.length:=by omega
  subst e;exact .inl ⟨⟨xs,q,zst _⟩,hd σ H p⟩
def Itz(K:Frag)(a b:Addr):It :=
 ⟨fun i H=>∃ xs ys x y,SqL K H a xs/\SqL K H b ys/\xs[i]?=some x/\ys[i]?=some y,fun i H x H'=>∃ p y z,H p=none/\(∀ xs,SqL K H a xs->xs[i]?=some y)/\(∀ ys,SqL K H b ys->ys[i]?=some z)/\x=.ref p/\H'=upd H p (.tup [y,z]),
  fun i H=>∃ xs ys,SqL K H a xs/\SqL K H b ys/\(xs.length<=i\/ys.length<=i)⟩
theorem zdo{P:Program}{w:World}{K:Frag}{elts:List Expr}{k:Nat}{tp:Pos}(l1 l2 z TI TO i1 i2:Addr)(hz:ZipApart z TI TO i1 i2 l1 l2):Et P w K (.Tuple elts k tp) (Itz K l1 l2) [z,TO,i1,i2,TI] z
  (fun i h=>IsZip h z TI TO Value.none/\IsPair h TI (Value.ref i1) (Value.ref i2)/\(∃ a b,IsPair h TO a b)/\h.IsListIter i1 l1 i/\h.IsListIter i2 l2 i) where
 mem:=by simp
 obj:=fun i h st b hb=>by
  obtain⟨h1,h2,⟨a,b',h3⟩,h4,h5⟩:=st;have e:b=z\/b=TO\/b=i1\/b=i2\/b=TI:=by simpa using hb
  rcases e with rfl|rfl|rfl|rfl|rfl
  ·exact⟨_,h1,fun v z=>by cases z⟩
  ·exact⟨_,h3,fun v z=>by cases z⟩
  ·obtain⟨o,e,c,d⟩:=h4;exact⟨o,e,fun v z=>by rw[d] at z;cases z⟩
  ·obtain⟨o,e,c,d⟩:=h5;exact⟨o,e,fun v z=>by rw[d] at z;cases z⟩
  ·exact⟨_,h2,fun v z=>by cases z⟩
 keep:=fun i h h' st k=>by
  obtain⟨h1,h2,⟨a,b',h3⟩,h4,h5⟩:=st;exact⟨k z (by simp) _ h1,k TI (by simp) _ h2,⟨a,b',k TO (by simp) _ h3⟩,h4.at fun o q=>k i1 (by simp) o q,h5.at fun o q=>k i2 (by simp) o q⟩
 item:=by
  intro X hP hw hK hc i pins s σ H E I hf st hg;subst hP hw hK;obtain⟨xs,ys,x,y,hq,hq2,hx,hy⟩:=hg;obtain⟨its,rv,p,_⟩:=I.list hq;obtain⟨its2,rv2,p2,_⟩:=I.list hq2;obtain⟨u,hu,ru⟩:=rv.get hx;obtain⟨u2,hu2,ru2⟩:=rv2.get hy;obtain⟨h1,h2,⟨a,b',h3⟩,h4,h5⟩:=id st;refine wpAny_pyNext_zip_item hz h1 h2 h3 h4 h5 p.isList p2.isList (x:=u) (y:=u2) (by simpa using hu) (by simpa using hu2) fun h' o1 o2 o3 o4 o5 o6 o7=>?_;refine⟨_,rfl,wpAny_letOwnedTupleGo_zip o1 fun h'' e1 sb=>?_⟩;have lt:∀ b o,s.heap.get? b=some o->b≠s.heap.objs.size:=fun b o q=>ztb (Heap.lt_size q);have kk:∀ b o,b∉[z,TO,i1,i2,TI]->s.heap.get? b=some o->h''.get? b=some o:=fun b o hb q=>by
   have hb':b≠z/\b≠TO/\b≠i1/\b≠i2/\b≠TI:=by simpa using hb
   exact(sb.2 b hb'.1).trans (o7 b o hb'.1 hb'.2.1 hb'.2.2.1 hb'.2.2.2.1 q)
  have new:h''.get? s.heap.objs.size=some { cls:=Value.type "tuple",data:=Data.seq #[u,u2] }:=(sb.2 _ (Ne.symm (lt _ _ h1))).trans o5;refine⟨.ref s.heap.objs.size,_,I.turnLay (t':=s.toks) (o:=.tup [x,y]) hf kk (zst _) ⟨?_,_,.cons ru (.cons ru2 .nil),⟨_,new,rfl,_,rfl⟩⟩,rfl,⟨_,x,y,I.hok.fresh (zst _),fun zs hy'=>by rw[I.list_inj hy' hq];exact hx,fun zs hy'=>by rw[I.list_inj hy' hq2];exact hy,rfl,rfl⟩,
   ⟨e1,(sb.2 _ hz.TIz).trans (o7 _ _ hz.TIz hz.TITO hz.TIi1 hz.TIi2 h2),⟨_,_,(sb.2 _ hz.TOz).trans o2⟩,o3.at fun o q=>(sb.2 _ hz.i1z).trans q,o4.at fun o q=>(sb.2 _ hz.i2z).trans q⟩,fun b hb=>?_⟩
  ·show 2<=sizeLine;rw[sizeLine_eq];decide
  ·have hne:b≠s.heap.objs.size:=by
    have e:b=z\/b=TO\/b=i1\/b=i2\/b=TI:=by simpa using hb
    rcases e with rfl|rfl|rfl|rfl|rfl
    ·exact lt _ _ h1
    ·exact lt _ _ h3
    ·obtain⟨o,q,_⟩:=h4;exact lt _ _ q
    ·obtain⟨o,q,_⟩:=h5;exact lt _ _ q
    ·exact lt _ _ h2
   rw[Zh hne];exact(hf b hb).1
 done:=by
  intro X hP hw hK hc i pins s σ H E I hf st hg;subst hP hw hK;obtain⟨xs,ys,hq,hq2,hx⟩:=hg;obtain⟨its,rv,p,_⟩:=I.list hq;obtain⟨its2,rv2,p2,_⟩:=I.list hq2;obtain⟨h1,h2,⟨a,b',h3⟩,h4,h5⟩:=st;have hl:=rv.length;have hl2:=rv2.length;exact wpAny_pyNext_zip_end (I.ok.hd hc) hz h1 h2 h3 h4 h5 p.isList p2.isList (hx.imp (fun z=>by simp;omega) fun z=>by simp;omega) fun h' eb=>⟨rfl,I.turnedL (t':=s.toks) hf fun b o hb q=>by
   have hb':b≠z/\b≠TO/\b≠i1/\b≠i2/\b≠TI:=by simpa using hb
   exact eb b o hb'.1 hb'.2.1 hb'.2.2.1 hb'.2.2.2.1 q⟩
 self:=fun _ _ _ _ _ st h=>wpAny_pyIter_zip st.1 h
inductive zi0(K:Frag)(R:It->Hp->Prop)(vs:List V)(H1:Hp):Prop where
 | mk(a)(b)(_:vs=[.ref a,.ref b])(_:(∃ xs,SqL K H1 a xs))(_:(∃ ys,SqL K H1 b ys))(_:R (Itz K a b) H1)
def zjn(K:Frag)(ta:TA):TI:=fun σ H R=>ta σ H fun vs H1=>zi0 K R vs H1
theorem zhg{X:Cx}{K:Frag}{elts:List Expr}{k:Nat}{tp:Pos}{a b:Expr}{ta:TA}{p pos:Pos}(hK:X.K=K)(hg:Gl X "zip")(hm:X.mg "zip"=none)(ha:PA X [a,b] ta)(hs:starEach [a,b] X.env=[(false,eval a X.env),(false,eval b X.env)]:=by rfl)(hs2:starEach [b] X.env=[(false,eval b X.env)]:=by rfl):PI X (.Tuple elts k tp) (.Call (.Name "zip" p) [a,b] [] pos) (zjn K ta):=by
 subst hK;intro pins s σ H R I h;refine Call_ (Po I hg hm boot_zip (PyProof.Rows.callWith_type1 (thn (ha pos pins s σ H _ I h) fun us s1 ⟨vs,H1,I1,r1,q1⟩=>?_) (by rw[hs,hs2]) (by rw[hs2];rfl)));obtain⟨a,b,e,⟨xs,hq⟩,⟨ys,hq2⟩,q⟩:=q1;subst e;cases r1 with
 | cons r rr =>
   obtain⟨u,rfl,ru⟩:=Oz rr;cases r;cases ru;obtain⟨its,rv,pl,hz⟩:=I1.list hq;obtain⟨its2,rv2,pl2,hz2⟩:=I1.list hq2;have lt1:@LT.lt Nat _ a s1.heap.objs.size:=by obtain⟨_,e,_⟩:=pl.isList;exact Heap.lt_size e
   have lt2:@LT.lt Nat _ b s1.heap.objs.size:=by obtain⟨_,e,_⟩:=pl2.isList;exact Heap.lt_size e
   refine call_zip_2 pl.isList pl2.isList fun h' e1 e2 e3 e4 e5 e6 e7=>?_;refine wpAny_pyIter_zip e1 ?_;refine⟨_,[s1.heap.objs.size+4,s1.heap.objs.size+3,s1.heap.objs.size,s1.heap.objs.size+1,s1.heap.objs.size+2],_,_,H1,rfl,I1.kept (t':=s1.toks) e7,zdo a b _ _ _ _ _ ?_,⟨e1,e2,⟨_,_,e3⟩,e4,e5⟩,fun c hb=>?_,q⟩
   ·refine⟨?_,?_,?_,?_,?_,?_,?_,?_,?_,?_,?_,?_,?_,?_,?_,?_,?_,?_⟩<;>(show @Ne Nat _ _;omega)
   have e:c=s1.heap.objs.size+4\/c=s1.heap.objs.size+3\/c=s1.heap.objs.size\/c=s1.heap.objs.size+1\/c=s1.heap.objs.size+2:=by simpa using hb
   have hle:s1.heap.objs.size<=c:=by rcases e with rfl|rfl|rfl|rfl|rfl<;>omega
   exact I1.fpOk hle (I1.hok.fresh hle)
section
variable{X:Cx}{pins:List (Addr×Obj)}{σ:List (Option V)}{H H':Hp}{s:Shared}{h':Heap}
theorem Inv.freeze(I:Inv X pins σ H s)(e:H a=some (.dK kvs))(ho:s.heap.get? a=some o):Inv X pins σ (upd H a (.frz o (.dK kvs))) s:=by
 have na:∀ b u,H b=some u->u≠.dK kvs->b≠a:=fun b u q n z=>by subst z;rw[q] at e;exact n (Option.some.inj e)
 refine I.un (h':=s.heap) (t':=s.toks) ⟨fun b o q _ _ _=>q,fun b o q _ _ _=>⟨o.slots,q⟩,fun b o q n _=>?_,fun b o q _=>⟨o,q⟩,fun b ys q=>?_,fun b o v q=>?_,fun b ps q=>⟨#[],?_⟩⟩ fun b u q=>?_
 ·rw[Zh (fun z=>by subst z;rw[n] at e;cases e)];exact n
 ·rw[Zh (na b _ q fun z=>nomatch z)];exact q
 ·rw[Zh (na b _ q fun z=>nomatch z)];exact q
 ·rw[Zh (na b _ q fun z=>nomatch z),q];simp
 ·have stay:∀ {b u},Y0 X.prog X.w H s.heap b u->Y0 X.prog X.w (upd H a (.frz o (.dK kvs))) s.heap b u:=fun {b u} k=>k.stay (fun _ _ _ q=>q) (fun c q=>by rw[Zh (na c _ q fun z=>nomatch z)];exact q) fun c _ q=>by rw[Zh (na c _ q fun z=>nomatch z)];exact q
  by_cases hb:b=a
  ·subst hb;rw[Zb] at q;cases q;exact⟨ho,stay (I.hok b _ e)⟩
  ·rw[Zh hb] at q;exact stay (I.hok b u q)
end
def Itk(a:Addr)(o:Obj)(kvs:List (Key×V)):It :=
 ⟨fun i H=>H a=some (.frz o (.dK kvs))/\i<kvs.length,fun i H x H'=>H'=H/\∃ p,kvs[i]?=some p/\x=kV p.1,fun i H=>H a=some (.frz o (.dK kvs))/\kvs.length<=i⟩
theorem zdp(I:Inv X pins σ H s)(e:H a=some (.frz o (.dK kvs))):∃ vs,KV kvs vs/\∃ es ep,o.data=.dict es ep/\s.heap.DictAt (Yo X.prog X.w) a vs ep:=by
 obtain⟨h1,hz,hm,vs,kv,o',es,ep,h2,h3,h4,h5⟩:=(show Y0 X.prog X.w H s.heap a (.frz o (.dK kvs)) from I.hok a _ e);rw[h1] at h2;cases h2;exact⟨vs,kv,es,ep,h4,o,es,h1,h3,h4,h5⟩
theorem zbo{P:Program}{w:World}{K:Frag}{tg:Expr}(a it:Addr)(o:Obj)(kvs:List (Key×V))(es:Array DictEntry)(ep:Nat)(ho:o.data=.dict es ep):Et P w K tg (Itk a o kvs) [it] it (fun i h=>h.IsKeyIter it a i kvs.length ep) where
 mem:=by simp
 obj:=fun i h st b hb=>by
  have e:b=it:=by simpa using hb
  subst e;obtain⟨o,e,c,d⟩:=st;exact⟨o,e,fun v z=>by rw[d] at z;cases z⟩
 keep:=fun i h h' st k=>by
  obtain⟨o,e,c,d⟩:=st;exact⟨o,k it (by simp) o e,c,d⟩
 item:=by
  intro X hP hw hK hc i pins s σ H E I hf st hg;subst hP hw hK;obtain⟨hq,hi⟩:=hg;obtain⟨vs,kv,es',ep',h1,h2⟩:=zdp I hq;rw[ho] at h1;cases h1;obtain⟨f0,f1,f2,f3,f4,f5⟩:=hf it (by simp);have hl:kvs.length=vs.length:=KV.length kv;have hv:i<vs.length:=by omega
  obtain⟨⟨k,v⟩,hkv⟩:∃ kv,vs[i]'hv=kv:=⟨_,rfl⟩;rw[hl] at st;refine wpAny_pyNext_dict_item st h2 (k:=k) (v:=v) (by rw[zsl hv,hkv]) fun key h' hk st' sb=>?_;have I1:Inv X pins σ H { s with heap:=h' }:=I.turned (t':=s.toks) (fun b o hb e=>(sb.2 b hb).trans e) f0 f1 f3 f4 f5;obtain⟨o2,e2,c2,d2⟩:=id st';have ek:=congrArg (·[i]?) (KV.keys kv);simp only[zsr,zsl hv,zsl hi,hkv,ztr] at ek;refine⟨key,rfl,zcg (s:={ s with heap:=h' }) e2 c2 d2 ⋯ ⟨kV (kvs[i]'hi).1,H,I1,?_,⟨rfl,_,zsl hi,rfl⟩,by rw[hl];exact st',fun b hb=>(hf b hb).1⟩⟩;have e3:(kvs[i]'hi).1=k:=Option.some.inj ek;rw[e3];rcases Yx hk with ⟨j,t,rfl,rfl⟩|⟨z,t,rfl,rfl⟩
  ·exact⟨t,rfl⟩
  ·exact⟨t,rfl⟩
 done:=by
  intro X hP hw hK hc i pins s σ H E I hf st hg;subst hP hw hK;obtain⟨hq,hi⟩:=hg;obtain⟨vs,kv,es',ep',h1,h2⟩:=zdp I hq;rw[ho] at h1;cases h1;obtain⟨f0,f1,f2,f3,f4,f5⟩:=hf it (by simp);have hl:kvs.length=vs.length:=KV.length kv;rw[hl] at st;exact wpAny_pyNext_dict_end (I.ok.hd hc) st h2 (List.getElem?_eq_none ⋯) fun h' eb=>⟨rfl,I.turned (t':=s.toks) (fun b o hb e=>eb b o hb e) f0 f1 f3 f4 f5⟩
 self:=fun _ _ _ _ _ st h=>wpAny_pyIter_keyiter st h
inductive zhh(R:It->Hp->Prop)(x:V)(H1:Hp):Prop where
 | mk(a)(kvs)(_:x=.ref a)(_:H1 a=some (.dK kvs))(_:∀ o,R (Itk a o kvs) (upd H1 a (.frz o (.dK kvs))))
def zi1(tl:TE):TI:=fun σ H R=>tl σ H fun x H1=>zhh R x H1
theorem zfc{X:Cx}{tg:Expr}{l:Expr}{tl:TE}(hl:PE X l tl):PI X tg l (zi1 tl):=by
 intro pins s σ H R I h;refine thn (hl pins s σ H _ I h) fun v s1 ⟨x,H1,I1,r1,q1⟩=>?_;obtain⟨a,kvs,e,hq,q⟩:=q1;subst e;cases r1;obtain⟨hz,hm,vs,kv,o,es,ep,h2,h3,h4,h5⟩:=(show Y0 X.prog X.w H1 s1.heap a (.dK kvs) from I1.hok a _ hq);have hl:kvs.length=vs.length:=KV.length kv;have I2:=I1.freeze hq h2;refine wpAny_pyIter_dict hm ⟨o,es,h2,h3,h4,h5⟩ ?_;refine⟨s1.heap.objs.size,[s1.heap.objs.size],_,_,_,rfl,I2.kept (t':=s1.toks) fun b o e=>Heap.get?_push_of_some _ e,zbo a _ o kvs es ep h4,⟨_,Heap.get?_push_size _ rfl,rfl,by rw[hl];rfl⟩,fun b hb=>?_,q o⟩;have e:b=s1.heap.objs.size:=by simpa using hb
 subst e;exact I2.fpOk (zst _) (I2.hok.fresh (zst _))
theorem zdq{a:Addr}{o:Obj}{kvs:List (Key×V)}{g:TG}{tb:TS}{D:Ox}{σ:St}{H:Hp}(Pv:Nat->St->Hp->Prop)(h0:Pv 0 σ H)(hl:∀ i σ H,i<=kvs.length->Pv i σ H->H a=some (.frz o (.dK kvs)))
  (hs:∀ i k v σ H,kvs[i]?=some (k,v)->Pv i σ H->g (kV k) σ H fun σ2 H2=>tb { D with nx:=Pv (i+1),ct:=Pv (i+1),bk:=D.nx } σ2 H2) (hd:∀ σ H,Pv kvs.length σ H->D.nx σ H) :
  ∃ W:Nat->Nat->St->Hp->Prop,(∃ m,W 0 m σ H)/\∀ i m σ H,W i m σ H ->
    ((Itk a o kvs).stop i H/\D.nx σ H)\/((Itk a o kvs).go i H/\∃ N:St->Hp->Prop,(∀ σ' H',N σ' H'->∃ m',m' < m/\W (i+1) m' σ' H')/\∀ x H',(Itk a o kvs).yld i H x H'->g x σ H' fun σ2 H2=>tb { D with nx:=N,ct:=N,bk:=D.nx } σ2 H2):=by
 refine⟨fun i m σ H=>m=kvs.length-i/\i<=kvs.length/\Pv i σ H,⟨kvs.length,by simp,zs9 _,h0⟩,?_⟩;rintro i m σ H ⟨rfl,hi,p⟩;have q:=hl i σ H hi p;by_cases hlt:i<kvs.length
 ·refine .inr ⟨⟨q,hlt⟩,Pv (i+1),fun σ' H' p'=>⟨kvs.length-(i+1),by omega,rfl,hlt,p'⟩,fun x H' y=>?_⟩;obtain⟨e,⟨k,v⟩,y,rfl⟩:=y;subst e;exact hs i k v σ _ y p
 ·have e:i=kvs.length:=by omega
  subst e;exact .inl ⟨⟨q,zst _⟩,hd σ H p⟩
theorem zbp(hc:X.calm=true):Ui X (.builtin "max") (fun xs H Q=>∃ (l:Addr) (kvs:List (Key×V)) (ns:List Int),xs=[.ref l]/\Rd H l (.dK kvs)/\kvs.map (·.1)=ns.map inl/\0<ns.length/\∀ M,M∈ns->(∀ a∈ns,a<=M)->Q (.int M) H):=by
 intro pins s σ H xs us Q I r h;obtain⟨l,kvs,ns,rfl,hl,hns,hpos,q⟩:=h;obtain⟨u,rfl,ru⟩:=Oz r;cases ru;obtain⟨hz,hm,vs,kv,o,es,ep,h2,h3,h4,h5⟩:=Rx I.hok hl;have hlen:vs.length=ns.length:=by
  have e1:=KV.length kv;have e2:=congrArg List.length hns;rw[zsk,zsk] at e2;omega
 have hlt:l<s.heap.objs.size:=Heap.lt_size h2;have da:s.heap.DictAt (Yo X.prog X.w) l vs ep:=⟨o,es,h2,h3,h4,h5⟩;have val:∀ (i:Nat) (v:Value),(∃ k y,vs[i]?=some (k,y)/\(Yo X.prog X.w).is k v=true)->∃ t,v=.int (ns.getD i 0) t:=fun i v ⟨k,y,hk,hv⟩=>by
  have e1:=congrArg (·[i]?) (KV.keys kv);have e2:=congrArg (·[i]?) hns;simp only[zsr,hk,ztr] at e1 e2;rw[e1] at e2;have hi:i<ns.length:=by
   rw[<- hlen];exact(zsm.mp hk).1
  rw[zsl hi] at e2;have e3:k=inl (ns[i]'hi):=Option.some.inj e2;have e4:ns.getD i 0=ns[i]'hi:=by rw[ztc,zsl hi];rfl
  rw[e4];rcases Yx hv with ⟨j,t,rfl,rfl⟩|⟨z,t,rfl,rfl⟩
  ·cases e3;exact⟨t,rfl⟩
  ·cases e3
 refine call_max_walk (wpAny_pyIter_dict hm da ?_);refine⟨s.heap.objs.size,[s.heap.objs.size,l],[s.heap.objs.size],vs.length,_,_,_,rfl,Walks.dictKeys (knd:=Yo X.prog X.w) (A:=X.A.in1) (I.ok.hd hc) _ l (ztb hlt) vs ep,⟨⟨_,Heap.get?_push_size _ rfl,rfl,rfl⟩,da.push _⟩,fun b hb=>?_,by omega,CmpOf.ints_gt (fun i=>ns.getD i 0) (fun i v hv=>val i v hv),fun v h' tk hP hk=>?_⟩
 ·show b<(s.heap.push _).objs.size;rw[Heap.size_push];rcases zso.mp hb with rfl|hb
  ·exact Nat.lt_succ_self _
  ·rcases zso.mp hb with rfl|hb
   ·exact zuh hlt
   ·cases hb
 ·obtain⟨h1,h2⟩:=argBest_gt (fun i=>ns.getD i 0) (vs.length-1);obtain⟨t,rfl⟩:=val _ v hP;rw[hlen] at h1 h2 ⊢;generalize argBest (fun i j=>decide ((fun i=>ns.getD i 0) i>(fun i=>ns.getD i 0) j)) (ns.length-1)=b at h1 h2 ⊢;have hb:b<ns.length:=by omega
  have eg:∀ (k:Nat) (hk:k<ns.length),ns.getD k 0=ns[k]'hk:=fun k hk=>by rw[ztc,zsl hk];rfl
  refine⟨.int (ns.getD b 0),H,I.kept fun c o e=>?_,⟨_,rfl⟩,q _ (by rw[eg b hb];exact ztf hb) fun x hx=>?_⟩
  ·refine hk c o (fun hm=>?_) (Heap.get?_push_of_some _ e);rw[zsp.mp hm] at e;exact zt6 _ (Heap.lt_size e)
  ·obtain⟨k,hk',rfl⟩:=ztn hx;have:=h2 k ⋯;show ns[k]<=_;rw[<- eg k hk'];exact this
theorem Py(I:Nat->Shared->Prop)
  (turn:∀ (n:Nat) (s:Shared),I n s->wpAny (model prog w) A (pyNext it) (fun r s₁=>match r with
   | none=>R (.ok .next) s₁
   | some v=>wpAny (model prog w) A (letOwnedTupleGo target it v) (fun _ s₁'=>wpAny (model prog w) A (assign target env v) (fun _ s₂=>wpAny (model prog w) A (forIn ifs true fun c r=>if r=true then do let ok <- isTrue c env (eval c env);pure (ForInStep.yield ok) else pure (ForInStep.yield r)) (fun ok s₃=>if ok=true then wpAny (model prog w) A (eval elt env) (fun x s₄=>wpAny (model prog w) A (call (.builtin "list.append") [acc,x]) (fun _ s₅=>∃ m,m<n/\I m s₅) (notedBy (model prog w) A env fun e s'=>R (.error e) s') s₄) (notedBy (model prog w) A env fun e s'=>R (.error e) s') s₃ else ∃ m,m<n/\I m s₃) (notedBy (model prog w) A env fun e s'=>R (.error e) s') s₂) (notedBy (model prog w) A env fun e s'=>R (.error e) s') s₁') (notedBy (model prog w) A env fun e s'=>R (.error e) s') s₁) (notedBy (model prog w) A env fun e s'=>R (.error e) s') s)
  (n:Nat) (h:I n s):codeAny (model prog w) A (.compLoop (.ListComp elt [⟨target,iter,ifs,0⟩] scope pos) 0 it acc env) R s:=by
 refine codeAny_loop rfl I (fun n s hI=>?_) n h;refine wpAny_noted ?_;rw[compTurn_list];refine wpAny_bind (wpAny_standAt (wpAny_bind (wpAny_mono (turn n s hI) (fun r s₁ h₁=>?_) fun _ _ z=>z)));cases r with
 | none=>exact wpAny_pure h₁
 | some v =>
   refine wpAny_bind (wpAny_mono h₁ (fun _ s₁' h₂=>wpAny_bind (wpAny_mono h₂ (fun _ s₂ h₃=>wpAny_bind (wpAny_mono h₃ (fun ok s₃ h₄=>?_) fun _ _ z=>z)) fun _ _ z=>z)) fun _ _ z=>z);cases ok with
   | false =>
     simp only[ztw,if_false] at h₄ ⊢;exact wpAny_pure ⟨rfl,h₄⟩
   | true =>
     simp only[if_true] at h₄ ⊢;refine wpAny_bind (wpAny_bind (wpAny_mono h₄ (fun x s₄ h₅=>wpAny_bind (wpAny_mono h₅ (fun _ s₅ h₆=>wpAny_pure (wpAny_pure ⟨rfl,h₆⟩)) fun _ _ z=>z)) fun _ _ z=>z))
def cs0(xo:List Str)(js:List Nat)(σ:St):St:=(xo.map fun _=>none)++js.map fun j=>(σ[j]?).getD none
def Qy(xo:List Str)(js:List Nat)(σ σ2:St):Prop:=∃ os:St,os.length=xo.length/\σ2=os++js.map fun j=>(σ[j]?).getD none
theorem Qy.weak(o:Qy xo js σ σ2)(I:Inv X pins σ2 H s):Inv X pins (cs0 xo js σ) H s:=by
 obtain⟨os,hl,rfl⟩:=o;refine I.weak (by unfold cs0;simp[hl]) fun i v e=>?_;unfold cs0 at e;by_cases hi:i<xo.length
 ·rw[zti (by rw[zsk];exact hi),zsr,zsl hi] at e;cases e
 ·rw[zth (by rw[zsk];omega),zsk] at e;rw[zth ⋯,hl];exact e
def Br(J:It)(xo:List Str)(js:List Nat)(g:TG)(tt:TT)(te:TE)(σ:St)(H:Hp)(Q:VK):Prop:=∃ W:Nat->Nat->List V->Hp->Prop,(∃ m,W 0 m [] H)/\∀ i m ys H,W i m ys H ->
 (J.stop i H/\ys.length<=sizeLine/\∀ p,H p=none->Q (.ref p) (upd H p (.lst ys))) \/
 (J.go i H/\ys.length<sizeLine/\∃ N:List V->Hp->Prop,(∀ ys' H',N ys' H'->∃ m',m' < m/\W (i+1) m' ys' H')/\∀ x H',J.yld i H x H'->g x (cs0 xo js σ) H' fun σ2 H1=>Qy xo js σ σ2/\tt σ2 H1 fun b H2=>if b=true then te σ2 H2 fun y H3=>N (ys++[y]) H3 else N ys H2)
def zhi(wi:TI)(xo:List Str)(js:List Nat)(g:TG)(tt:TT)(te:TE):TE:=fun σ H Q=>wi σ H fun J H1=>Br J xo js g tt te σ H1 Q
section
variable{X:Cx}{elt iter tg:Expr}{xo:List Str}{pos:Pos}{ifs:List Expr}{scope:Scope}{cl:List (Str×Addr)}{ys:List Str}{js:List Nat}{g:TG}
structure M4(X:Cx)(xo:List Str)(scope:Scope)(cl:List (Str×Addr))(ys:List Str)(js:List Nat):Prop where
 clos:closureFor scope X.env=pure cl
 kind:scope.kind=.function
 names:∀ y∈scope.names,y.2=.local->scope.names.lookup y.1=some .local
 nocell:∀ y∈scope.names,y.2≠.cell
 at_:js.map (X.N[·]?)=ys.map some
 free:Ip (fun y=>X.env.kindOf y=some .cell/\(relabel scope X.env).names.lookup y=some .cell/\cl.lookup y=X.env.cells.lookup y) ys
 only:Ip (fun p=>X.env.cells.lookup p.1=some p.2) cl
 vis:∀ y∈scope.names,y.2=.free->y.1∈ys
theorem M4.same(c:M4 X xo scope cl ys js)(h:cl.lookup y=some a):X.env.cells.lookup y=some a:=c.only.get (PySem.mem_of_lookup h)
theorem zdr(c:M4 X xo scope cl ys js)(I:Inv X pins σ H s)(hf:∀ b∈fp,FpOk X pins H b)(hex:∀ b∈fp,b<s.heap.objs.size)(hC:s.heap.objs.size<=C) :
  (Yv X pn Nc scope cl s H fp C).Ok where
 mod:=I.ok.mod
 kind:=c.kind
 glob:=I.ok.glob
 blt:=I.ok.blt
 above:=hC
 inj:=fun y z a h1 h2=>I.ok.inj y z a (c.same h1) (c.same h2)
 has:=fun y h=>by
  obtain⟨k,m,q⟩:=O3 h;rcases q with rfl|rfl
  ·exact absurd rfl (c.nocell _ m)
  ·obtain⟨a1,a2,a3⟩:=c.free.get (c.vis _ m rfl);obtain⟨a,ha⟩:=I.ok.has y (.inl a1);exact⟨a,a3.trans ha⟩
 cab:=fun _ _ h=>by cases h
 hd:=I.ok.hd
 frames:=I.ok.frames
 stk:=.inl rfl
 exf:=fun b hb=>by
  obtain⟨f0,f1,f2,f3,f4,f5⟩:=hf b hb;exact⟨ztb (zs1 (hex b hb) hC),fun y a h=>f4 y a (c.same h)⟩
 bs:=I.bs
 bsz:=zs2 I.ok.bsz I.sz
 noex:=fun b o q hb=>by
  obtain⟨f0,f1,f2,f3,f4,f5⟩:=hf b hb;rcases f3 with z|z
  ·exact I.ok.noex b o q z
  ·exact absurd (zs1 (Heap.lt_size (I.ok.bs b o q).1) z) (zt6 _)
 exfs:=fun b hb m=>by
  obtain⟨f0,f1,f2,f3,f4,f5⟩:=hf b hb;exact(zso.mp (I.stkSub b m)).elim f1 f2
 funs:=I.stack
 frf:=I.stkFree
theorem zbq(c:M4 X xo scope cl ys js)(I:Inv X pins σ H s)(hf:∀ b∈fp,FpOk X pins H b)(hex:∀ b∈fp,b<s.heap.objs.size)(hC:s.heap.objs.size<=C)
  (hns:h1.Ns C m1) (old:∀ b o,s.heap.get? b=some o->h1.get? b=some o) :
  Inv (Yv X (X.pn++pins) (xo++ys) scope cl s H fp C) [] (cs0 xo js σ) H { s with heap:=h1,toks:=t1 }:=by
 obtain⟨m,hn,hl⟩:=I.loc;have jl:js.length=ys.length:=by have:=congrArg List.length c.at_;simpa using this
 refine⟨zdr c I hf hex hC,rfl,I.bare,Un.kept old,⟨m1,hns,fun i y v e1 e2 e3=>?_⟩,fun y a h=>?_,I.hok.fresh hC,fun y a h=>I.freeC y a (c.same h),fun p hp=>?_,I.hok.kept old,by simp[jl,Yv,cs0]⟩
 ·have e2:=e2.resolve_right (Wd _);unfold cs0 at e2;by_cases hi:i<xo.length
  ·rw[zti (by rw[zsk];exact hi),zsr,zsl hi] at e2;cases e2
  ·rw[zth (by rw[zsk];omega),zsk] at e2;have e1:ys[i-xo.length]?=some y:=by
    have e1:(xo++ys)[i]?=some y:=e1;rw[zth ⋯] at e1;exact e1
   generalize i-xo.length=k at e1 e2;rw[zsr] at e2;cases hj:js[k]? with
   | none=>rw[hj] at e2;cases e2
   | some j =>
     rw[hj] at e2;have ej:X.N[j]?=some y:=by
      have q:=congrArg (·[k]?) c.at_;simp only[zsr,hj,e1,ztr] at q;exact Option.some.inj q
     have ev:σ[j]?=some (some v):=by
      simp only[ztr,Option.some.injEq] at e2;cases hσ:σ[j]? with
      | none=>rw[hσ] at e2;cases e2
      | some o=>rw[hσ] at e2;rw[show o=some v from e2]
     obtain⟨a1,a2,a3⟩:=c.free.get (zsy e1);obtain⟨u,r,l⟩:=hl j y v ej (.inl ev) (.inr (.inl a1));refine⟨u,r,.inr ⟨.inl a2,?_⟩⟩;rcases l with ⟨k1,_⟩|⟨_,b,e,z⟩
     ·rw[a1] at k1;cases k1
     ·obtain⟨o,ho,hd⟩:=z;exact⟨b,a3.trans e,o,old _ _ ho,hd⟩
 ·obtain⟨v,o,ho,hd⟩:=I.cell y a (c.same h);exact⟨v,o,old _ _ ho,hd⟩
 ·obtain⟨e,n,ne,nf,d⟩:=I.pin p (by simpa [Yv] using hp);refine⟨old _ _ e,n,ztb (zs1 (Heap.lt_size e) hC),fun m=>?_,d⟩;exact(zso.mp (I.stkSub _ m)).elim ne nf
theorem K2{pins:List (Addr×Obj)}{σ:St}{H:Hp}{s:Shared}{tt:TT}{te:TE}{it:Addr}{fp:List Addr}{tn:Nat->Heap->Prop}{J:It}{W:Nat->Nat->List V->Hp->Prop}{m0:Nat}{Q:VK}{E:Value->Shared->Prop}{RR:Value->Addr->Result->Shared->Prop}
  (hcm:X.calm=true) (c:M4 X xo scope cl ys js) (ht:∀ pn s₀ H₀ fp C,PTs (Yv X pn (xo++ys) scope cl s₀ H₀ fp C) ifs tt) (hgt:∀ pn s₀ H₀ fp C,PG (Yv X pn (xo++ys) scope cl s₀ H₀ fp C) tg g) (he:∀ pn s₀ H₀ fp C,PE (Yv X pn (xo++ys) scope cl s₀ H₀ fp C) elt te)
  (I:Inv X pins σ H s) (T:Et X.prog X.w X.K tg J fp it tn) (st0:tn 0 s.heap) (hf:∀ b∈fp,FpOk X pins H b) (w0:W 0 m0 [] H)
  (turn:∀ i m ys H,W i m ys H->(J.stop i H/\ys.length<=sizeLine/\∀ p,H p=none->Q (.ref p) (upd H p (.lst ys))) \/
   (J.go i H/\ys.length<sizeLine/\∃ N:List V->Hp->Prop,(∀ ys' H',N ys' H'->∃ m',m' < m/\W (i+1) m' ys' H')/\∀ x H',J.yld i H x H'->g x (cs0 xo js σ) H' fun σ2 H1=>Qy xo js σ σ2/\tt σ2 H1 fun b H2=>if b=true then te σ2 H2 fun y H3=>N (ys++[y]) H3 else N ys H2))
  (hRR:∀ D C s' m,s'.heap.Ns C m->(∀ h',Heap.SameBut C s'.heap h'->∃ H',Inv X pins σ H' { s' with heap:=h' }/\Q (.ref D) H')->(∃ H',Inv X pins σ H' s'/\Q (.ref D) H'/\H' C=none)->s.heap.objs.size<=C->RR (.ref D) C (.ok .next) s') :
  wpAny (model X.prog X.w) X.A (newList []) (fun acc s₃=>wpAny (model X.prog X.w) X.A (newFunctionEnv scope X.env.globals cl [] X.env.qual none .none (some X.env)) (fun cenv s₄ =>
   codeAny (model X.prog X.w) X.A (.compStart (.ListComp elt [⟨tg,iter,ifs,0⟩] scope pos) 0 (.ref it) acc { cenv with scope:=relabel scope X.env }) (RR acc cenv.locals) s₄) E s₃) E s:=by
 refine wpAny_newObj_type (wpAny_newFunctionEnv c.nocell (by intro y hy;simp at hy) (fun h₁ hns₁ hsb₁=>?_) c.kind);dsimp only at hns₁ hsb₁ ⊢;generalize hH2:s.heap.push { cls:=.type "list",dict:=none,data:=.seq ([]:List Value).toArray }=G at hns₁ hsb₁ ⊢;generalize hD:s.heap.objs.size=D;have hC:G.objs.size=D+1:=by rw[<- hH2,Heap.size_push,hD]
 generalize hCe:G.objs.size=C at hns₁ hsb₁ ⊢;have hCD:C=D+1:=hCe.symm.trans hC;have hDC:D≠C:=by omega
 have below:∀ b o,s.heap.get? b=some o->b<D:=fun b o e=>by rw[<- hD];exact Heap.lt_size e
 have ltC:∀ b:Addr,b<D->b≠C:=fun b h=>ztb (hCD▸zuh h);have ltD:∀ b:Addr,b<D->b≠D:=fun b h=>ztb h;have old:∀ b o,s.heap.get? b=some o->h₁.get? b=some o:=fun b o e=>hsb₁.extBut b o (ltC b (below b o e)) (Heap.get?_push_of_some _ (hH2▸Heap.get?_push_of_some _ e));have hacc:h₁.PlainList D #[]:=⟨_,hsb₁.extBut _ _ hDC (Heap.get?_push_of_some _ (by rw[<- hH2,<- hD];exact Heap.get?_push_size _ rfl))⟩;have hex:∀ b∈fp,b<s.heap.objs.size:=fun b hb=>by
  obtain⟨o,e,_⟩:=T.obj _ _ st0 b hb;exact Heap.lt_size e
 have lt0:∀ b∈fp,b<D:=fun b hb=>by rw[<- hD];exact hex b hb
 have freshD:s.heap.get? D=none:=Heap.get?_none_of_le ⋯;have freshC:s.heap.get? C=none:=Heap.get?_none_of_le ⋯;have frE:∀ {H':Hp},(∀ b∈fp,H' b=none)->∀ {o:Obj} {b:Addr},b∈fp->FpOk (Yv X (X.pn++pins) (xo++ys) scope cl s H fp C) [(D,o)] H' b:=fun {H'} hn {o b} hb=>by
  obtain⟨f0,f1,f2,f3,f4,f5⟩:=hf b hb;refine⟨hn b hb,?_,?_,.inl hb,fun y a h=>f4 y a (c.same h),fun p hp=>?_⟩
  ·exact ltC b (lt0 b hb)
  ·exact fun m=>(zso.mp (I.stkSub b m)).elim f1 f2
  ·rcases zsv.mp hp with z|z
   ·exact f5 p z
   ·rw[zsp.mp z];exact Ne.symm (ltD b (lt0 b hb))
 have pinD:∀ {σ':St} {H':Hp} {s':Shared} {o:Obj},Inv (Yv X (X.pn++pins) (xo++ys) scope cl s H fp C) [] σ' H' s'->s'.heap.get? D=some o->(∀ v,o.data≠.cell v)->H' D=none->Inv (Yv X (X.pn++pins) (xo++ys) scope cl s H fp C) [(D,o)] σ' H' s':=fun {σ' H' s' o} Ic e nc n =>
  Ic.pins_of fun p hp=>by
   rw[zsp.mp hp];refine⟨e,n,hDC,fun m=>?_,nc⟩;obtain⟨_,ob,hob,_⟩:=I.stack.mem m;exact absurd (below D ob hob) (zt6 _)
 have loop:∀ s₃:Shared,s₃={ s with heap:=h₁,toks:=s.toks+([]:List (Str×Value)).length } ->
   codeAny (model X.prog X.w) X.A (.compLoop (.ListComp elt [⟨tg,iter,ifs,0⟩] scope pos) 0 (.ref it) (.ref D) (compEnvC scope cl C X.env)) (RR (.ref D) C) s₃:=by
  rintro s₃ rfl;have I0:=zbq (t1:=s.toks+([]:List (Str×Value)).length) c I hf hex (by omega:s.heap.objs.size<=C) hns₁ old;refine Py (fun n s'=>∃ i H' zs its,Inv (Yv X (X.pn++pins) (xo++ys) scope cl s H fp C) [] (cs0 xo js σ) H' s'/\tn i s'.heap/\(∀ b∈fp,H' b=none)/\s'.heap.PlainList D (its:List Value).toArray/\Vals zs its/\H' D=none/\W i n zs H') ?_ m0
   ⟨0,H,[],[],I0,T.keep _ _ _ st0 fun b hb o e=>old b o e,fun b hb=>(hf b hb).1,hacc,.nil,I.hok.fresh ⋯,w0⟩
  rintro n s3 ⟨i,H3,zs,its,I3,st3,fr3,⟨n3,pl3⟩,rv3,fD3,w3⟩;have I3':=pinD I3 pl3 (by intro v z;cases z) fD3;rcases turn i n zs H3 w3 with ⟨stop,hsz,fin⟩|⟨go,hsz,Nx,hNx,step⟩
  ·refine wpAny_mono (T.done (Yv X (X.pn++pins) (xo++ys) scope cl s H fp C) rfl rfl rfl hcm i _ s3 _ H3 (fun _ _=>False) I3' (fun b hb=>frE fr3 hb) st3 stop) (fun r s4 ⟨hr,I4⟩=>?_) fun _ _ z=>z.elim;subst hr;have plD:s4.heap.get? D=some _:=(I4.pin (D,{ cls:=Value.type "list",data:=.seq its.toArray n3 }) (zs6 _ zte)).1;obtain⟨m4,hn4,_⟩:=I4.loc;have okU:∀ h',(∀ b o,b≠C->s4.heap.get? b=some o->h'.get? b=some o)->Inv X pins σ (upd H3 D (.lst zs)) { s4 with heap:=h' }:=fun h' k1=>by
    have u4:Un (frs X.stack) fp H H3 s.heap s4.heap:=I4.base;have neC:∀ b o,s.heap.get? b=some o->b≠C:=fun b o e=>ltC b (below b o e);have neD:∀ b o,s.heap.get? b=some o->b≠D:=fun b o e=>ltD b (below b o e);have trD:∀ b u,H3 b=some u->b≠D:=fun b u e z=>by rw[z,fD3] at e;cases e
    have trC:∀ b u,H3 b=some u->b≠C:=fun b u e z=>by rw[z,show H3 C=none from I4.free] at e;cases e
    have un:Un (frs X.stack) fp H (upd H3 D (.lst zs)) s.heap h':=by
     refine⟨fun b o e n hb hx=>k1 b o (neC b o e) (u4.keep b o e n hb hx),fun b o e n hb hx=>?_,fun b o e n hx=>?_,fun b o e hx=>?_,fun b xs e=>?_,fun b ob u e=>?_,fun b ps e=>?_⟩
     ·obtain⟨sl,z⟩:=u4.slot b o e n hb hx;exact⟨sl,k1 b _ (neC b o e) z⟩
     ·rw[Zh (neD b o e)];exact u4.free b o e n hx
     ·obtain⟨o',z⟩:=u4.there b o e hx;exact⟨o',k1 b o' (neC b o e) z⟩
     ·have z:=u4.tups b xs e;rw[Zh (trD b _ z)];exact z
     ·have z:=u4.frzs b ob u e;rw[Zh (trD b _ z)];exact z
     ·obtain⟨more,z⟩:=u4.tbls b ps e;exact⟨more,by rw[Zh (trD b _ z)];exact z⟩
    refine I.call' (s':={ s4 with heap:=h' }) (ch:=fp) (show s4.os=s.os from I4.os) un (fun b u e=>?_) I4.bare fun b hb=>?_
    ·by_cases hb:b=D
     ·subst hb;rw[Zb] at e;cases e;exact⟨hsz,its,n3,rv3,k1 _ _ hDC plD⟩
     ·rw[Zh hb] at e;refine(I4.hok b u e).stay (fun d v hd q=>?_) (fun d q=>by rw[Zh (trD d _ q)];exact q) fun d xs q=>by rw[Zh (trD d _ q)];exact q
      rcases hd with z|z
      ·exact k1 d v (by rw[z];exact trC b u e) q
      ·exact k1 d v (trC d _ z) q
    ·obtain⟨f0,f1,f2,f3,f4,f5⟩:=hf b hb;exact⟨f3,f1,f4,f5⟩
   refine hRR D C s4 m4 hn4 (fun h' hs'=>⟨_,okU h' (fun b o hb e=>hs'.extBut b o hb e),fin D fD3⟩) ⟨_,okU s4.heap (fun _ _ _ e=>e),fin D fD3,?_⟩ ⋯
   ·rw[Zh (Ne.symm hDC)];exact I4.free
  ·refine wpAny_mono (T.item (Yv X (X.pn++pins) (xo++ys) scope cl s H fp C) rfl rfl rfl hcm i _ s3 _ H3 (fun _ _=>False) I3' (fun b hb=>frE fr3 hb) st3 go) (fun r s4 ⟨u,hr,h4⟩=>?_) fun _ _ z=>z.elim;subst hr;refine wpAny_mono h4 (fun _ s5 h5=>?_) fun _ _ z=>z.elim;obtain⟨xv,H5,I5,r5,y5,st5,fr5⟩:=h5;have I5':=I5.pinned (fun b hb=>frE fr5 hb) (T.obj _ _ st5);refine wpAny_mono (hgt _ _ _ _ _ _ s5 _ H5 xv u _ I5' r5 (step xv H5 y5)) (fun _ s6 ⟨σ6,H6,I6,own6,q6⟩=>?_) fun _ _ z=>z.elim;refine wpAny_mono (ht _ _ _ _ _ _ s6 _ H6 _ I6 q6) (fun ok s7 ⟨H7,I7,q7⟩=>?_) fun _ _ z=>z.elim;have keepF:∀ {σ8:St} {H8:Hp} {s8:Shared},Inv (Yv X (X.pn++pins) (xo++ys) scope cl s H fp C) ([(D,{ cls:=Value.type "list",data:=.seq its.toArray n3 })]++Nu fp s5.heap) σ8 H8 s8->tn (i+1) s8.heap/\(∀ b∈fp,H8 b=none)/\s8.heap.PlainList D its.toArray/\H8 D=none:=fun {σ8 H8 s8} I8=>by
    refine⟨T.keep _ _ _ st5 fun b hb o e=>(I8.pin (b,o) (zs6 _ (zs6 _ (So hb e)))).1,fun b hb=>?_,⟨n3,(I8.pin (D,_) (zs6 _ zte)).1⟩,(I8.pin (D,_) (zs6 _ zte)).2.1⟩;obtain⟨o,e,d⟩:=T.obj _ _ st5 b hb;exact(I8.pin (b,o) (zs6 _ (zs6 _ (So hb e)))).2.1
   have bare:∀ {σ8:St} {H8:Hp} {s8:Shared},Inv (Yv X (X.pn++pins) (xo++ys) scope cl s H fp C) ([(D,{ cls:=Value.type "list",data:=.seq its.toArray n3 })]++Nu fp s5.heap) σ8 H8 s8->Inv (Yv X (X.pn++pins) (xo++ys) scope cl s H fp C) [] σ8 H8 s8:=fun I8=>I8.pins_of fun _ z=>(nomatch z)
   cases ok with
   | false =>
     simp only[ztw,if_false] at q7 ⊢;obtain⟨m',hm',w7⟩:=hNx _ _ q7;obtain⟨a1,a2,a3,a4⟩:=keepF I7;exact⟨m',hm',i+1,H7,zs,its,own6.weak (bare I7),a1,a2,a3,rv3,a4,w7⟩
   | true =>
     simp only[if_true] at q7 ⊢;refine wpAny_mono (he _ _ _ _ _ _ s7 _ H7 _ I7 q7) (fun y s8 ⟨yv,H8,I8,r8,q8⟩=>?_) fun _ _ z=>z.elim;obtain⟨m',hm',w8⟩:=hNx _ _ q8;obtain⟨a1,a2,a3,a4⟩:=keepF I8;have szI:its.toArray.size<=sizeLine:=by rw[zsz,<- rv3.length];omega
     refine wpAny_list_append_plain (hsz:=szI) a3 fun h9 pl9 sb9=>?_;have I8b:=own6.weak (bare I8);refine⟨m',hm',i+1,H8,zs++[yv],its++[y],?_,T.keep _ _ _ a1 fun b hb o e=>(sb9.2 b (ltD b (lt0 b hb))).trans e,a2,by rw[List.push_toArray] at pl9;exact pl9,rv3.append (.cons r8 .nil),a4,w8⟩;refine I8b.turned (t':=s8.toks) (it:=D) (fun b o hb e=>(sb9.2 b hb).trans e) a4 hDC (.inr (show s.heap.objs.size<=D by omega)) (fun y' a h=>?_) fun p hp=>?_
     ·obtain⟨v,o,ho,_⟩:=I.cell y' a (c.same h);exact ltD a (below a o ho)
     ·obtain⟨e,_⟩:=I.pin p (by simpa [Yv] using hp);exact ltD _ (below _ _ e)
 exact codeAny_compStart_list (loop _ rfl) (T.self _ 0 _ _ _ (T.keep _ _ _ st0 fun b hb o e=>old b o e) (loop _ rfl))
variable{wi:TI}{tt:TT}{te:TE}
theorem Dm(hcm:X.calm=true)(c:M4 X xo scope cl ys js)(hi:PI X tg iter wi)(ht:∀ pn s₀ H₀ fp C,PTs (Yv X pn (xo++ys) scope cl s₀ H₀ fp C) ifs tt)(hgt:∀ pn s₀ H₀ fp C,PG (Yv X pn (xo++ys) scope cl s₀ H₀ fp C) tg g)(he:∀ pn s₀ H₀ fp C,PE (Yv X pn (xo++ys) scope cl s₀ H₀ fp C) elt te)
  (hs:∀ x,foldedSetIterable iter X.env x=pure x:=by intro _;rfl):PE X (.ListComp elt [⟨tg,iter,ifs,0⟩] scope pos) (zhi wi xo js g tt te):=by
 intro pins s σ H Q I h;rw[eval_ListComp];refine wpAny_comprehension_free (use:=none) rfl hs c.clos c.kind c.names (thn (hi pins s σ H _ I h) fun v s1 h1=>thn h1 fun itv s2 h2=>?_);obtain⟨it,fp,tn,J,H2,e,I2,T,st2,f2,W,⟨m0,w0⟩,turn⟩:=h2;subst e;exact K2 (RR:=fun acc C=>compPost (model X.prog X.w) X.A X.xe none (EP X pins σ Q) acc C) hcm c ht hgt he I2 T st2 f2 w0 turn fun D C s' m hn hS _ _=>⟨m,hn,fun h' hs'=>let ⟨H',I',q⟩:=hS h' hs';⟨.ref D,H',I',rfl,q⟩⟩
end
end L2
namespace G
open PySem PySem.Spec PyProof.Rows L2
theorem Gy:∀ (a b:List (Nat×Option Int)) (xs:List V),Ys (a++b) xs=Ys b (Ys a xs)
 | [],_,_=>rfl
 | (p,w) :: r,b,xs=>by rw[List.cons_append,Ys,Ys,Gy r b]
structure Km(kvs:List (Key×V))(gs:List V):Prop where
 has:∀ (n:Int) (j:Nat),gs[j]?=some (.int n)->valV kvs (inl n:Key)=some (.int (j:Nat))
 not:∀ n:Int,(∀ j:Nat,gs[j]?≠some (.int n))->valV kvs (inl n:Key)=none
theorem Km.iff(t:Km kvs gs)(n:Int):(∃ j:Nat,gs[j]?=some (.int n)/\valV kvs (inl n:Key)=some (.int (j:Nat)))\/((∀ j:Nat,gs[j]?≠some (.int n))/\valV kvs (inl n:Key)=none):=by
 by_cases h:∃ j:Nat,gs[j]?=some (.int n)
 ·obtain⟨j,hj⟩:=h;exact .inl ⟨j,hj,t.has n j hj⟩
 ·have h':∀ j:Nat,gs[j]?≠some (.int n):=fun j hj=>h ⟨j,hj⟩;exact .inr ⟨h',t.not n h'⟩
inductive zad(K:Frag)(vs:List V)(H:Hp)(Q:VK)(_:XK):Prop where
 | mk(b:Addr)(gs:List V)(_:vs=[.ref b])(_:H b=some (.lst gs))(_:(∀ x∈gs,oneV x))(_:(∀ (j k:Nat) (n:Int),gs[j]?=some (.int n)->gs[k]?=some (.int n)->j=k))(_:gs.length<=100)(_:∀ d kvs H',H' d=some (.dK kvs)->Km kvs gs->Same H H'->H d=none->Q (.ref d) H')
structure Xq(H:Hp)(into:List (Key×V))(line:List Nat)(fr:Nat->Option (Nat×Int)):Prop where
 keys:into.map (·.1)=line.map fun q:Nat=>(inl (q:Int):Key)
 none:∀ q∈line,fr q=Option.none->valV into (inl (q:Int):Key)=some .non
 some:∀ q∈line,∀ par n,fr q=Option.some (par,n)->∃ t,valV into (inl (q:Int):Key)=Option.some (.ref t)/\H t=Option.some (.tup [.int (par:Nat),.int n])
theorem Xq.same(e:Same H H')(h:Xq H into line fr):Xq H' into line fr :=
 ⟨h.keys,h.none,fun q hq par n hf=>let ⟨t,a,b⟩:=h.some q hq par n hf;⟨t,a,e _ _ b⟩⟩
theorem Xq.len(h:Xq H into line fr):into.length=line.length:=by
 have:=congrArg List.length h.keys;rw[zsk,zsk] at this;exact this
theorem zds{into:List (Key×V)}{k:Key}:(valV into k).isSome=true↔k∈into.map Prod.fst:=by
 unfold valV;rw[Option.isSome_map,List.find?_isSome];constructor
 ·rintro⟨p,hp,e⟩;exact zsu.mpr ⟨p,hp,of_decide_eq_true e⟩
 ·intro h;obtain⟨p,hp,rfl⟩:=zsu.mp h;exact⟨p,hp,zss rfl⟩
theorem Xq.has{H:Hp}{into:List (Key×V)}{line:List Nat}{fr:Nat->Option (Nat×Int)}(h:Xq H into line fr)(q:Nat):(valV into (inl (q:Int):Key)).isSome=true↔q∈line:=by
 rw[zds,h.keys];constructor
 ·intro z;obtain⟨q',h1,h2⟩:=zsu.mp z;have:(q':Int)=q:=inl.inj h2;have:q'=q:=by omega
  rw[<- this];exact h1
 ·intro hq;exact zsu.mpr ⟨q,hq,rfl⟩
inductive zdt(K:Frag)(vs:List V)(H:Hp)(Q:VK)(_:XK):Prop where
 | mk(l d:Addr)(ls:List Addr)(rows:List (List Int))(kvs:List (Key×V))(gs:List V)(p:Nat)(_:vs=[.ref l,.ref d,.int p])(_:H l=some (.lst (ls.map V.ref)))(_:ILs H ls rows)(_:rows.length<=100)(_:H d=some (.dK kvs))(_:Km kvs gs)(_:Yt rows gs)(_:p<rows.length)(_:∀ t into line dep fr H',H' t=some (.dK into)->Xq H' into line fr->Bfs rows gs p line dep->Done rows gs line dep line.length->Ut rows gs p line dep fr->(∀ q∈line,q<rows.length)->Same H H'->H t=none->Q (.ref t) H')
inductive Gz(K:Frag)(vs:List V)(H:Hp)(Q:VK)(_:XK):Prop where
 | mk(l d:Addr)(r:List Int)(kvs:List (Key×V))(_:vs=[.ref l,.ref d])(_:H l=some (.lst (r.map V.int)))(_:H d=some (.dK kvs))(_:∀ w:Option Int,(∀ n,w=some n->n∈r/\valV kvs (inl n:Key)=none)->(w=none->∀ n∈r,(valV kvs (inl n:Key)).isSome=true)->Q (oV w) H)
inductive Dp(K:Frag)(vs:List V)(H:Hp)(Q:VK)(_:XK):Prop where
 | mk(t:Addr)(q p:Nat)(w:Option Int)(rows:List (List Int))(gs:List V)(into:List (Key×V))(line:List Nat)(dep:Nat->Nat)(fr:Nat->Option (Nat×Int))(_:vs=[.ref t,.int q,oV w])(_:Rd H t (.dK into))(_:Xq H into line fr)(_:Ut rows gs p line dep fr)(_:dep p=0)(_:p∈line)(_:q∈line)(_:dep q<=100)(_:∀ lt ts st H',H' lt=some (.lst ts)->Yb H' ts (st.map Vv)->Ch rows gs p st q w->st.length=dep q+1->Same H H'->H lt=none->Q (.ref lt) H')
section
variable{rows:List (List Int)}{gs:List V}{p:Nat}{line:List Nat}{dep:Nat->Nat}{fr:Nat->Option (Nat×Int)}{H H':Hp}{into:List (Key×V)}
def M5(fr:Nat->Option (Nat×Int))(q:Nat)(x:Nat×Int):Nat->Option (Nat×Int):=fun y=>if y=q then some x else fr y
theorem Pz:M5 fr q x q=some x:=by unfold M5;rw[if_pos rfl]
theorem O7(h:y≠q):M5 fr q x y=fr y:=by unfold M5;rw[if_neg h]
theorem Ut.app(F:Ut rows gs p line dep fr)(hn:q'∉line)(hp:p∈line)(hh:here∈line)(a:adjN rows gs here n q'):Ut rows gs p (line++[q']) (Vf dep q' (dep here+1)) (M5 fr q' (here,n)):=by
 have ne:∀ x∈line,x≠q':=fun x hx z=>hn (by rw[<- z];exact hx);have old:∀ x∈line,Vf dep q' (dep here+1) x=dep x:=fun x hx=>by unfold Vf;rw[if_neg (ne x hx)]
 have new:Vf dep q' (dep here+1) q'=dep here+1:=by unfold Vf;rw[if_pos rfl]
 refine⟨by rw[O7 (ne p hp)];exact F.1,fun q hq hqp=>?_⟩;rcases zsv.mp hq with z|z
 ·obtain⟨par,m,h1,h2,h3,h4⟩:=F.2 q z hqp;exact⟨par,m,by rw[O7 (ne q z)];exact h1,zta _ h2,h3,by rw[old q z,old par h2];exact h4⟩
 ·rw[zsp.mp z];exact⟨here,n,Pz,zta _ hh,a,by rw[new,old here hh]⟩
theorem Xq.mono(e:∀ t xs,H t=Option.some (.tup xs)->H' t=Option.some (.tup xs))(h:Xq H into line fr):Xq H' into line fr :=
 ⟨h.keys,h.none,fun q hq par n hf=>let ⟨t,a,b⟩:=h.some q hq par n hf;⟨t,a,e _ _ b⟩⟩
theorem Xq.app(I:Xq H into line fr)(hn:q'∉line)(ht:H t=Option.some (.tup [.int (here:Nat),.int n])):Xq H (putK into (inl (q':Int)) (.ref t)) (line++[q']) (M5 fr q' (here,n)):=by
 have ne:∀ x∈line,x≠q':=fun x hx z=>hn (by rw[<- z];exact hx);have hv:valV into (inl (q':Int):Key)=Option.none:=by
  cases e:valV into (inl (q':Int):Key) with
  | none=>rfl
  | some y=>exact absurd ((I.has q').mp (by rw[e];rfl)) hn
 have val:∀ x∈line,valV (putK into (inl (q':Int)) (.ref t)) (inl (x:Int):Key)=valV into (inl (x:Int):Key):=fun x hx=>by
  rw[Ww,if_neg (fun z=>ne x hx (by have:=inl.inj z;omega))]
 have valn:valV (putK into (inl (q':Int)) (.ref t)) (inl (q':Int):Key)=Option.some (.ref t):=by rw[Ww,if_pos rfl]
 refine⟨?_,fun q hq hf=>?_,fun q hq par m hf=>?_⟩
 ·rw[zcs _ hv,zsq,zsq,I.keys];rfl
 ·rcases zsv.mp hq with z|z
  ·rw[O7 (ne q z)] at hf;rw[val q z];exact I.none q z hf
  ·rw[zsp.mp z,Pz] at hf;cases hf
 ·rcases zsv.mp hq with z|z
  ·rw[O7 (ne q z)] at hf;rw[val q z];exact I.some q z par m hf
  ·rw[zsp.mp z,Pz] at hf;cases hf;rw[zsp.mp z];exact⟨t,valn,ht⟩
theorem Bs(H:Hp)(p:Nat):Xq H [((inl (p:Int):Key),V.non)] [p] (fun _=>none) :=
 ⟨rfl,fun q hq _=>by rw[zsp.mp hq];exact Y8 rfl,fun q _ par n hf=>nomatch hf⟩
theorem Bt:Ut rows gs p [p] (fun _=>0) (fun _=>none):=⟨rfl,fun q hq hne=>absurd (zsp.mp hq) hne⟩
end
section
variable{rows:List (List Int)}{gs:List V}
theorem Ch.somes{q e:Nat}{st:List (Nat×Option Int)}{w:Option Int}(h:Ch rows gs q st e w):w≠none->∀ s∈st,s.2≠none:=by
 induction h with
 | one q w=>intro hw s hs;simp at hs;subst hs;exact hw
 | step a h ih =>
   intro hw s hs;rcases zso.mp hs with rfl|z
   ·exact fun z=>nomatch z
   ·exact ih hw s z
theorem Ch.near{q e:Nat}{st:List (Nat×Option Int)}{w:Option Int}(h:Ch rows gs q st e w):∀ s∈st,s.1=q\/∃ m,gs[s.1]?=some (V.int m):=by
 induction h with
 | one q w=>intro s hs;simp at hs;subst hs;exact .inl rfl
 | @step q q' e n st w a h ih =>
   intro s hs;rcases zso.mp hs with rfl|z
   ·exact .inl rfl
   ·rcases ih s z with z|z
    ·exact .inr ⟨n,by rw[z];exact a.2⟩
    ·exact .inr z
theorem Ch.single{q e:Nat}{st:List (Nat×Option Int)}{w:Option Int}(h:Ch rows gs q st e w)(hl:st.length<=1):st=[(q,w)]/\e=q:=by
 cases h with
 | one=>exact⟨rfl,rfl⟩
 | step a h=>have:=h.pos;rw[zs8] at hl;omega
structure Uk(rows:List (List Int))(gs:List V)(i:Nat):Prop where
 fill:Yt rows gs
 ahead:∀ q n,gs[q]?=some (V.int n)->q<i
 stuck:∀ p,p<i->gs[p]?=some .non->Sw rows gs p
theorem Uk.non(F:Uk rows gs i)(hk:i<=k)(hr:k<rows.length):gs[k]?=some .non:=by
 have hl:k<gs.length:=by rw[F.fill.len];exact hr
 have e:=zsl hl;rcases F.fill.one _ (ztf hl) with z|⟨n,z⟩
 ·rw[e,z]
 ·rw[z] at e;have:=F.ahead k n e;omega
theorem Uk.step{i e:Nat}{st:List (Nat×Option Int)}{w:Option Int}(F:Uk rows gs i)(hi:i<rows.length)(c:Xe rows gs i st e w):Uk rows (Ys st gs) (i+1):=by
 have hnon:=F.non (zst i) hi;cases w with
 | none =>
   obtain⟨h1,h2,h3⟩:=c.none rfl;have hei:e=i:=by
    have hge:=h2 i 0 .nil;rcases(show e=i\/∃ m,gs[e]?=some (V.int m) by
     obtain⟨s,hs,rfl⟩:=zsu.mp c.ch.last;exact c.ch.near s hs) with z|⟨m,z⟩
    ·exact z
    ·have:=F.ahead e m z;omega
   have hst:st=[(i,none)]:=(c.ch.single (by have:=h3 0 (hei▸.nil);omega)).1;have hl:i<gs.length:=by rw[F.fill.len];exact hi
   have same:Ys st gs=gs:=by
    rw[hst];show gs.set i .non=gs;refine List.ext_getElem? fun k=>?_;by_cases hk:i=k
    ·subst hk;rw[ztm hl,hnon]
    ·rw[ztj hk]
   rw[same];refine⟨F.fill,fun q n hq=>zuh (F.ahead q n hq),fun p hp hpn=>?_⟩;by_cases hpi:p=i
   ·subst hpi;exact zdj F.fill hi F.ahead h1
   ·exact F.stuck p ⋯ hpn
 | some n0 =>
   obtain⟨hf,_⟩:=c.free n0 rfl;have nd:=c.nodup;have FP':=c.fill F.fill hi;have at_:∀ k,k<gs.length->(k∉st.map (·.1)/\(Ys st gs)[k]?=gs[k]?)\/∃ w,(k,w)∈st/\(Ys st gs)[k]?=some (oV w):=fun k hk=>Wg nd hk;have lt:∀ {k:Nat} {v:V},(Ys st gs)[k]?=some v->k<gs.length:=fun {k v} hk=>by
    have:=(zsm.mp hk).1;rw[X1] at this;exact this
   refine⟨FP',fun q n hq=>?_,fun p hp hpn=>?_⟩
   ·rcases at_ q (lt hq) with ⟨_,h2⟩|⟨w',h1,_⟩
    ·rw[h2] at hq;exact zuh (F.ahead q n hq)
    ·rcases c.ch.near _ h1 with z|⟨m,z⟩
     ·have:q=i:=z;omega
     ·exact zuh (F.ahead q m z)
   ·rcases at_ p (lt hpn) with ⟨h1,h2⟩|⟨w',h1,h2⟩
    ·rw[h2] at hpn;have hpi:p≠i:=fun z=>by
      obtain⟨x,r,e⟩:=c.ch.hd;exact h1 (by rw[z,e];simp)
     exact(F.stuck p ⋯ hpn).behind F.fill c.ch hf hi nd
    ·have:=c.ch.somes (by simp) _ h1;rw[h2] at hpn;cases w' with
     | none=>exact absurd rfl this
     | some m=>cases hpn
theorem Iu(rows:List (List Int)):Uk rows (rows.map fun _=>V.non) 0:=by
 have h0:∀ (k:Nat) (n:Int),(rows.map fun _=>V.non)[k]?≠some (V.int n):=fun k n h=>by
  rw[zsr] at h;cases e:rows[k]? with
  | none=>rw[e] at h;cases h
  | some r=>rw[e] at h;cases h
 exact⟨⟨by rw[zsk],fun x hx=>by obtain⟨_,_,rfl⟩:=zsu.mp hx;exact .inl rfl,fun k n h=>absurd h (h0 k n),fun j k n h=>absurd h (h0 j n)⟩,fun q n h=>absurd h (h0 q n),fun p hp=>absurd hp (zue _)⟩
theorem Uk.last(F:Uk rows gs rows.length):Ve rows gs:=fun p hp=>F.stuck p (by have:=(zsm.mp hp).1;rw[F.fill.len] at this;exact this) hp
end
end G
namespace G
open PySem PySem.Spec PyProof.Rows L2
section
variable{rows:List (List Int)}{gs:List V}
theorem Ch.pred{q e:Nat}{st:List (Nat×Option Int)}{w:Option Int}(h:Ch rows gs q st e w):∀ q'∈st.map (·.1),q'=q\/∃ q0 n,(q0,some n)∈st/\gs[q']?=some (V.int n):=by
 induction h with
 | one q w=>intro q' hq;simp at hq;exact .inl hq
 | @step q q1 e n st w a h ih =>
   intro q' hq;rw[zsx] at hq;rcases zso.mp hq with z|z
   ·exact .inl z
   ·rcases ih q' z with z|⟨q0,m,h1,h2⟩
    ·exact .inr ⟨q,n,zte,by rw[z];exact a.2⟩
    ·exact .inr ⟨q0,m,zs4 _ h1,h2⟩
theorem Ch.reach{q e:Nat}{st:List (Nat×Option Int)}{w:Option Int}(h:Ch rows gs q st e w):∀ q'∈st.map (·.1),∃ k,Walk rows gs q q' k:=by
 induction h with
 | one q w=>intro q' hq;simp at hq;rw[hq];exact⟨0,.nil⟩
 | @step q q1 e n st w a h ih =>
   intro q' hq;rw[zsx] at hq;rcases zso.mp hq with z|z
   ·rw[z];exact⟨0,.nil⟩
   ·obtain⟨k,hk⟩:=ih q' z;exact⟨k+1,.cons a hk⟩
theorem Ch.noneLast{q e:Nat}{st:List (Nat×Option Int)}{w:Option Int}(h:Ch rows gs q st e w):∀ k,(k,none)∈st->k=e/\w=none:=by
 induction h with
 | one q w=>intro k hk;simp at hk;exact⟨hk.1,hk.2.symm⟩
 | @step q q1 e n st w a h ih =>
   intro k hk;rcases zso.mp hk with z|z
   ·cases z
   ·exact ih k z
theorem Ch.along{R:Nat->Prop}(hs:∀ q n q',adjN rows gs q n q'->R q->R q'){q e:Nat}{st:List (Nat×Option Int)}{w:Option Int}(h:Ch rows gs q st e w):R q->R e:=by
 induction h with
 | one q w=>exact fun z=>z
 | step a h ih=>exact fun z=>ih (hs _ _ _ a z)
theorem Ch.lastMem{q e:Nat}{st:List (Nat×Option Int)}{w:Option Int}(h:Ch rows gs q st e w):(e,w)∈st:=by
 induction h with
 | one q w=>simp
 | step a h ih=>exact zs4 _ ih
theorem zdu{st:List (Nat×Option Int)}(nd:(st.map (·.1)).Nodup){k:Nat}{w w':Option Int}(h:(k,w)∈st)(h':(k,w')∈st):w=w':=by
 induction st with
 | nil=>cases h
 | cons s r ih =>
   rw[zsx,ztd] at nd;rcases zso.mp h with z|z<;>rcases zso.mp h' with z'|z'
   ·rw[<- z] at z';exact(Prod.mk.inj z').2.symm
   ·exact absurd (zsu.mpr ⟨_,z',by rw[<- z]⟩) nd.1
   ·exact absurd (zsu.mpr ⟨_,z,by rw[<- z']⟩) nd.1
   ·exact ih nd.2 z z'
theorem zfd{st:List (Nat×Option Int)}{xs:List V}(nd:(st.map (·.1)).Nodup){k:Nat}{w:Option Int}(h:(k,w)∈st)(hk:k<xs.length):(Ys st xs)[k]?=some (oV w):=by
 rcases Wg nd hk with ⟨h1,_⟩|⟨w',h1,h2⟩
 ·exact absurd (zsu.mpr ⟨_,h,rfl⟩) h1
 ·rw[h2,zdu nd h1 h]
theorem Ch.moved{p e:Nat}{st:List (Nat×Option Int)}{w:Option Int}(FP:Yt rows gs)(h:Ch rows gs p st e w)(hp:p<rows.length)(hn:gs[p]?=some .non)(nd:(st.map (·.1)).Nodup){q':Nat}{n:Int}(hq:gs[q']?=some (V.int n)) :
  (q'∉st.map (·.1)/\(Ys st gs)[q']?=some (V.int n))\/∃ q0,(q0,some n)∈st/\(Ys st gs)[q0]?=some (V.int n):=by
 have hl:q' < gs.length:=(zsm.mp hq).1;by_cases hm:q'∈st.map (·.1)
 ·rcases h.pred q' hm with z|⟨q0,m,h1,h2⟩
  ·rw[z,hn] at hq;cases hq
  ·rw[hq] at h2;cases h2;refine .inr ⟨q0,h1,?_⟩;have:=h.lt FP hp _ h1;exact zfd nd h1 (by rw[FP.len];exact this)
 ·rcases Wg nd hl with ⟨_,h2⟩|⟨w',h1,_⟩
  ·exact .inl ⟨hm,by rw[h2];exact hq⟩
  ·exact absurd (zsu.mpr ⟨_,h1,rfl⟩) hm
end
section
variable{rows:List (List Int)}{gs:List V}{p e:Nat}{x:Int}{st:List (Nat×Option Int)}{w:Option Int}
def without(rows:List (List Int))(x:Int):List (List Int):=rows.map fun r=>r.filter fun n=>decide (n≠x)
theorem Ti{q:Nat}{r':List Int}(h:(without rows x)[q]?=some r'):∃ r,rows[q]?=some r/\∀ n∈r',n∈r/\n≠x:=by
 unfold without at h;rw[zsr] at h;cases e:rows[q]? with
 | none=>rw[e] at h;cases h
 | some r =>
   rw[e] at h;cases h;exact⟨r,rfl,fun n hn=>⟨(ztp.mp hn).1,of_decide_eq_true (ztp.mp hn).2⟩⟩
theorem Ul(FP:Yt rows gs)(hx:gs[p]?=some (.int x)):Yt (without rows x) (gs.set p .non):=FP.without hx _ fun n hn=>by
 have:=of_decide_eq_false hn;rw[Classical.not_not.mp this]
theorem zdv(hx:gs[p]?=some (.int x)):(gs.set p V.non)[p]?=some .non:=by rw[ztm (zsm.mp hx).1]
theorem zae(hx:gs[p]?=some (.int x))(h:(gs.set p V.non)[q]?=some (.int n)):gs[q]?=some (.int n)/\q≠p:=by
 by_cases e:p=q
 ·subst e;rw[zdv hx] at h;cases h
 ·rw[ztj e] at h;exact⟨h,Ne.symm e⟩
theorem O8{q:Nat}{n:Int}(hx:gs[p]?=some (.int x))(h:gs[q]?=some (.int n))(hn:n≠x):(gs.set p V.non)[q]?=some (.int n):=by
 rw[ztj (fun z=>by subst z;rw[hx] at h;cases h;exact hn rfl)];exact h
theorem Dq(FP:Yt rows gs)(SP:Ve rows gs)(hx:gs[p]?=some (.int x))(C:Xe (without rows x) (gs.set p .non) p st e w):Ve (without rows x) (Ys st (gs.set p .non)):=by
 have FP0:=Ul FP hx;have hRl:(without rows x).length=rows.length:=by unfold without;rw[zsk]
 have hp:p<rows.length:=by have:=(zsm.mp hx).1;rw[FP.len] at this;exact this
 have hp0:p<(without rows x).length:=by rw[hRl];exact hp
 have nd:=C.nodup;have hpm:p∈st.map (·.1):=by obtain⟨y,r,e'⟩:=C.ch.hd;rw[e'];simp
 have moved:=fun {q':Nat} {n:Int} (hq:(gs.set p V.non)[q']?=some (V.int n))=>C.ch.moved FP0 hp0 (zdv hx) nd hq;have closedT:w=none->∀ q,(∃ k,Walk (without rows x) (gs.set p .non) p q k)->q<(without rows x).length/\∀ r,(without rows x)[q]?=some r->∀ n∈r,∃ q2,q2<e/\(Ys st (gs.set p .non))[q2]?=some (.int n)/\∃ k,Walk (without rows x) (gs.set p .non) p q2 k:=by
  rintro hw q ⟨k,hk⟩;obtain⟨c1,c2,c3⟩:=C.none hw;refine⟨?_,fun r hr n hn=>?_⟩
  ·cases hk with
   | nil=>exact hp0
   | snoc _ a =>
     have:=(zsm.mp a.2).1;rw[FP0.len] at this;exact this
  ·by_cases hf:∃ j:Nat,(gs.set p V.non)[j]?=some (V.int n)
   ·obtain⟨q1,hq1⟩:=hf;have w1:Walk (without rows x) (gs.set p .non) p q1 (k+1):=.snoc hk ⟨⟨r,hr,hn⟩,hq1⟩;rcases moved hq1 with ⟨m1,m2⟩|⟨q0,m1,m2⟩
    ·refine⟨q1,?_,m2,_,w1⟩;have:=c2 q1 _ w1;have hne:q1≠e:=fun z=>m1 (by rw[z];exact C.ch.last);omega
    ·obtain⟨k0,hk0⟩:=C.ch.reach q0 (zsu.mpr ⟨_,m1,rfl⟩);refine⟨q0,?_,m2,k0,hk0⟩;have:=c2 q0 _ hk0;have hne:q0≠e:=fun z=>by
      have hl:=C.ch.lastMem;rw[z] at m1;rw[hw] at hl;have:=zdu nd m1 hl;cases this
     omega
   ·exact absurd ⟨n,⟨r,hr,hn⟩,fun j hj=>hf ⟨j,hj⟩⟩ (c1 q k hk)
 intro p0 hpn;have hl0:p0<(gs.set p V.non).length:=by have:=(zsm.mp hpn).1;rw[X1] at this;exact this
 rcases Wg nd hl0 with ⟨a1,a2⟩|⟨w',a1,a2⟩
 ·rw[a2] at hpn;have hpp:p≠p0:=fun z=>a1 (by rw[<- z];exact hpm);rw[ztj hpp] at hpn;obtain⟨S0,hS,cl⟩:=SP p0 hpn;have inS:∀ q k,Walk rows gs p0 q k->S0 q:=fun q k hk=>by
   induction hk with
   | nil=>exact hS
   | @snoc q q' k n h a ih =>
     obtain⟨r,h1,h2⟩:=a.1;obtain⟨q'',_,h3,h4⟩:=(cl q ih).2 r h1 n h2;rw[<- FP.inj q'' q' n h3 a.2];exact h4
  have closed0:∀ q,(∃ k,Walk rows gs p0 q k)->q<rows.length/\∀ r,rows[q]?=some r->∀ n∈r,∃ q',q' < p0/\gs[q']?=some (.int n)/\∃ k,Walk rows gs p0 q' k:=by
   rintro q ⟨k,hk⟩;refine⟨(cl q (inS q k hk)).1,fun r hr n hn=>?_⟩;obtain⟨q',h1,h2,_⟩:=(cl q (inS q k hk)).2 r hr n hn;exact⟨q',h1,h2,k+1,.snoc hk ⟨⟨r,hr,hn⟩,h2⟩⟩
  have lt0:∀ q,(∃ k,Walk rows gs p0 q k)->q=p0\/q<p0:=by
   rintro q ⟨k,hk⟩;cases hk with
   | nil=>exact .inl rfl
   | @snoc q1 _ k n h a =>
     obtain⟨r,h1,h2⟩:=a.1;obtain⟨q',h3,h4,_⟩:=(closed0 q1 ⟨k,h⟩).2 r h1 n h2;rw[<- FP.inj q' q n h4 a.2];exact .inr h3
  have along:∀ {q:Nat} {st':List (Nat×Option Int)} {w':Option Int},Ch (without rows x) (gs.set p .non) q st' e w'->(∃ k,Walk rows gs p0 q k)->∃ k,Walk rows gs p0 e k:=fun {q st' w'} hc =>
   hc.along (R:=fun q=>∃ k,Walk rows gs p0 q k) fun q n q' a ⟨k,hk⟩=>by
    obtain⟨r',h1,h2⟩:=a.1;obtain⟨r,h3,h4⟩:=Ti h1;exact⟨k+1,.snoc hk ⟨⟨r,h3,(h4 n h2).1⟩,(zae hx a.2).1⟩⟩
  by_cases hpath:∃ q∈st.map (·.1),∃ k,Walk rows gs p0 q k
  ·obtain⟨q1,hq1,hk1⟩:=hpath;obtain⟨st',c1,_⟩:=C.ch.drop q1 hq1;have hRe:=along c1 hk1;cases hw:w with
   | some n0 =>
     obtain⟨⟨r',f1,f2⟩,f3⟩:=(C.free n0 hw).1;obtain⟨r,g1,g2⟩:=Ti f1;obtain⟨q',_,h2,_⟩:=(closed0 e hRe).2 r g1 n0 (g2 n0 f2).1;exact absurd (O8 hx h2 (g2 n0 f2).2) (f3 q')
   | none =>
     have clT:=closedT hw;obtain⟨_,cmax,_⟩:=C.none hw;have hep:e<p0:=by
      have hfe:∃ m,gs[e]?=some (V.int m):=by
       obtain⟨s,hs,hse⟩:=zsu.mp C.ch.last;rcases C.ch.near s hs with z|⟨m,z⟩
       ·rw[<- hse,z];exact⟨x,hx⟩
       ·rw[hse] at z;exact⟨m,(zae hx z).1⟩
      obtain⟨m,hm⟩:=hfe;rcases lt0 e hRe with z|z
      ·rw[z,hpn] at hm;cases hm
      ·exact z
     refine⟨fun q=>(∃ k,Walk rows gs p0 q k)\/∃ k,Walk (without rows x) (gs.set p .non) p q k,.inl ⟨0,.nil⟩,fun q hq=>?_⟩;rcases hq with hq|hq
     ·refine⟨by rw[hRl];exact(closed0 q hq).1,fun r' hr' n hn=>?_⟩;obtain⟨r,g1,g2⟩:=Ti hr';obtain⟨q',h1,h2,h3⟩:=(closed0 q hq).2 r g1 n (g2 n hn).1;rcases moved (O8 hx h2 (g2 n hn).2) with ⟨_,m2⟩|⟨q0,m1,m2⟩
      ·exact⟨q',h1,m2,.inl h3⟩
      ·obtain⟨k0,hk0⟩:=C.ch.reach q0 (zsu.mpr ⟨_,m1,rfl⟩);have:=cmax q0 k0 hk0;exact⟨q0,by omega,m2,.inr ⟨k0,hk0⟩⟩
     ·obtain⟨t1,t2⟩:=clT q hq;refine⟨t1,fun r hr n hn=>?_⟩;obtain⟨q2,h1,h2,h3⟩:=t2 r hr n hn;exact⟨q2,by omega,h2,.inr h3⟩
  ·refine⟨fun q=>∃ k,Walk rows gs p0 q k,⟨0,.nil⟩,fun q hq=>⟨by rw[hRl];exact(closed0 q hq).1,fun r' hr' n hn=>?_⟩⟩;obtain⟨r,g1,g2⟩:=Ti hr';obtain⟨q',h1,h2,h3⟩:=(closed0 q hq).2 r g1 n (g2 n hn).1;rcases moved (O8 hx h2 (g2 n hn).2) with ⟨_,m2⟩|⟨q0,m1,m2⟩
   ·exact⟨q',h1,m2,h3⟩
   ·rcases Wg nd (show q' < (gs.set p V.non).length from(zsm.mp (O8 hx h2 (g2 n hn).2)).1) with ⟨_,b2⟩|⟨w2,b1,_⟩
    ·exact⟨q',h1,by rw[b2];exact O8 hx h2 (g2 n hn).2,h3⟩
    ·exact absurd ⟨q',zsu.mpr ⟨_,b1,rfl⟩,h3⟩ hpath
 ·rw[a2] at hpn;cases w' with
  | some n=>cases hpn
  | none =>
    obtain⟨b1,b2⟩:=C.ch.noneLast p0 a1;subst b1;exact⟨_,⟨0+(C.ch.reach p0 (zsu.mpr ⟨_,a1,rfl⟩)).choose,by rw[Nat.zero_add];exact(C.ch.reach p0 (zsu.mpr ⟨_,a1,rfl⟩)).choose_spec⟩,closedT b2⟩
end
end G
namespace L2
open PySem PySem.Spec PyProof.Rows
section
variable{prog:Program}{w:World}{A:Around}{E:Value->Shared->Prop}{s:Shared}{T:String}{r d:Addr}{n:Nat}{P:Nat->Value->Prop}{OK:Heap->Prop}
open PySem.W in
end
end L2
namespace G
open PySem PySem.Spec PyProof.Rows L2
section
variable{rows:List (List Int)}{gs:List V}
structure zjo(rows:List (List Int))(gs:List V)(ps:List Nat)(rs:List Int):Prop where
 up:ps.Pairwise (· < ·)
 lt:∀ p∈ps,p<rows.length
 rup:rs.Pairwise (· < ·)
 all:∀ n,n∈rs↔∃ p∈ps,∃ r,rows[p]?=some r/\n∈r
 cnt:ps.length=rs.length+(zf6 gs).length
 nil:zf6 gs=[]->ps=[]
 gap:∀ p,gs[p]?=some .non->p∈ps
 has:∀ n∈rs,∃ p∈ps,gs[p]?=some (.int n)
def zi2(x:Option V):Option Int:=match x with|some (.int n)=>some n|_=>none
end
section
variable{rows:List (List Int)}{gs:List V}{p:Nat}{line:List Nat}{dep:Nat->Nat}{fr:Nat->Option (Nat×Int)}
def byV(x:Option (Nat×Int)):V:=match x with|none=>.non|some y=>.int (y.1:Nat)
structure zjx(by_:List (Key×V))(line:List Nat)(fr:Nat->Option (Nat×Int)):Prop where
 keys:by_.map (·.1)=line.map fun q:Nat=>(inl (q:Int):Key)
 val:∀ q∈line,valV by_ (inl (q:Int):Key)=some (byV (fr q))
structure zjy(rows:List (List Int))(gs:List V)(dep:Nat->Nat)(q:Nat)(x:Int)(tl:List (Nat×Option Int))(e:Nat)(n:Int):Prop where
 ch:Ch rows gs q ((q,some x) :: tl) e (some n)
 nd:(((q,some x) :: tl).map (·.1)).Nodup
 far:∀ s∈tl,dep q<dep s.1
end
section
variable{rows:List (List Int)}{gs:List V}
def zhj(rows:List (List Int))(gs:List V)(p:Nat):Prop:=∀ q k,Walk rows gs p q k->¬ Uj rows gs q
structure zi3(rows:List (List Int))(f k:Nat)(gs:List V):Prop where
 fill:Yt rows gs
 seen:∀ j,j<k->(∃ n,gs[(f+j)%rows.length]?=some (.int n))\/zhj rows gs ((f+j)%rows.length)
 later:∀ p,(∀ j,j<k->(f+j)%rows.length≠p)->p<rows.length->gs[p]?=some .non
end
end G
namespace PySem
theorem G0(f:α->β):∀ (l:List α) (j:Nat),(l.map f).eraseIdx j=(l.eraseIdx j).map f
 | [],_=>rfl
 | _ :: _,0=>rfl
 | x :: l,j+1=>by
   show f x :: (l.map f).eraseIdx j=f x :: (l.eraseIdx j).map f;rw[G0 f l j]
section
variable{prog:Program}{w:World}{K:Type}[DecidableEq K]{knd:HeapKind prog w K}{A:Around}{E:Value->Shared->Prop}{s:Shared}
theorem P4(hu:knd.room A)(hkey:knd.is s.heap k a)(hm:s.heap.DictOfH knd d xs)(hj:xs[j]?=some (k,p))(hsz:xs.length<=sizeLine)
  (hQ:∀ h',h'.DictOfH knd d (xs.eraseIdx j)->Heap.SameBut d s.heap h'->Q (some (entryOfKey knd (k,p))) { s with heap:=h',toks:=s.toks+knd.draws k }) :
  wpAny (model prog w) A (Builtin.Dict.takeOut d (.ref a)) Q E s:=by
 obtain⟨o,es,ep,ho,hc,hd,he,his,hn⟩:=hm;unfold Builtin.Dict.takeOut
 try with_reducible refine wpAny_holding ?_
 refine wpAny_bind (knd.pyHash hu hkey (wpAny_bind (wpAny_dictFind_heap (s:={ s with toks:=s.toks+knd.draws k }) hu hkey ho hd he his hn ?_ ?_)))
 ·intro hno;exact absurd hj (hno j p)
 ·intro j' p' hj';have ej:=idxH_unique hn hj' hj;subst ej;refine wpAny_bind (wpAny_dictEntries (s:={ s with toks:=s.toks+knd.draws k }) ho hd ?_);rw[entry_at he j',hj];refine wpAny_bind (wpAny_updateDictKeys (hz:=by have e:=size_of_entries he;omega) (s:={ s with toks:=s.toks+knd.draws k }) ho hd (wpAny_pure (hQ _ ⟨_,_,ep+1,Heap.get?_update_self _ ho (Obj.isFreed_of_dict (Obj.data_mapDictKeys hd _)),
   hc.mapDictKeys _,Obj.data_mapDictKeys hd _,?_,?_,?_⟩ (Heap.SameBut.update ..))))
  ·obtain⟨l⟩:=es;simp only at he;simp[he,G0]
  ·intro x hx;exact knd.keeps (his x (List.mem_of_mem_eraseIdx hx)) ho hd (Heap.SameBut.update ..)
  ·have:=hn.sublist (List.Sublist.map (·.1) (List.eraseIdx_sublist xs j'));exact this
theorem Lj(d a:Addr)(k:K) :
  MeetsIn prog w (Builtin.«dict.pop» ⟨[.ref d,.ref a],[]⟩) (fun A R s=>knd.room A.in1/\knd.is s.heap k a/\∃ xs j p,s.heap.DictOfH knd d xs/\xs.length<=sizeLine/\xs[j]?=some (k,p) /\
   ∀ h' t',h'.DictOfH knd d (xs.eraseIdx j)->Heap.SameBut d s.heap h'->R (.ok (.ret p.2)) { s with heap:=h',toks:=t' }) :=
 .of_wp fun A R s ⟨hu,hkey,xs,j,p,hm,hsz,hj,h⟩=>by
  obtain⟨o,es,ep,ho,hc,hd,he,his,hn⟩:=id hm;unfold Builtin.«dict.pop»;refine wpAny_bind ?_;unfold Builtin.Dict.keyAndDefault;refine wpAny_bind (wpAny_notOrdered_dict hm.typeIs ?_);show wpAny _ _ (pure (d,Value.ref a,none)) _ _ s;refine wpAny_pure ?_;have hp:(keyPart (Value.ref a)).isSome=false:=rfl;simp only[hp,ztw,if_false];refine wpAny_bind (wpAny_dictEntries ho hd (wpAny_bind (wpAny_pure ?_)));have hne:es.isEmpty=false:=by
   have h1:=size_of_entries he;have h2:=(zsm.mp hj).1;rw[Array.isEmpty_eq_false_iff_exists_mem];exact⟨es[0]'⋯,Array.getElem_mem _⟩
  simp only[hne,ztw,if_false];refine wpAny_bind (P4 hu hkey hm hj hsz fun h' hm' hs'=>?_);simp only[Option.isNone_some,ztw,if_false];exact wpAny_bind (wpAny_letGo (wpAny_pure ⟨p.2,rfl,h h' _ hm' hs'⟩))
end
end PySem
namespace L2
open PySem PySem.Spec PyProof.Rows
theorem KT.drop:∀ {kvs:List (List Key×V)} {xs:List (List Key×Addr×Value)},KT H kvs xs->(xs.map (·.1)).Nodup->valV kvs k=some v->∃ j p,xs[j]?=some (k,p)/\RelV v p.2/\KT H (Xx kvs k) (xs.eraseIdx j)
 | [],[],_,_,hv=>by cases hv
 | p :: kvs,q :: xs,r,nd,hv=>by
   cases r with
   | cons h t =>
     rw[zsx,ztd] at nd;obtain⟨h1,h2,h3⟩:=h;by_cases e:p.1=k
     ·rw[Y8 e] at hv;cases hv;refine⟨0,q.2,by rw[<- e,h1];rfl,h3,?_⟩;show KT H (Xx (p :: kvs) k) xs;have hd:Xx (p :: kvs) k=kvs:=by
       unfold Xx;rw[zt8 (by simp[e])];rw[List.filter_eq_self];intro kv hkv;refine zss fun z=>nd.1 ?_;have:∀ {l:List (List Key×V)} {m:List (List Key×Addr×Value)},KT H l m->kv∈l->kv.1∈m.map (·.1):=by
        intro l m q
        induction q with
        | nil=>intro hx;cases hx
        | @cons p' q' ps qs hq t ih =>
          intro hx;rcases zso.mp hx with z|z
          ·rw[z,hq.1];exact zte
          ·exact zs4 _ (ih z)
       have h9:=this t hkv;rw[z,<- e,h1] at h9;exact h9
      rw[hd];exact t
     ·rw[Y2 e] at hv;obtain⟨j,pp,h4,h5,h6⟩:=KT.drop t nd.2 hv;refine⟨j+1,pp,h4,h5,?_⟩;have hd:Xx (p :: kvs) k=p :: Xx kvs k:=by
       unfold Xx;rw[zt9 (by simp[e])]
      rw[hd];exact .cons ⟨h1,h2,h3⟩ h6
inductive zfe(ty:TE)(σ:L2.St)(Q:VK)(x:V)(H1:Hp):Prop where
 | mk(a)(_:x=.ref a)(_:IsD H1 a)(_:ty σ H1 fun y H2=>∃ (kvs:List (List Key×V)) (k:List Key) (b:Addr) (v:V),H2 a=some (.dT kvs)/\y=.ref b/\H2 b=some (.tup (k.map kV))/\valV kvs k=some v/\Q v (upd H2 a (.dT (Xx kvs k))))
def zhk(td ty:TE):TE:=fun σ H Q=>td σ H fun x H1=>zfe ty σ Q x H1
theorem zdw(hu:X.A.units+1<cLine)(ho:PE X o td)(he:PE X e ty)(m:M1 X o "pop" apos e cpos):PE X (.Call (.Attribute o "pop" apos) [e] [] cpos) (zhk td ty):=by
 intro pins s σ H Q I h;refine wpAny_Call_method m.base m.few m.line PySem.F.plainAttrs_dict PySem.F.slot_dict_pop PySem.F.type_dict_pop (thn (ho pins s σ H _ I h) fun u s1 ⟨x,H1,I1,rx,a,ex,d,q1⟩=>?_);subst ex;obtain rfl:u=Value.ref a:=rx;obtain⟨t1,t2,_⟩:=Bf I1 d;refine⟨t1,t2,?_⟩;rw[m.trees];refine Calls.callWith_builtin rfl (Calls.evalArgs_plain (Calls.spliced_cons (thn (he pins s1 σ H1 _ I1 q1) fun iv s2 ⟨y,H2,I2,ry,kvs,k,b,v,ea,ey,eb,l,q2⟩=>Calls.spliced_nil ?_)));subst ey;cases (show iv=Value.ref b from ry);obtain⟨z,hd,xs,rel,dd⟩:=zf0 I2.hok ea;have hz:xs.length<=sizeLine:=by rw[<- Paired.length rel];exact z
 obtain⟨j,p,hj,rv,rel'⟩:=KT.drop rel (by obtain⟨_,_,_,_,_,_,_,_,hn⟩:=dd;exact hn) l;refine call_meetsIn PySem.F.slot_dict_pop dd.typeIs PySem.F.entry_dict_pop (PySem.F.args_dict_pop_2 _ _) (Lj (knd:=tupleKind (Yo X.prog X.w)) a b k) ⟨tupleKind_room_in1 hu,Pr I2.hok eb,xs,j,p,dd,hz,hj,fun h' t' dd' hs=>⟨v,_,?_,rv,q2⟩⟩;obtain⟨q,es,ep,hq,h2,h3,h4,_,h5⟩:=dd';refine O0 I2 (by rw[ea];exact True.intro) hs ⟨q,hq⟩ ⟨zs2 (Ez kvs k) z,hd,_,rel'.keeps fun c ys ec=>?_,q,es,ep,hq,h2,h3,h4,h5⟩;rw[Zh (Yp ec ea (fun z=>nomatch z))];exact ec
end L2
namespace G
open PySem PySem.Spec PyProof.Rows L2
structure CA where
 season:Addr
 sheet:Addr
 roster:Addr
 ledger:Addr
 out:Addr
 known:Addr
 many:Addr
 unk:Addr
 manyM:Addr
 same:Addr
 noMatch:Addr
 noRound:Addr
 over:Addr
 seaOver:Addr
 away:Addr
 drawn:Addr
 notDrawn:Addr
 nothing:Addr
 manyD:Addr
theorem Uu:1000000<sizeLine:=by rw[sizeLine_eq];decide
abbrev RL:=List (Int×Int×Int)
inductive W4(H:Hp):RL->List (Key×V)->Prop where
 | nil:W4 H [] []
 | cons {n g c:Int} {t:Addr} {R:RL} {kvs:List (Key×V)} (h:H t=some (.tup [.int g,.int c])) (r:W4 H R kvs):W4 H ((n,g,c) :: R) ((.inl n,.ref t) :: kvs)
theorem W4.mono(k:∀ t xs,H t=some (.tup xs)->H' t=some (.tup xs)):∀ {R:RL} {kvs:List (Key×V)},W4 H R kvs->W4 H' R kvs
 | _,_,.nil=>.nil
 | _,_,.cons h r=>.cons (k _ _ h) (W4.mono k r)
theorem W4.length:∀ {R:RL} {kvs:List (Key×V)},W4 H R kvs->kvs.length=R.length
 | _,_,.nil=>rfl
 | _,_,.cons _ r=>by simp[W4.length r]
theorem W4.keys:∀ {R:RL} {kvs:List (Key×V)},W4 H R kvs->(kvs.map fun kv=>kV kv.1)=R.map fun x=>V.int x.1
 | _,_,.nil=>rfl
 | _,_,.cons _ r=>by rw[zsx,zsx,W4.keys r];rfl
theorem W4.snoc(h:H t=some (.tup [.int g,.int c])):∀ {R:RL} {kvs:List (Key×V)},W4 H R kvs->W4 H (R++[(n,g,c)]) (kvs++[(.inl n,.ref t)])
 | _,_,.nil=>.cons h .nil
 | _,_,.cons h' r=>.cons h' (W4.snoc h r)
theorem W4.val_none:∀ {R:RL} {kvs:List (Key×V)},W4 H R kvs->n∉R.map (·.1)->valV kvs (inl n:Key)=none
 | _,_,.nil,_=>rfl
 | _,_,.cons (n:=m) _ r,h=>by
   rw[zsx,zso,not_or] at h;rw[Y2 (fun e=>h.1 (inl.inj e).symm)];exact W4.val_none r h.2
theorem W4.val_some:∀ {R:RL} {kvs:List (Key×V)},W4 H R kvs->(R.map (·.1)).Nodup->(n,g,c)∈R->∃ t,valV kvs (inl n:Key)=some (.ref t)/\H t=some (.tup [.int g,.int c])
 | _,_,.nil,_,h=>by simp at h
 | _,_,.cons (n:=m) (g:=g') (c:=c') (t:=t) ht r,nd,h=>by
   rw[zsx,ztd] at nd;by_cases e:m=n
   ·subst e;rcases zso.mp h with q|q
    ·cases q;exact⟨t,Y8 rfl,ht⟩
    ·exact absurd (zsu.mpr ⟨_,q,rfl⟩) nd.1
   ·rcases zso.mp h with q|q
    ·cases q;exact absurd rfl e
    ·obtain⟨t',h1,h2⟩:=W4.val_some r nd.2 q;exact⟨t',by rw[Y2 (fun z=>e (inl.inj z))];exact h1,h2⟩
theorem W4.isSome(e:W4 H R kvs)(nd:(R.map (·.1)).Nodup):(valV kvs (inl n:Key)).isSome=decide (n∈R.map (·.1)):=by
 by_cases h:n∈R.map (·.1)
 ·obtain⟨⟨m,g,c⟩,q,rfl⟩:=zsu.mp h;obtain⟨t,h1,_⟩:=e.val_some nd q;rw[h1,zss h];rfl
 ·rw[e.val_none h,zsw h];rfl
theorem W4.unsnoc:∀ {R:RL} {kvs:List (Key×V)},W4 H (R++[(n,g,c)]) kvs->n∉R.map (·.1)->W4 H R (Xx kvs (inl n))
 | [],_,.cons h .nil,_=>by
   unfold Xx;rw[zt8 (by simp)];exact .nil
 | (m,g',c') :: R,_,.cons h r,hn=>by
   rw[zsx,zso,not_or] at hn;unfold Xx;rw[zt9 (by
    refine zss fun z=>hn.1 ?_;exact(inl.inj z).symm)]
   exact .cons h (W4.unsnoc r hn.2)
structure Xf(C:Addr)(H:Hp)(p d:Addr)(R:RL):Prop where
 ex:∃ dx kvs,H p=some (.ins C dx [("entries",.ref d)])/\H d=some (.dK kvs)/\W4 H R kvs
 nd:(R.map (·.1)).Nodup
theorem W5:List.lookup ("entries":Str) ([("entries",V.ref d)]:List (Str×V))=some (.ref d):=by simp only[ztk,beq_self_eq_true]
theorem Xf.no{d:Addr}{m:Str}(h:¬ m="entries"):List.lookup m ([("entries",V.ref d)]:List (Str×V))=none:=by
 have e:(m == "entries")=false:=zs5.mpr h;simp only[ztk,e,List.lookup_nil]
theorem Xf.keep(h:Xf C H p d R)(kp:∀ o,H p=some o->H' p=some o)(kd:∀ o,H d=some o->H' d=some o)(kt:∀ t xs,H t=some (.tup xs)->H' t=some (.tup xs)):Xf C H' p d R:=by
 obtain⟨⟨dx,kvs,h1,h2,h3⟩,nd⟩:=h;exact⟨⟨dx,kvs,kp _ h1,kd _ h2,h3.mono kt⟩,nd⟩
theorem Xf.same(h:Xf C H p d R)(e:Same H H'):Xf C H' p d R:=h.keep (fun _ q=>e _ _ q) (fun _ q=>e _ _ q) fun _ _ q=>e _ _ q
def badI(n g c:Int):Prop:=n<1\/999<n\/g<1\/9<g\/c<1\/99<c
instance {n g c:Int}:Decidable (badI n g c):=by unfold badI;infer_instance
def Fy(n g c:Int):Prop:=Yr n/\Yr g/\Yr c
inductive O9(x:Addr)(vs:List V)(H:Hp)(Q:VK)(E:XK):Prop where
 | mk(v)(lo)(m)(_:vs=[.int v,.int lo,.int m])(_:Yr v)(_:Yr lo)(_:Yr m)(_:(if v<lo\/m<v then E (.ref x) none H else Q .non H))
inductive zaf(ca:CA)(vs:List V)(H:Hp)(Q:VK)(_:XK):Prop where
 | mk(p)(dx)(_:vs=[.ref p])(_:H p=some (.ins ca.roster dx []))(_:∀ d,H d=none->Q .non (upd (upd H d (.dK [])) p (.ins ca.roster dx [("entries",.ref d)])))
inductive P5(ca:CA)(vs:List V)(H:Hp)(Q:VK)(E:XK):Prop where
 | mk(p)(d)(R)(n)(g)(c)(_:vs=[.ref p,.int n,.int g,.int c])(_:Xf ca.roster H p d R)(_:Fy n g c)(_:if badI n g c then E (.ref ca.out) none H else if n∈R.map (·.1) then E (.ref ca.known) none H else if 30<=R.length then E (.ref ca.many) none H else Q .non H)
inductive Sx(ca:CA)(vs:List V)(H:Hp)(Q:VK)(E:XK):Prop where
 | mk(p)(d)(R)(n)(_:vs=[.ref p,.int n])(_:Xf ca.roster H p d R)(_:Yr n)(_:if n∈R.map (·.1) then Q .non H else E (.ref ca.unk) none H)
inductive zdx(ca:CA)(vs:List V)(H:Hp)(Q:VK)(E:XK):Prop where
 | mk(p)(d)(R)(n)(g)(c)(_:vs=[.ref p,.int n,.int g,.int c])(_:Xf ca.roster H p d R)(_:Fy n g c)(_:R.length<=1000)(_:if badI n g c then E (.ref ca.out) none H else if n∈R.map (·.1) then E (.ref ca.known) none H else if 30<=R.length then E (.ref ca.many) none H else ∀ H',Xf ca.roster H' p d (R++[(n,g,c)])->(∀ b o,H b=some o->b≠d->H' b=some o)->Q .non H')
inductive Dr(ca:CA)(vs:List V)(H:Hp)(Q:VK)(_:XK):Prop where
 | mk(p)(d)(R)(n)(g)(c)(_:vs=[.ref p,.int n])(_:Xf ca.roster H p d (R++[(n,g,c)]))(_:∀ H',Xf ca.roster H' p d R->(∀ b o,H b=some o->b≠d->H' b=some o)->Q .non H')
inductive K3(ca:CA)(vs:List V)(H:Hp)(Q:VK)(_:XK):Prop where
 | mk(p)(d)(R)(_:vs=[.ref p])(_:Xf ca.roster H p d R)(_:∀ l,H l=none->Q (.ref l) (upd H l (.lst (R.map fun x=>V.int x.1))))
inductive Du(ca:CA)(vs:List V)(H:Hp)(Q:VK)(E:XK):Prop where
 | mk(p)(d)(R)(n)(_:vs=[.ref p,.int n])(_:Xf ca.roster H p d R)(_:Yr n)(_:(n∉R.map (·.1)->E (.ref ca.unk) none H))(_:∀ g c t,(n,g,c)∈R->H t=some (.tup [.int g,.int c])->Q (.ref t) H)
inductive Dv(ca:CA)(vs:List V)(H:Hp)(Q:VK)(E:XK):Prop where
 | mk(p)(d)(R)(n)(_:vs=[.ref p,.int n])(_:Xf ca.roster H p d R)(_:Yr n)(_:(n∉R.map (·.1)->∀ H',Same H H'->E (.ref ca.unk) none H'))(_:∀ g c t H',(n,g,c)∈R->H' t=some (.tup (pV (n,g,c)))->Same H H'->H t=none->Q (.ref t) H')
structure Zz where
 ms:List (Int×Int×Int)
 may:List (List Int)
 gv:List V
 gaps:List (Int×List (Nat×Option Int))
inductive Wc(ok:Addr->Prop)(H:Hp):List V->List (Int×List (Nat×Option Int))->Prop where
 | nil:Wc ok H [] []
 | cons {t l:Addr} {n:Int} {us:List V} {st:List (Nat×Option Int)} {ts:List V} {G:List (Int×List (Nat×Option Int))} (h:H t=some (.tup [.int n,.ref l])) (hl:H l=some (.lst us)) (tl:Yb H us (st.map Vv)) (o:ok l) (r:Wc ok H ts G):Wc ok H (.ref t :: ts) ((n,st) :: G)
theorem Wc.keep(k:∀ x o,ok x->H x=some o->H' x=some o)(kt:∀ t xs,H t=some (.tup xs)->H' t=some (.tup xs)):∀ {ts:List V} {G:List (Int×List (Nat×Option Int))},Wc ok H ts G->Wc ok H' ts G
 | _,_,.nil=>.nil
 | _,_,.cons h hl tl o r=>.cons (kt _ _ h) (k _ _ o hl) (tl.mono kt) o (Wc.keep k kt r)
theorem Wc.imp(k:∀ x,(∃ o,H x=some o)->ok x->ok' x):∀ {ts:List V} {G:List (Int×List (Nat×Option Int))},Wc ok H ts G->Wc ok' H ts G
 | _,_,.nil=>.nil
 | _,_,.cons h hl tl o r=>.cons h hl tl (k _ ⟨_,hl⟩ o) (Wc.imp k r)
theorem Wc.length:∀ {ts:List V} {G:List (Int×List (Nat×Option Int))},Wc ok H ts G->ts.length=G.length
 | _,_,.nil=>rfl
 | _,_,.cons _ _ _ _ r=>by simp[Wc.length r]
theorem Wc.snoc{ok:Addr->Prop}{H:Hp}{t l:Addr}{n:Int}{us:List V}{st:List (Nat×Option Int)}(h:H t=some (.tup [.int n,.ref l]))(hl:H l=some (.lst us))(tl:Yb H us (st.map Vv))(o:ok l):∀ {ts:List V} {G:List (Int×List (Nat×Option Int))},Wc ok H ts G->Wc ok H (ts++[.ref t]) (G++[(n,st)])
 | _,_,.nil=>.cons h hl tl o .nil
 | _,_,.cons h' hl' tl' o' r=>.cons h' hl' tl' o' (Wc.snoc h hl tl o r)
theorem Wc.get:∀ {ts:List V} {G:List (Int×List (Nat×Option Int))} {i:Nat} {x:V},Wc ok H ts G->ts[i]?=some x->∃ t l n us st,x=.ref t/\G[i]?=some (n,st)/\H t=some (.tup [.int n,.ref l])/\H l=some (.lst us)/\Yb H us (st.map Vv)/\ok l
 | _,_,_,_,.nil,e=>by simp at e
 | _,_,0,_,.cons h hl tl o _,e=>by simp at e;subst e;exact⟨_,_,_,_,_,rfl,rfl,h,hl,tl,o⟩
 | _,_,i+1,x,.cons _ _ _ _ r,e=>by
   obtain⟨t,l,n,us,st,h1,h2,h3⟩:=Wc.get (i:=i) (x:=x) r (by simpa using e);exact⟨t,l,n,us,st,h1,by simpa using h2,h3⟩
def shF(l1 l2 l3 l4:Addr):List (Str×V):=[("listed",.ref l1),("lists",.ref l2),("given",.ref l3),("gaps",.ref l4)]
structure ShAt(C:Addr)(ok:Addr->Prop)(H:Hp)(q:Addr)(s:Zz):Prop where
 ex:∃ dx l1 l2 l3 l4 ts ls gts,H q=some (.ins C dx (shF l1 l2 l3 l4))/\H l1=some (.lst ts)/\Yb H ts (s.ms.map pV)/\H l2=some (.lst (ls.map V.ref))/\ILs H ls s.may/\H l3=some (.lst s.gv)/\H l4=some (.lst gts)/\Wc ok H gts s.gaps/\(ok q/\ok l1/\ok l2/\ok l3/\ok l4/\∀ x∈ls,ok x)
theorem ShAt.keep(h:ShAt C ok H q s)(k:∀ x o,ok x->H x=some o->H' x=some o)(kt:∀ t xs,H t=some (.tup xs)->H' t=some (.tup xs)):ShAt C ok H' q s:=by
 obtain⟨dx,l1,l2,l3,l4,ts,ls,gts,a1,a2,a3,a4,a5,a6,a7,a8,o1,o2,o3,o4,o5,o6⟩:=h;exact⟨dx,l1,l2,l3,l4,ts,ls,gts,k _ _ o1 a1,k _ _ o2 a2,a3.mono kt,k _ _ o3 a4,a5.keep fun x hx o q=>k _ _ (o6 x hx) q,k _ _ o4 a6,k _ _ o5 a7,a8.keep k kt,o1,o2,o3,o4,o5,o6⟩
theorem ShAt.imp(h:ShAt C ok H q s)(k:∀ x,(∃ o,H x=some o)->ok x->ok' x):ShAt C ok' H q s:=by
 obtain⟨dx,l1,l2,l3,l4,ts,ls,gts,a1,a2,a3,a4,a5,a6,a7,a8,o1,o2,o3,o4,o5,o6⟩:=h;exact⟨dx,l1,l2,l3,l4,ts,ls,gts,a1,a2,a3,a4,a5,a6,a7,a8.imp k,k _ ⟨_,a1⟩ o1,k _ ⟨_,a2⟩ o2,k _ ⟨_,a4⟩ o3,k _ ⟨_,a6⟩ o4,k _ ⟨_,a7⟩ o5,fun x hx=>k _ (let ⟨_,z⟩:=a5.has hx;⟨_,z⟩) (o6 x hx)⟩
theorem ShAt.same(h:ShAt C ok H q s)(e:Same H H'):ShAt C ok H' q s:=h.keep (fun _ _ _ q=>e _ _ q) fun _ _ q=>e _ _ q
def ShO(C:Addr)(ok:Addr->Prop)(H:Hp)(v:V)(s:Option Zz):Prop:=match s with|none=>v=.non|some s=>∃ q,v=.ref q/\ShAt C ok H q s
theorem ShO.keep(h:ShO C ok H v s)(k:∀ x o,ok x->H x=some o->H' x=some o)(kt:∀ t xs,H t=some (.tup xs)->H' t=some (.tup xs)):ShO C ok H' v s:=by
 cases s with
 | none=>exact h
 | some s=>obtain⟨q,e,h⟩:=h;exact⟨q,e,h.keep k kt⟩
theorem ShO.imp(h:ShO C ok H v s)(k:∀ x,(∃ o,H x=some o)->ok x->ok' x):ShO C ok' H v s:=by
 cases s with
 | none=>exact h
 | some s=>obtain⟨q,e,h⟩:=h;exact⟨q,e,h.imp k⟩
inductive ShL(C:Addr)(ok:Addr->Prop)(H:Hp):List V->List Zz->Prop where
 | nil:ShL C ok H [] []
 | cons {q:Addr} {s:Zz} {vs:List V} {ss:List Zz} (h:ShAt C ok H q s) (r:ShL C ok H vs ss):ShL C ok H (.ref q :: vs) (s :: ss)
theorem ShL.keep(k:∀ x o,ok x->H x=some o->H' x=some o)(kt:∀ t xs,H t=some (.tup xs)->H' t=some (.tup xs)):∀ {vs:List V} {ss:List Zz},ShL C ok H vs ss->ShL C ok H' vs ss
 | _,_,.nil=>.nil
 | _,_,.cons h r=>.cons (h.keep k kt) (ShL.keep k kt r)
theorem ShL.imp(k:∀ x,(∃ o,H x=some o)->ok x->ok' x):∀ {vs:List V} {ss:List Zz},ShL C ok H vs ss->ShL C ok' H vs ss
 | _,_,.nil=>.nil
 | _,_,.cons h r=>.cons (h.imp k) (ShL.imp k r)
theorem ShL.length:∀ {vs:List V} {ss:List Zz},ShL C ok H vs ss->vs.length=ss.length
 | _,_,.nil=>rfl
 | _,_,.cons _ r=>by simp[ShL.length r]
theorem ShL.snoc(h:ShAt C ok H q s):∀ {vs:List V} {ss:List Zz},ShL C ok H vs ss->ShL C ok H (vs++[.ref q]) (ss++[s])
 | _,_,.nil=>.cons h .nil
 | _,_,.cons h' r=>.cons h' (ShL.snoc h r)
theorem ShL.getR:∀ {vs:List V} {ss:List Zz} {i:Nat} {s:Zz},ShL C ok H vs ss->ss[i]?=some s->∃ q,vs[i]?=some (.ref q)/\ShAt C ok H q s
 | _,_,_,_,.nil,e=>by simp at e
 | _,_,0,_,.cons h _,e=>by simp at e;subst e;exact⟨_,rfl,h⟩
 | _,_,i+1,x,.cons _ r,e=>by
   obtain⟨t,h1,h2⟩:=ShL.getR (i:=i) (s:=x) r (by simpa using e);exact⟨t,by simpa using h1,h2⟩
abbrev Sd:=Str×Int×Int
def Pk(d:Sd):List V:=[.str d.1,.int d.2.1,.int d.2.2]
inductive Ub(C:Addr)(ok:Addr->Prop)(H:Hp):List V->List (Sd×Option Zz)->Prop where
 | nil:Ub C ok H [] []
 | cons {t u:Addr} {v:V} {d:Sd} {s:Option Zz} {vs:List V} {ss:List (Sd×Option Zz)} (h:H t=some (.tup [.ref u,v])) (hu:H u=some (.tup (Pk d))) (hs:ShO C ok H v s) (r:Ub C ok H vs ss):Ub C ok H (.ref t :: vs) ((d,s) :: ss)
theorem Ub.keep(k:∀ x o,ok x->H x=some o->H' x=some o)(kt:∀ t xs,H t=some (.tup xs)->H' t=some (.tup xs)):∀ {vs:List V} {ss:List (Sd×Option Zz)},Ub C ok H vs ss->Ub C ok H' vs ss
 | _,_,.nil=>.nil
 | _,_,.cons h hu hs r=>.cons (kt _ _ h) (kt _ _ hu) (hs.keep k kt) (Ub.keep k kt r)
theorem Ub.length:∀ {vs:List V} {ss:List (Sd×Option Zz)},Ub C ok H vs ss->vs.length=ss.length
 | _,_,.nil=>rfl
 | _,_,.cons _ _ _ r=>by simp[Ub.length r]
theorem Ub.snoc(h:H t=some (.tup [.ref u,v]))(hu:H u=some (.tup (Pk d)))(hs:ShO C ok H v s):∀ {vs:List V} {ss:List (Sd×Option Zz)},Ub C ok H vs ss->Ub C ok H (vs++[.ref t]) (ss++[(d,s)])
 | _,_,.nil=>.cons h hu hs .nil
 | _,_,.cons h' hu' hs' r=>.cons h' hu' hs' (Ub.snoc h hu hs r)
theorem Ub.unsnoc:∀ {vs:List V} {ss:List (Sd×Option Zz)},Ub C ok H vs (ss++[(d,s)])->∃ vs' t u v,vs=vs'++[.ref t]/\H t=some (.tup [.ref u,v])/\H u=some (.tup (Pk d))/\ShO C ok H v s/\Ub C ok H vs' ss
 | _,[],.cons h hu hs .nil=>⟨[],_,_,_,rfl,h,hu,hs,.nil⟩
 | _,_ :: _,.cons h hu hs r=>by
   obtain⟨vs',t,u,v,e,a1,a2,a3,a4⟩:=Ub.unsnoc r;exact⟨_ :: vs',t,u,v,by rw[e];rfl,a1,a2,a3,.cons h hu hs a4⟩
structure Sea where
 len:Nat
 rest:Nat
 ppl:RL
 led:List (List Row)
 out:List (Int×Int)
 old:List Zz
 cur:Option Zz
 std:List (Sd×Option Zz)
structure SAd where
 p:Addr
 pr:Addr
 dr:Addr
 pl:Addr
 lr:Addr
 ld:Addr
 da:Addr
 ls:Addr
 lt:Addr
def SAd.fp(A:SAd):List Addr:=[A.p,A.dr,A.lr,A.ld,A.da,A.ls,A.lt]
def seaF(A:SAd)(len rest:Nat)(v:V):List (Str×V):=[("length",.int len),("rest",.int rest),("roster",.ref A.pr),("ledger",.ref A.pl),("absent",.ref A.da),("sheets",.ref A.ls),("sheet",v),("standing",.ref A.lt)]
def Qa(kvs:List (List Key×V))(out:List (Int×Int)):Prop:=(∀ at_ n:Int,(valV kvs [inl at_,inl n]).isSome=decide ((at_,n)∈out))/\kvs.length<=out.length
structure Zv(ca:CA)(H:Hp)(A:SAd)(S:Sea):Prop where
 obj:∃ dx v,H A.p=some (.ins ca.season dx (seaF A S.len S.rest v))/\ShO ca.sheet (·∉A.fp) H v S.cur
 ros:Xf ca.roster H A.pr A.dr S.ppl
 led:Vu ca.ledger H A.pl A.lr A.ld S.led
 out:∃ kvs,H A.da=some (.dT kvs)/\Qa kvs S.out
 old:∃ vs,H A.ls=some (.lst vs)/\ShL ca.sheet (·∉A.fp) H vs S.old
 std:∃ vs,H A.lt=some (.lst vs)/\Ub ca.sheet (·∉A.fp) H vs S.std
 nd:A.fp.Nodup
 np:A.pr∉A.fp/\A.pl∉A.fp
def FrS(A:SAd)(H H':Hp):Prop:=∀ b o,H b=some o->b∉A.fp->H' b=some o
end G
namespace L2
open PySem PySem.Spec PyProof.Rows
theorem Dw{X:Cx}{K:Frag}(hK:X.K=K):OpR X (binaryOp .Add) (zf2 K):=hK▸ze0
end L2
namespace G
open PySem PySem.Spec PyProof.Rows L2
theorem it2{p:Prop}[Decidable p]{A B A' B':Prop}(h:if p then A else B)(h1:p->A->A')(h2:¬ p->B->B'):if p then A' else B':=by
 by_cases z:p
 ·rw[if_pos z] at h ⊢;exact h1 z h
 ·rw[if_neg z] at h ⊢;exact h2 z h
theorem zbr{κ:Type}[DecidableEq κ]{kvs:List (κ×V)}{k:κ}{v:V}(h:valV kvs k=none):putK kvs k v=kvs++[(k,v)]:=by
 unfold putK;rw[if_neg];intro z;rw[T9,h] at z;cases z
inductive Dx(C:Addr)(vs:List V)(H:Hp)(Q:VK)(_:XK):Prop where
 | mk(p lr ld:Addr)(Rs:List (List Row))(b:Addr)(ts:List V)(rs:List Row)(_:vs=[.ref p,.ref b])(_:Vu C H p lr ld Rs)(_:H b=some (.lst ts))(_:b≠lr)(_:Yb H ts (rs.map row4))(_:2*(tot Rs+rs.length)<=100000)(_:Rs.length<=1000)(_:∀ H',Vu C H' p lr ld (Rs++[rs])->(∀ b o,H b=some o->b≠lr->b≠ld->H' b=some o)->Q .non H')
def zag(ok:Addr->Prop)(H:Hp):Prop:=∀ x,H x=none->ok x
inductive Na(ca:CA)(vs:List V)(H:Hp)(Q:VK)(_:XK):Prop where
 | mk(q)(dx)(l1)(l2)(l3)(l4)(_:vs=[.ref q,.ref l1,.ref l2,.ref l3,.ref l4])(_:H q=some (.ins ca.sheet dx []))(_:∀ H',H'=upd H q (.ins ca.sheet dx (shF l1 l2 l3 l4))->Q .non H')
theorem Qz:List.lookup ("listed":Str) (shF l1 l2 l3 l4)=some (.ref l1):=by unfold shF;simp only[ztk,beq_self_eq_true]
theorem Qb:List.lookup ("given":Str) (shF l1 l2 l3 l4)=some (.ref l3):=by
 have e:(("given":Str) == "listed")=false:=by decide +kernel
 have e2:(("given":Str) == "lists")=false:=by decide +kernel
 unfold shF;simp only[ztk,e,e2,beq_self_eq_true]
theorem Fz:List.lookup ("gaps":Str) (shF l1 l2 l3 l4)=some (.ref l4):=by
 have e:(("gaps":Str) == "listed")=false:=by decide +kernel
 have e2:(("gaps":Str) == "lists")=false:=by decide +kernel
 have e3:(("gaps":Str) == "given")=false:=by decide +kernel
 unfold shF;simp only[ztk,e,e2,e3,beq_self_eq_true]
theorem Sy{l1 l2 l3 l4:Addr}{m:Str}(h1:¬ m="listed")(h2:¬ m="lists")(h3:¬ m="given")(h4:¬ m="gaps"):List.lookup m (shF l1 l2 l3 l4)=none:=by
 have e1:(m == "listed")=false:=zs5.mpr h1;have e2:(m == "lists")=false:=zs5.mpr h2;have e3:(m == "given")=false:=zs5.mpr h3;have e4:(m == "gaps")=false:=zs5.mpr h4;unfold shF;simp only[ztk,e1,e2,e3,e4,List.lookup_nil]
theorem zjp:putF "lists" y [(("listed":Str),x)]=([("listed",x),("lists",y)]:List (Str×V)):=by
 have n1:¬ (("listed":Str)="lists"):=by decide +kernel
 simp only[putF,if_neg n1]
theorem zjq:putF "given" z [(("listed":Str),x),("lists",y)]=([("listed",x),("lists",y),("given",z)]:List (Str×V)):=by
 have n1:¬ (("listed":Str)="given"):=by decide +kernel
 have n2:¬ (("lists":Str)="given"):=by decide +kernel
 simp only[putF,if_neg n1,if_neg n2]
theorem zjr:putF "gaps" w [(("listed":Str),x),("lists",y),("given",z)]=([("listed",x),("lists",y),("given",z),("gaps",w)]:List (Str×V)):=by
 have n1:¬ (("listed":Str)="gaps"):=by decide +kernel
 have n2:¬ (("lists":Str)="gaps"):=by decide +kernel
 have n3:¬ (("given":Str)="gaps"):=by decide +kernel
 simp only[putF,if_neg n1,if_neg n2,if_neg n3]
theorem P6(hq:H1 q=none)(hdx:H1 dx=none)(ne:dx≠q):Same H1 (upd (upd (upd H1 dx (.own q)) q (.ins C dx [])) q (.ins C dx (shF l1 l2 l3 l4)))/\upd (upd (upd H1 dx (.own q)) q (.ins C dx [])) q (.ins C dx (shF l1 l2 l3 l4)) q=some (.ins C dx (shF l1 l2 l3 l4)):=by
 refine⟨fun b o e=>?_,Zb⟩;rw[Zh (Zg e hq),Zh (Zg e hq),Zh (Zg e hdx)];exact e
inductive Dy(ca:CA)(vs:List V)(H:Hp)(Q:VK)(_:XK):Prop where
 | mk(ok:Addr->Prop)(q l2:Addr)(ls:List Addr)(rows:List (List Int))(s:Zz)(_:vs=[.ref q,.ref l2])(_:ShAt ca.sheet ok H q s)(_:H l2=some (.lst (ls.map V.ref)))(_:ILs H ls rows)(_:ok l2)(_:(∀ x∈ls,ok x))(_:zag ok H)(_:∀ q' H',ShAt ca.sheet ok H' q' { s with may:=rows }->Same H H'->H q'=none->Q (.ref q') H')
inductive Dz(ca:CA)(vs:List V)(H:Hp)(Q:VK)(_:XK):Prop where
 | mk(ok:Addr->Prop)(q l2:Addr)(ls:List Addr)(rows:List (List Int))(nu:List Int)(s:Zz)(n:Int)(p:Nat)(_:vs=[.ref q,.int n,.ref l2])(_:ShAt ca.sheet ok H q s)(_:H l2=some (.lst (ls.map V.ref)))(_:ILs H ls rows)(_:ok l2)(_:(∀ x∈ls,ok x))(_:zag ok H)(_:M0 rows nu)(_:(∀ x∈s.gv,oneV x))(_:s.gv[p]?=some (.int n))(_:(∀ j:Nat,s.gv[j]?=some (.int n)->j=p))(_:Yt rows (s.gv.set p .non))(_:s.gaps.length<=1000)(_:∀ q' st e w H',ShAt ca.sheet ok H' q' ⟨s.ms,rows,Ys st (s.gv.set p .non),s.gaps++[(n,st)]⟩->Xe rows (s.gv.set p .non) p st e w->Same H H'->H q'=none->Q (.ref q') H')
inductive zah(ca:CA)(vs:List V)(H:Hp)(Q:VK)(_:XK):Prop where
 | mk(ok:Addr->Prop)(l1 l2:Addr)(ts:List V)(ls:List Addr)(ms:List (Int×Int×Int))(rows:List (List Int))(nu:List Int)(_:vs=[.ref l1,.ref l2])(_:H l1=some (.lst ts))(_:Yb H ts (ms.map pV))(_:H l2=some (.lst (ls.map V.ref)))(_:ILs H ls rows)(_:ok l1)(_:ok l2)(_:(∀ x∈ls,ok x))(_:zag ok H)(_:M0 rows nu)(_:∀ q gv H',ShAt ca.sheet ok H' q ⟨ms,rows,gv,[]⟩->Yt rows gv->Ve rows gv->Same H H'->H q=none->Q (.ref q) H')
inductive M6(ca:CA)(vs:List V)(H:Hp)(Q:VK)(_:XK):Prop where
 | mk(ok:Addr->Prop)(q:Addr)(s:Zz)(_:vs=[.ref q])(_:ShAt ca.sheet ok H q s)(_:∀ l ts H',H' l=some (.lst ts)->Yb H' ts (s.ms.map pV)->Same H H'->H l=none->Q (.ref l) H')
inductive K4(ca:CA)(vs:List V)(H:Hp)(Q:VK)(_:XK):Prop where
 | mk(ok:Addr->Prop)(q:Addr)(s:Zz)(_:vs=[.ref q])(_:ShAt ca.sheet ok H q s)(_:∀ l H',H' l=some (.lst s.gv)->Same H H'->H l=none->Q (.ref l) H')
inductive N5(ca:CA)(vs:List V)(H:Hp)(Q:VK)(_:XK):Prop where
 | mk(ok:Addr->Prop)(q:Addr)(s:Zz)(n:Int)(_:vs=[.ref q,.int n])(_:ShAt ca.sheet ok H q s)(_:(∀ x∈s.gv,oneV x))(_:s.gv.length<=100)(_:∀ H',Same H H'->Q (oN (Wf s.gv n)) H')
def K5(m:Int×Int×Int)(x:V):Row:=⟨m.1,m.2.1,m.2.2,zi2 (some x)⟩
def Z5(s:Zz):List Row:=List.zipWith K5 s.ms s.gv
inductive D1(ca:CA)(vs:List V)(H:Hp)(Q:VK)(_:XK):Prop where
 | mk(ok:Addr->Prop)(q:Addr)(s:Zz)(_:vs=[.ref q])(_:ShAt ca.sheet ok H q s)(_:(∀ x∈s.gv,oneV x))(_:s.gv.length=s.ms.length)(_:s.ms.length<=1000)(_:∀ l ts H',H' l=some (.lst ts)->Yb H' ts ((Z5 s).map row4)->Same H H'->H l=none->Q (.ref l) H')
inductive K6(ca:CA)(vs:List V)(H:Hp)(Q:VK)(_:XK):Prop where
 | mk(ok:Addr->Prop)(q:Addr)(s:Zz)(_:vs=[.ref q])(_:ShAt ca.sheet ok H q s)(_:s.gaps.length<=1000)(_:∀ l ts H',H' l=some (.lst ts)->Wc (fun x=>H x=none/\x≠l) H' ts s.gaps->Same H H'->H l=none->Q (.ref l) H')
theorem Bu{K:Frag}{a:Addr}{xs:List V}{xo:List Str}{js:List Nat}{g:TG}{tt:TT}{te:TE}{σ:L2.St}{H:Hp}{Q:VK}(Pv:Nat->List V->Hp->Prop)(h0:Pv 0 [] H)(hl:∀ i ys H,i<=xs.length->Pv i ys H->SqL K H a xs)(hz:xs.length<=sizeLine)(hy:∀ i ys H,Pv i ys H->ys.length<=i)
  (hs:∀ i x ys H,xs[i]?=some x->Pv i ys H->g x (cs0 xo js σ) H fun σ2 H1=>Qy xo js σ σ2/\tt σ2 H1 fun b H2=>if b=true then te σ2 H2 fun y H3=>Pv (i+1) (ys++[y]) H3 else Pv (i+1) ys H2)
  (hd:∀ ys H,Pv xs.length ys H->∀ p,H p=none->Q (.ref p) (upd H p (.lst ys))):Br (Itl K a) xo js g tt te σ H Q:=by
 refine⟨fun i m ys H=>m=xs.length-i/\i<=xs.length/\Pv i ys H,⟨xs.length,by simp,zs9 _,h0⟩,?_⟩;rintro i m ys H ⟨rfl,hi,p⟩;have q:=hl i ys H hi p;have ly:=hy i ys H p;by_cases hlt:i<xs.length
 ·refine .inr ⟨⟨xs,xs[i],q,by simp[hlt]⟩,by omega,Pv (i+1),fun ys' H' p'=>⟨xs.length-(i+1),by omega,rfl,hlt,p'⟩,fun x H' y=>?_⟩;obtain⟨e,y⟩:=y;subst e;exact hs i x ys _ (y xs q) p
 ·have e:i=xs.length:=by omega
  subst e;exact .inl ⟨⟨xs,q,zst _⟩,by omega,hd ys H p⟩
theorem zbs{K:Frag}{a b:Addr}{xs zs:List V}{xo:List Str}{js:List Nat}{g:TG}{tt:TT}{te:TE}{σ:L2.St}{H:Hp}{Q:VK}(Pv:Nat->List V->Hp->Prop)(h0:Pv 0 [] H)(he:xs.length=zs.length)(hl:∀ i ys H,i<=xs.length->Pv i ys H->SqL K H a xs/\SqL K H b zs)(hz:xs.length<=sizeLine)(hy:∀ i ys H,Pv i ys H->ys.length<=i)
  (hs:∀ i x z t ys H,xs[i]?=some x->zs[i]?=some z->Pv i ys H->H t=none->g (.ref t) (cs0 xo js σ) (upd H t (.tup [x,z])) fun σ2 H1=>Qy xo js σ σ2/\tt σ2 H1 fun b H2=>if b=true then te σ2 H2 fun y H3=>Pv (i+1) (ys++[y]) H3 else Pv (i+1) ys H2)
  (hd:∀ ys H,Pv xs.length ys H->∀ p,H p=none->Q (.ref p) (upd H p (.lst ys))):Br (Itz K a b) xo js g tt te σ H Q:=by
 refine⟨fun i m ys H=>m=xs.length-i/\i<=xs.length/\Pv i ys H,⟨xs.length,by simp,zs9 _,h0⟩,?_⟩;rintro i m ys H ⟨rfl,hi,p⟩;obtain⟨q1,q2⟩:=hl i ys H hi p;have ly:=hy i ys H p;by_cases hlt:i<xs.length
 ·refine .inr ⟨⟨xs,zs,xs[i],zs[i]'⋯,q1,q2,by simp[hlt],by rw[zsl ⋯]⟩,by omega,Pv (i+1),fun ys' H' p'=>⟨xs.length-(i+1),by omega,rfl,hlt,p'⟩,fun x H' y=>?_⟩;obtain⟨t,y,z,h1,h2,h3,rfl,rfl⟩:=y;exact hs i y z t ys _ (h2 xs q1) (h3 zs q2) p h1
 ·have e:i=xs.length:=by omega
  subst e;exact .inl ⟨⟨xs,zs,q1,q2,.inl (zst _)⟩,by omega,hd ys H p⟩
theorem zhl(m:Int×Int×Int)(h:oneV x):row4 (K5 m x)=[V.int m.1,V.int m.2.1,V.int m.2.2,x]:=by
 rcases h with rfl|⟨i,rfl⟩<;>rfl
theorem zbt(hm:s.ms[i]?=some m)(hx:s.gv[i]?=some x):(Z5 s).take (i+1)=(Z5 s).take i++[K5 m x]:=by
 have:(Z5 s)[i]?=some (K5 m x):=by
  unfold Z5;rw[List.getElem?_zipWith,hm,hx]
 rw[ztv,this];rfl
theorem D2(h:s.gv.length=s.ms.length):(Z5 s).length=s.ms.length:=by
 unfold Z5;rw[zuk,h,Nat.min_self]
section
variable{ca:CA}{H H':Hp}{A:SAd}{S:Sea}{l:Nat}{r:Nat}{v:V}
theorem D3(A:SAd)(l r:Nat)(v:V):List.lookup ("length":Str) (seaF A l r v)=some (.int l)/\List.lookup ("rest":Str) (seaF A l r v)=some (.int r)/\List.lookup ("roster":Str) (seaF A l r v)=some (.ref A.pr)/\List.lookup ("ledger":Str) (seaF A l r v)=some (.ref A.pl)/\List.lookup ("absent":Str) (seaF A l r v)=some (.ref A.da)/\List.lookup ("sheets":Str) (seaF A l r v)=some (.ref A.ls)/\List.lookup ("sheet":Str) (seaF A l r v)=some v/\List.lookup ("standing":Str) (seaF A l r v)=some (.ref A.lt):=by
 have d:∀ a b:Str,decide (a=b)=false->(a == b)=false:=fun a b h=>zs5.mpr (of_decide_eq_false h);have e1:=d "rest" "length" ⋯;have e2:=d "roster" "length" ⋯;have e3:=d "roster" "rest" ⋯;have f1:=d "ledger" "length" ⋯;have f2:=d "ledger" "rest" ⋯;have f3:=d "ledger" "roster" ⋯;have g1:=d "absent" "length" ⋯;have g2:=d "absent" "rest" ⋯;have g3:=d "absent" "roster" ⋯;have g4:=d "absent" "ledger" ⋯;have h1:=d "sheets" "length" ⋯;have h2:=d "sheets" "rest" ⋯;have h3:=d "sheets" "roster" ⋯;have h4:=d "sheets" "ledger" ⋯;have h5:=d "sheets" "absent" ⋯;have i1:=d "sheet" "length" ⋯;have i2:=d "sheet" "rest" ⋯;have i3:=d "sheet" "roster" ⋯;have i4:=d "sheet" "ledger" ⋯;have i5:=d "sheet" "absent" ⋯;have i6:=d "sheet" "sheets" ⋯;have j1:=d "standing" "length" ⋯;have j2:=d "standing" "rest" ⋯;have j3:=d "standing" "roster" ⋯;have j4:=d "standing" "ledger" ⋯;have j5:=d "standing" "absent" ⋯;have j6:=d "standing" "sheets" ⋯;have j7:=d "standing" "sheet" ⋯;unfold seaF;refine⟨?_,?_,?_,?_,?_,?_,?_,?_⟩<;>simp only[ztk,beq_self_eq_true,e1,e2,e3,f1,f2,f3,g1,g2,g3,g4,h1,h2,h3,h4,h5,i1,i2,i3,i4,i5,i6,j1,j2,j3,j4,j5,j6,j7]
theorem G1:List.lookup ("length":Str) (seaF A l r v)=some (.int l):=(D3 A l r v).1
theorem zff:List.lookup ("rest":Str) (seaF A l r v)=some (.int r):=(D3 A l r v).2.1
theorem Vz:List.lookup ("roster":Str) (seaF A l r v)=some (.ref A.pr):=(D3 A l r v).2.2.1
theorem V0:List.lookup ("ledger":Str) (seaF A l r v)=some (.ref A.pl):=(D3 A l r v).2.2.2.1
theorem Q0:List.lookup ("absent":Str) (seaF A l r v)=some (.ref A.da):=(D3 A l r v).2.2.2.2.1
theorem G2:List.lookup ("sheets":Str) (seaF A l r v)=some (.ref A.ls):=(D3 A l r v).2.2.2.2.2.1
theorem Wh:List.lookup ("sheet":Str) (seaF A l r v)=some v:=(D3 A l r v).2.2.2.2.2.2.1
theorem Tj:List.lookup ("standing":Str) (seaF A l r v)=some (.ref A.lt):=(D3 A l r v).2.2.2.2.2.2.2
theorem Ye(h:(["length","rest","roster","ledger","absent","sheets","sheet","standing"]:List Str).all (fun x=>!decide (m=x))=true):List.lookup m (seaF A l r v)=none:=by
 simp only[List.all_cons,List.all_nil,Bool.and_true,zt2,Bool.not_eq_true',decide_eq_false_iff_not] at h;obtain⟨h1,h2,h3,h4,h5,h6,h7,h8⟩:=h;have e:∀ x:Str,¬ m=x->(m == x)=false:=fun x z=>zs5.mpr z;unfold seaF;simp only[ztk,e _ h1,e _ h2,e _ h3,e _ h4,e _ h5,e _ h6,e _ h7,e _ h8,List.lookup_nil]
theorem Zv.same(h:Zv ca H A S)(e:Same H H'):Zv ca H' A S:=by
 obtain⟨⟨dx,v,a1,a2⟩,b,c,⟨kvs,d1,d2⟩,⟨vs,f1,f2⟩,⟨us,g1,g2⟩,nd,np⟩:=h;have k:∀ x o,x∉A.fp->H x=some o->H' x=some o:=fun _ _ _ q=>e _ _ q;have kt:∀ t xs,H t=some (.tup xs)->H' t=some (.tup xs):=fun _ _ q=>e _ _ q;exact⟨⟨dx,v,e _ _ a1,a2.keep k kt⟩,b.same e,c.same e,⟨kvs,e _ _ d1,d2⟩,⟨vs,e _ _ f1,f2.keep k kt⟩,⟨us,e _ _ g1,g2.keep k kt⟩,nd,np⟩
theorem FrS.of(A:SAd)(e:Same H H'):FrS A H H':=fun b o q _=>e b o q
theorem FrS.trans(h1:FrS A H H')(h2:FrS A H' H2):FrS A H H2:=fun b o e n=>h2 b o (h1 b o e n) n
theorem Zv.there(h:Zv ca H A S):∀ x∈A.fp,∃ o,H x=some o:=by
 obtain⟨⟨dx,v,a1,_⟩,⟨⟨_,_,_,b2,_⟩,_⟩,⟨_,⟨rs,c2,_⟩,⟨ks,c3,_⟩⟩,⟨kvs,d1,_⟩,⟨vs,f1,_⟩,⟨us,g1,_⟩,nd,np⟩:=h;intro x hx;simp only[SAd.fp,zso,zto,or_false] at hx;rcases hx with rfl|rfl|rfl|rfl|rfl|rfl|rfl
 ·exact⟨_,a1⟩
 ·exact⟨_,b2⟩
 ·exact⟨_,c2⟩
 ·exact⟨_,c3⟩
 ·exact⟨_,d1⟩
 ·exact⟨_,f1⟩
 ·exact⟨_,g1⟩
theorem Zv.newOk(h:Zv ca H A S):zag (·∉A.fp) H:=fun x hx hm=>by
 obtain⟨o,e⟩:=h.there x hm;rw[e] at hx;cases hx
theorem Zv.tups(h:Zv ca H A S)(f:FrS A H H'):∀ t xs,H t=some (.tup xs)->H' t=some (.tup xs):=fun t xs e=>f t _ e fun hm=>by
 obtain⟨⟨dx,v,a1,_⟩,⟨⟨_,_,_,b2,_⟩,_⟩,⟨_,⟨rs,c2,_⟩,⟨ks,c3,_⟩⟩,⟨kvs,d1,_⟩,⟨vs,f1,_⟩,⟨us,g1,_⟩,nd,np⟩:=h;simp only[SAd.fp,zso,zto,or_false] at hm;rcases hm with rfl|rfl|rfl|rfl|rfl|rfl|rfl
 ·rw[a1] at e;cases e
 ·rw[b2] at e;cases e
 ·rw[c2] at e;cases e
 ·rw[c3] at e;cases e
 ·rw[d1] at e;cases e
 ·rw[f1] at e;cases e
 ·rw[g1] at e;cases e
end
def atV(S:Sea):Int:=(S.led.length:Int)+1
inductive Vg(ca:CA)(vs:List V)(H:Hp)(Q:VK)(_:XK):Prop where
 | mk(A:SAd)(S:Sea)(_:vs=[.ref A.p])(_:Zv ca H A S)(_:Q (.int (atV S)) H)
inductive N6(ca:CA)(vs:List V)(H:Hp)(Q:VK)(E:XK):Prop where
 | mk(A:SAd)(S:Sea)(_:vs=[.ref A.p])(_:Zv ca H A S)(_:if S.len<=S.led.length then E (.ref ca.seaOver) none H else Q .non H)
inductive N7(ca:CA)(vs:List V)(H:Hp)(Q:VK)(E:XK):Prop where
 | mk(A:SAd)(S:Sea)(_:vs=[.ref A.p])(_:Zv ca H A S)(_:if S.len<=S.led.length then E (.ref ca.seaOver) none H else if S.cur.isSome then E (.ref ca.drawn) none H else Q .non H)
inductive F3(ca:CA)(vs:List V)(H:Hp)(Q:VK)(E:XK):Prop where
 | mk(A:SAd)(S:Sea)(at_:Int)(_:vs=[.ref A.p,.int at_])(_:Zv ca H A S)(_:Yr at_)(_:if at_<1\/(S.len:Int)<at_ then E (.ref ca.noRound) none H else Q .non H)
inductive F4(ca:CA)(vs:List V)(H:Hp)(Q:VK)(E:XK):Prop where
 | mk(A:SAd)(S:Sea)(_:vs=[.ref A.p])(_:Zv ca H A S)(_:if 100<=S.std.length then E (.ref ca.manyD) none H else Q .non H)
inductive F5(ca:CA)(vs:List V)(H:Hp)(Q:VK)(_:XK):Prop where
 | mk(A:SAd)(S:Sea)(w:Str)(n at_:Int)(_:vs=[.ref A.p,.str w,.int n,.int at_])(_:Zv ca H A S)(_:S.std.length<=1000)(_:∀ H',Zv ca H' A { S with std:=S.std++[((w,n,at_),S.cur)] }->FrS A H H'->Q .non H')
inductive P7(ca:CA)(vs:List V)(H:Hp)(Q:VK)(E:XK):Prop where
 | mk(A:SAd)(S:Sea)(_:vs=[.ref A.p])(_:Zv ca H A S)(_:(S.cur=none->E (.ref ca.notDrawn) none H))(_:∀ s q,S.cur=some s->ShAt ca.sheet (·∉A.fp) H q s->Q (.ref q) H)
def Vh(S:Sea)(at_:Int):Option Zz:=if at_<=S.led.length then S.old[(at_-1).toNat]? else if (S.led.length:Int)+1<at_ then none else S.cur
inductive G3(ca:CA)(vs:List V)(H:Hp)(Q:VK)(E:XK):Prop where
 | mk(A:SAd)(S:Sea)(at_:Int)(_:vs=[.ref A.p,.int at_])(_:Zv ca H A S)(_:Yr at_)(_:S.old.length=S.led.length)(_:if at_<1\/(S.len:Int)<at_ then E (.ref ca.noRound) none H else (Vh S at_=none->E (.ref ca.notDrawn) none H)/\∀ s q,Vh S at_=some s->ShAt ca.sheet (·∉A.fp) H q s->Q (.ref q) H)
def pIn(out:List (Int×Int))(at_:Int)(m:P3):Bool:=decide ((at_,m.1)∈out)
def Iv(S:Sea)(m:P3):List Int:=(S.ppl.filter fun x=>(whyS S.led x.1 x.2.1 x.2.2 m.1 m.2.1 m.2.2 (pIn S.out (atV S) x) S.rest).isEmpty).map (·.1)
def mayS(S:Sea)(ms:List P3):List (List Int):=ms.map (Iv S)
inductive P8(ca:CA)(vs:List V)(H:Hp)(Q:VK)(_:XK):Prop where
 | mk(A:SAd)(S:Sea)(l:Addr)(ts:List V)(ms:List P3)(_:vs=[.ref A.p,.ref l])(_:Zv ca H A S)(_:H l=some (.lst ts))(_:Yb H ts (ms.map pV))(_:ms.length<=100)(_:S.ppl.length<=100)(_:(∀ x∈S.ppl,Yr x.1))(_:∀ l' ls H',H' l'=some (.lst (ls.map V.ref))->ILs H' ls (mayS S ms)->Same H H'->H l'=none->(∀ x∈ls,H x=none)->Q (.ref l') H')
def badM(m:P3):Prop:=m.1<1\/99<m.1\/m.2.1<1\/99<m.2.1\/m.2.2<1\/9<m.2.2
def Sz(Ms:List P3):Prop:=∃ m∈Ms,badM m
def S4(Ms:List P3):Prop:=∃ m∈Ms,m.1=m.2.1
def K7(m:P3):Prop:=Yr m.1/\Yr m.2.1/\Yr m.2.2
theorem G4{p:P3->Prop}{Ms:List P3}{i:Nat}{m:P3}(e:Ms[i]?=some m)(h:∀ x∈Ms.take i,¬ p x)(hm:¬ p m):∀ x∈Ms.take (i+1),¬ p x:=fun x hx=>by
 rw[ztv,e] at hx;rcases zsv.mp hx with q|q
 ·exact h x q
 ·simp at q;subst q;exact hm
inductive D4(K:Frag)(ca:CA)(vs:List V)(H:Hp)(Q:VK)(E:XK):Prop where
 | mk(b)(ts)(_:vs=[.ref b])(_:SqL K H b ts)(_:ts.length<=1000)(_:(20<ts.length->E (.ref ca.manyM) none H))(_:(ts.length<=20->Q .non H))
inductive G5(K:Frag)(ca:CA)(vs:List V)(H:Hp)(Q:VK)(E:XK):Prop where
 | mk(b:Addr)(ts:List V)(Ms:List P3)(_:vs=[.ref b])(_:SqL K H b ts)(_:Yb H ts (Ms.map pV))(_:(∀ m∈Ms,K7 m))(_:(Sz Ms->E (.ref ca.out) none H))(_:(¬ Sz Ms->Q .non H))
inductive D5(K:Frag)(ca:CA)(vs:List V)(H:Hp)(Q:VK)(E:XK):Prop where
 | mk(b:Addr)(ts:List V)(Ms:List P3)(_:vs=[.ref b])(_:SqL K H b ts)(_:Yb H ts (Ms.map pV))(_:(∀ m∈Ms,K7 m))(_:(S4 Ms->E (.ref ca.same) none H))(_:(¬ S4 Ms->Q .non H))
inductive K8(K:Frag)(ca:CA)(vs:List V)(H:Hp)(Q:VK)(E:XK):Prop where
 | mk(b:Addr)(ts:List V)(Ms:List P3)(_:vs=[.ref b])(_:SqL K H b ts)(_:Yb H ts (Ms.map pV))(_:(∀ m∈Ms,K7 m))(_:Ms.length<=1000)(_:(20<Ms.length->E (.ref ca.manyM) none H))(_:(Ms.length<=20->Sz Ms->E (.ref ca.out) none H))(_:(Ms.length<=20->¬ Sz Ms->S4 Ms->E (.ref ca.same) none H))(_:(Ms.length<=20->¬ Sz Ms->¬ S4 Ms->∀ l,H l=none->Q (.ref l) (upd H l (.lst ts))))
theorem Qa.isSome(h:Qa kvs out)(i n:Int):(valV kvs [inl i,inl n]).isSome=decide ((i,n)∈out):=h.1 i n
theorem K9{A:SAd}(nd:A.fp.Nodup):(A.p≠A.dr/\A.p≠A.lr/\A.p≠A.ld/\A.p≠A.da/\A.p≠A.ls/\A.p≠A.lt)/\(A.dr≠A.lr/\A.dr≠A.ld/\A.dr≠A.da/\A.dr≠A.ls/\A.dr≠A.lt)/\(A.lr≠A.ld/\A.lr≠A.da/\A.lr≠A.ls/\A.lr≠A.lt)/\(A.ld≠A.da/\A.ld≠A.ls/\A.ld≠A.lt)/\(A.da≠A.ls/\A.da≠A.lt)/\A.ls≠A.lt:=by
 simp only[SAd.fp,ztd,zso,zto,or_false,not_or] at nd;obtain⟨⟨n1,n2,n3,n4,n5,n6⟩,⟨n7,n8,n9,n10,n11⟩,⟨n12,n13,n14,n15⟩,⟨n16,n17,n18⟩,⟨n19,n20⟩,n21,_⟩:=nd;exact⟨⟨n1,n2,n3,n4,n5,n6⟩,⟨n7,n8,n9,n10,n11⟩,⟨n12,n13,n14,n15⟩,⟨n16,n17,n18⟩,⟨n19,n20⟩,n21⟩
theorem zfg{R:RL}(nd:(R.map (·.1)).Nodup){x y:P3}(hx:x∈R)(hy:y∈R)(h:x.1=y.1):x=y:=by
 induction R with
 | nil=>cases hx
 | cons z R ih =>
   rw[zsx,ztd] at nd;rcases zso.mp hx with e|e<;>rcases zso.mp hy with e'|e'
   ·rw[e,e']
   ·exact absurd (zsu.mpr ⟨y,e',by rw[<- h,e]⟩) nd.1
   ·exact absurd (zsu.mpr ⟨x,e,by rw[h,e']⟩) nd.1
   ·exact ih nd.2 e e'
def outV(S:Sea):List V:=(S.ppl.filter (pIn S.out (atV S))).map fun x=>V.int x.1
theorem zdy(S:Sea):∀ x∈outV S,oneV x:=fun x hx=>by
 unfold outV at hx;obtain⟨m,_,rfl⟩:=zsu.mp hx;exact .inr ⟨_,rfl⟩
theorem zfh(hx:x∈S.ppl):inV (.int x.1) (outV S)=pIn S.out (atV S) x:=by
 unfold outV;rw[show ((S.ppl.filter (pIn S.out (atV S))).map fun x=>V.int x.1)=((S.ppl.filter (pIn S.out (atV S))).map (·.1)).map V.int by rw[zt7];rfl,Fw];unfold pIn;by_cases h:(atV S,x.1)∈S.out
 ·rw[zss h,zss];exact zsu.mpr ⟨x,ztp.mpr ⟨hx,zss h⟩,rfl⟩
 ·rw[zsw h,zsw];intro z;obtain⟨y,h1,h2⟩:=zsu.mp z;have:=of_decide_eq_true (ztp.mp h1).2;rw[h2] at this;exact h this
theorem zhm(S:Sea)(m:P3):((S.ppl.filter (R9 S.led m.1 m.2.1 m.2.2 (outV S) S.rest)).map fun x=>V.int x.1)=(Iv S m).map V.int:=by
 unfold Iv;rw[zt7];have:S.ppl.filter (R9 S.led m.1 m.2.1 m.2.2 (outV S) S.rest)=S.ppl.filter fun x=>(whyS S.led x.1 x.2.1 x.2.2 m.1 m.2.1 m.2.2 (pIn S.out (atV S) x) S.rest).isEmpty:=by
  refine List.filter_congr fun x hx=>?_;unfold R9;rw[zfh hx]
 rw[this];rfl
theorem atI_last:atI (xs++[x]) (-1)=some x:=by
 have hl:(xs++[x]).length=xs.length+1:=by rw[zsn];rfl
 unfold atI ixN;rw[if_neg ⋯,if_pos ⋯];show (xs++[x])[((-1:Int)+(xs++[x]).length).toNat]?=_;rw[show ((-1:Int)+(xs++[x]).length).toNat=xs.length by omega,zth (zst _),Nat.sub_self];rfl
theorem Wc.unsnoc{ok:Addr->Prop}{H:Hp}{n:Int}{st:List (Nat×Option Int)}:∀ {vs:List V} {G:List (Int×List (Nat×Option Int))},Wc ok H vs (G++[(n,st)])->∃ vs' t l us,vs=vs'++[.ref t]/\H t=some (.tup [.int n,.ref l])/\H l=some (.lst us)/\Yb H us (st.map Vv)/\ok l
 | _,[],.cons h hl tl o .nil=>⟨[],_,_,_,rfl,h,hl,tl,o⟩
 | _,_ :: _,.cons h hl tl o r=>by
   obtain⟨vs',t,l,us,e,a⟩:=Wc.unsnoc r;exact⟨_ :: vs',t,l,us,by rw[e];rfl,a⟩
def Tn(S:Sea):Prop:=(∀ x∈S.ppl,¬ badI x.1 x.2.1 x.2.2)/\S.ppl.length<=30
theorem Tn.small(h:Tn S):∀ x∈S.ppl,Yr x.1:=fun x hx=>by
 have:=h.1 x hx;unfold badI at this;exact Z7 ⋯ ⋯
theorem Tn.may(h:Tn S)(nd:(S.ppl.map (·.1)).Nodup)(hm:ms.length<=20):M0 (mayS S ms) (S.ppl.map (·.1)):=by
 refine⟨by unfold mayS;rw[zsk];exact hm,by rw[zsk];exact h.2,nd,fun n hn=>?_,fun r hr=>?_⟩
 ·obtain⟨x,hx,rfl⟩:=zsu.mp hn;have:=h.1 x hx;unfold badI at this;omega
 ·unfold mayS at hr;obtain⟨m,_,rfl⟩:=zsu.mp hr;unfold Iv;exact⟨nd.sublist (List.Sublist.map _ List.filter_sublist),fun n hn=>by
   obtain⟨x,hx,rfl⟩:=zsu.mp hn;exact zsu.mpr ⟨x,(ztp.mp hx).1,rfl⟩⟩
section
variable{ca:CA}{H H':Hp}{A:SAd}{S:Sea}
theorem M7(h:Zv ca H A S)(hx:x∈A.fp):A.pr≠x/\A.pl≠x:=⟨fun z=>h.np.1 (by rw[z];exact hx),fun z=>h.np.2 (by rw[z];exact hx)⟩
theorem FrS.one(hx:x∈A.fp)(k:∀ b o,H b=some o->b≠x->H' b=some o):FrS A H H':=fun b o e hb=>k b o e fun z=>hb (by rw[z];exact hx)
theorem Zv.setRos(h:Zv ca H A S)(r:Xf ca.roster H' A.pr A.dr R)(k:∀ b o,H b=some o->b≠A.dr->H' b=some o):Zv ca H' A { S with ppl:=R }/\FrS A H H':=by
 have f:FrS A H H':=.one (by simp[SAd.fp]) k;have kt:=h.tups f;have ko:∀ x o,x∉A.fp->H x=some o->H' x=some o:=fun x o hx e=>f x o e hx;obtain⟨⟨n1,n2,n3,n4,n5,n6⟩,⟨n7,n8,n9,n10,n11⟩,⟨n12,n13,n14,n15⟩,⟨n16,n17,n18⟩,⟨n19,n20⟩,n21⟩:=K9 h.nd;have np:=M7 h (show A.dr∈A.fp by simp[SAd.fp]);obtain⟨⟨dx,v,a1,a2⟩,b,c,⟨kvs,d1,d2⟩,⟨vs,f1,f2⟩,⟨us,g1,g2⟩,nd,np'⟩:=h;exact⟨⟨⟨dx,v,k _ _ a1 n1,a2.keep ko kt⟩,r,c.keep (fun o e=>k _ o e np.2) (fun o e=>k _ o e (Ne.symm n7)) (fun o e=>k _ o e (Ne.symm n8)) kt,⟨kvs,k _ _ d1 (Ne.symm n9),d2⟩,⟨vs,k _ _ f1 (Ne.symm n10),f2.keep ko kt⟩,⟨us,k _ _ g1 (Ne.symm n11),g2.keep ko kt⟩,nd,np'⟩,f⟩
theorem Zv.setOut{out:List (Int×Int)}{kvs:List (List Key×V)}(h:Zv ca H A S)(hd:H' A.da=some (.dT kvs))(ok:Qa kvs out)(k:∀ b o,H b=some o->b≠A.da->H' b=some o):Zv ca H' A { S with out:=out }/\FrS A H H':=by
 have f:FrS A H H':=.one (by simp[SAd.fp]) k;have kt:=h.tups f;have ko:∀ x o,x∉A.fp->H x=some o->H' x=some o:=fun x o hx e=>f x o e hx;obtain⟨⟨n1,n2,n3,n4,n5,n6⟩,⟨n7,n8,n9,n10,n11⟩,⟨n12,n13,n14,n15⟩,⟨n16,n17,n18⟩,⟨n19,n20⟩,n21⟩:=K9 h.nd;have np:=M7 h (show A.da∈A.fp by simp[SAd.fp]);obtain⟨⟨dx,v,a1,a2⟩,b,c,⟨kvs',d1,d2⟩,⟨vs,f1,f2⟩,⟨us,g1,g2⟩,nd,np'⟩:=h;exact⟨⟨⟨dx,v,k _ _ a1 n4,a2.keep ko kt⟩,b.keep (fun o e=>k _ o e np.1) (fun o e=>k _ o e n9) kt,c.keep (fun o e=>k _ o e np.2) (fun o e=>k _ o e n13) (fun o e=>k _ o e n16) kt,⟨kvs,hd,ok⟩,⟨vs,k _ _ f1 (Ne.symm n19),f2.keep ko kt⟩,⟨us,k _ _ g1 (Ne.symm n20),g2.keep ko kt⟩,nd,np'⟩,f⟩
theorem Zv.setCur(h:Zv ca H A S)(hp:∃ dx,H' A.p=some (.ins ca.season dx (seaF A S.len S.rest v)))(sh:ShO ca.sheet (·∉A.fp) H' v cur)(k:∀ b o,H b=some o->b≠A.p->H' b=some o):Zv ca H' A { S with cur:=cur }/\FrS A H H':=by
 have f:FrS A H H':=.one (by simp[SAd.fp]) k;have kt:=h.tups f;have ko:∀ x o,x∉A.fp->H x=some o->H' x=some o:=fun x o hx e=>f x o e hx;obtain⟨⟨n1,n2,n3,n4,n5,n6⟩,⟨n7,n8,n9,n10,n11⟩,⟨n12,n13,n14,n15⟩,⟨n16,n17,n18⟩,⟨n19,n20⟩,n21⟩:=K9 h.nd;have np:=M7 h (show A.p∈A.fp by simp[SAd.fp]);obtain⟨⟨dx,v',a1,a2⟩,b,c,⟨kvs',d1,d2⟩,⟨vs,f1,f2⟩,⟨us,g1,g2⟩,nd,np'⟩:=h;obtain⟨dx',hp⟩:=hp;exact⟨⟨⟨dx',v,hp,sh⟩,b.keep (fun o e=>k _ o e np.1) (fun o e=>k _ o e (Ne.symm n1)) kt,c.keep (fun o e=>k _ o e np.2) (fun o e=>k _ o e (Ne.symm n2)) (fun o e=>k _ o e (Ne.symm n3)) kt,⟨kvs',k _ _ d1 (Ne.symm n4),d2⟩,⟨vs,k _ _ f1 (Ne.symm n5),f2.keep ko kt⟩,⟨us,k _ _ g1 (Ne.symm n6),g2.keep ko kt⟩,nd,np'⟩,f⟩
theorem Zv.setStd{std:List (Sd×Option Zz)}{us:List V}(h:Zv ca H A S)(hd:H' A.lt=some (.lst us))(ok:Ub ca.sheet (·∉A.fp) H' us std)(k:∀ b o,H b=some o->b≠A.lt->H' b=some o):Zv ca H' A { S with std:=std }/\FrS A H H':=by
 have f:FrS A H H':=.one (by simp[SAd.fp]) k;have kt:=h.tups f;have ko:∀ x o,x∉A.fp->H x=some o->H' x=some o:=fun x o hx e=>f x o e hx;obtain⟨⟨n1,n2,n3,n4,n5,n6⟩,⟨n7,n8,n9,n10,n11⟩,⟨n12,n13,n14,n15⟩,⟨n16,n17,n18⟩,⟨n19,n20⟩,n21⟩:=K9 h.nd;have np:=M7 h (show A.lt∈A.fp by simp[SAd.fp]);obtain⟨⟨dx,v,a1,a2⟩,b,c,⟨kvs,d1,d2⟩,⟨vs,f1,f2⟩,⟨us',g1,g2⟩,nd,np'⟩:=h;exact⟨⟨⟨dx,v,k _ _ a1 n6,a2.keep ko kt⟩,b.keep (fun o e=>k _ o e np.1) (fun o e=>k _ o e n11) kt,c.keep (fun o e=>k _ o e np.2) (fun o e=>k _ o e n15) (fun o e=>k _ o e n18) kt,⟨kvs,k _ _ d1 n20,d2⟩,⟨vs,k _ _ f1 n21,f2.keep ko kt⟩,⟨us,hd,ok⟩,nd,np'⟩,f⟩
theorem Zv.setOld{old:List Zz}{us:List V}(h:Zv ca H A S)(hd:H' A.ls=some (.lst us))(ok:ShL ca.sheet (·∉A.fp) H' us old)(k:∀ b o,H b=some o->b≠A.ls->H' b=some o):Zv ca H' A { S with old:=old }/\FrS A H H':=by
 have f:FrS A H H':=.one (by simp[SAd.fp]) k;have kt:=h.tups f;have ko:∀ x o,x∉A.fp->H x=some o->H' x=some o:=fun x o hx e=>f x o e hx;obtain⟨⟨n1,n2,n3,n4,n5,n6⟩,⟨n7,n8,n9,n10,n11⟩,⟨n12,n13,n14,n15⟩,⟨n16,n17,n18⟩,⟨n19,n20⟩,n21⟩:=K9 h.nd;have np:=M7 h (show A.ls∈A.fp by simp[SAd.fp]);obtain⟨⟨dx,v,a1,a2⟩,b,c,⟨kvs,d1,d2⟩,⟨vs,f1,f2⟩,⟨us',g1,g2⟩,nd,np'⟩:=h;exact⟨⟨⟨dx,v,k _ _ a1 n5,a2.keep ko kt⟩,b.keep (fun o e=>k _ o e np.1) (fun o e=>k _ o e n10) kt,c.keep (fun o e=>k _ o e np.2) (fun o e=>k _ o e n14) (fun o e=>k _ o e n17) kt,⟨kvs,k _ _ d1 n19,d2⟩,⟨us,hd,ok⟩,⟨us',k _ _ g1 (Ne.symm n21),g2.keep ko kt⟩,nd,np'⟩,f⟩
theorem Zv.setLed(h:Zv ca H A S)(l:Vu ca.ledger H' A.pl A.lr A.ld Rs)(k:∀ b o,H b=some o->b≠A.lr->b≠A.ld->H' b=some o):Zv ca H' A { S with led:=Rs }/\FrS A H H':=by
 have f:FrS A H H':=fun b o e hb=>k b o e (fun z=>hb (by rw[z];simp[SAd.fp])) (fun z=>hb (by rw[z];simp[SAd.fp]));have kt:=h.tups f;have ko:∀ x o,x∉A.fp->H x=some o->H' x=some o:=fun x o hx e=>f x o e hx;obtain⟨⟨n1,n2,n3,n4,n5,n6⟩,⟨n7,n8,n9,n10,n11⟩,⟨n12,n13,n14,n15⟩,⟨n16,n17,n18⟩,⟨n19,n20⟩,n21⟩:=K9 h.nd;have np:=M7 h (show A.lr∈A.fp by simp[SAd.fp]);have np2:=M7 h (show A.ld∈A.fp by simp[SAd.fp]);obtain⟨⟨dx,v,a1,a2⟩,b,c,⟨kvs,d1,d2⟩,⟨vs,f1,f2⟩,⟨us',g1,g2⟩,nd,np'⟩:=h;exact⟨⟨⟨dx,v,k _ _ a1 n2 n3,a2.keep ko kt⟩,b.keep (fun o e=>k _ o e np.1 np2.1) (fun o e=>k _ o e n7 n8) kt,l,⟨kvs,k _ _ d1 (Ne.symm n13) (Ne.symm n16),d2⟩,⟨vs,k _ _ f1 (Ne.symm n14) (Ne.symm n17),f2.keep ko kt⟩,⟨us',k _ _ g1 (Ne.symm n15) (Ne.symm n18),g2.keep ko kt⟩,nd,np'⟩,f⟩
theorem P9:putF "sheet" v' (seaF A l r v)=seaF A l r v':=by
 have n1:¬ (("length":Str)="sheet"):=by decide +kernel
 have n2:¬ (("rest":Str)="sheet"):=by decide +kernel
 have n3:¬ (("roster":Str)="sheet"):=by decide +kernel
 have n4:¬ (("ledger":Str)="sheet"):=by decide +kernel
 have n5:¬ (("absent":Str)="sheet"):=by decide +kernel
 have n6:¬ (("sheets":Str)="sheet"):=by decide +kernel
 simp only[putF,seaF,if_neg n1,if_neg n2,if_neg n3,if_neg n4,if_neg n5,if_neg n6,if_true]
theorem FrS.free(f:FrS A H H')(h:Zv ca H' A S')(hl:H' l=none):H l=none:=by
 cases e:H l with
 | none=>rfl
 | some o =>
   by_cases hm:l∈A.fp
   ·obtain⟨o',e'⟩:=h.there l hm;rw[e'] at hl;cases hl
   ·rw[f l o e hm] at hl;cases hl
theorem ShAt.ins(h:ShAt ca.sheet (·∉A.fp) H q s):∃ dx l1 l2 l3 l4,H q=some (.ins ca.sheet dx (shF l1 l2 l3 l4)):=by
 obtain⟨dx,l1,l2,l3,l4,_,_,_,a1,_⟩:=h;exact⟨dx,l1,l2,l3,l4,a1⟩
theorem Zv.newSheet(h:Zv ca H A S)(hp:H A.p=some (.ins ca.season dx (seaF A S.len S.rest v)))(sh:ShAt ca.sheet (·∉A.fp) H q s) :
  Zv ca (upd H A.p (.ins ca.season dx (putF "sheet" (.ref q) (seaF A S.len S.rest v)))) A { S with cur:=some s }/\FrS A H (upd H A.p (.ins ca.season dx (putF "sheet" (.ref q) (seaF A S.len S.rest v))))/\ShAt ca.sheet (·∉A.fp) (upd H A.p (.ins ca.season dx (putF "sheet" (.ref q) (seaF A S.len S.rest v)))) q s:=by
 have k:∀ b o,H b=some o->b≠A.p->upd H A.p (.ins ca.season dx (putF "sheet" (.ref q) (seaF A S.len S.rest v))) b=some o:=fun b o e n=>by rw[Zh n];exact e
 have sh':=sh.keep (H':=upd H A.p (.ins ca.season dx (putF "sheet" (.ref q) (seaF A S.len S.rest v)))) (fun x o hx e=>k x o e fun z=>hx (by rw[z];simp[SAd.fp])) (fun t xs e=>k t _ e (Yp e hp (fun z=>nomatch z)));obtain⟨h1,h2⟩:=h.setCur (cur:=some s) (v:=.ref q) ⟨dx,by rw[Zb];exact congrArg (fun x=>some (HO.ins ca.season dx x)) P9⟩ ⟨q,rfl,sh'⟩ k;exact⟨h1,h2,sh'⟩
theorem Iw:putF "standing" (.ref x) (seaF A l r v)=seaF { A with lt:=x } l r v:=by
 have n1:¬ (("length":Str)="standing"):=by decide +kernel
 have n2:¬ (("rest":Str)="standing"):=by decide +kernel
 have n3:¬ (("roster":Str)="standing"):=by decide +kernel
 have n4:¬ (("ledger":Str)="standing"):=by decide +kernel
 have n5:¬ (("absent":Str)="standing"):=by decide +kernel
 have n6:¬ (("sheets":Str)="standing"):=by decide +kernel
 have n7:¬ (("sheet":Str)="standing"):=by decide +kernel
 simp only[putF,seaF,if_neg n1,if_neg n2,if_neg n3,if_neg n4,if_neg n5,if_neg n6,if_neg n7,if_true]
end
def zdz(r q:Nat):Sea:=⟨r,q,[],[],[],[],none,[]⟩
inductive zai(ca:CA)(vs:List V)(H:Hp)(Q:VK)(E:XK):Prop where
 | mk(p dx:Addr)(r q:Int)(_:vs=[.ref p,.int r,.int q])(_:H p=some (.ins ca.season dx []))(_:Yr r)(_:Yr q)(_:if r<0\/60<r then E (.ref ca.out) none H else if q<0\/10<q then E (.ref ca.out) none H else ∀ A H',A.p=p->Zv ca H' A (zdz r.toNat q.toNat)->(∀ b o,H b=some o->b≠p->H' b=some o)->(∀ x∈A.fp,x≠p->H x=none)->Q .non H')
inductive zaj(ca:CA)(vs:List V)(H:Hp)(Q:VK)(E:XK):Prop where
 | mk(A:SAd)(S:Sea)(n g c:Int)(_:vs=[.ref A.p,.int n,.int g,.int c])(_:Zv ca H A S)(_:Fy n g c)(_:S.std.length<=1000)(_:S.ppl.length<=1000)(_:if S.len<=S.led.length then E (.ref ca.seaOver) none H else if S.cur.isSome then E (.ref ca.drawn) none H else if badI n g c then E (.ref ca.out) none H else if n∈S.ppl.map (·.1) then E (.ref ca.known) none H else if 30<=S.ppl.length then E (.ref ca.many) none H else if 100<=S.std.length then E (.ref ca.manyD) none H else ∀ H',Zv ca H' A { S with ppl:=S.ppl++[(n,g,c)],std:=S.std++[(((("enrol":Str),n,atV S):Sd),S.cur)] }->FrS A H H'->Q .non H')
def zd0(S:Sea)(ms:List P3)(gv:List V):Sea:={ S with cur:=some ⟨ms,mayS S ms,gv,[]⟩,std:=S.std++[(((("draw up":Str),(ms.length:Int),atV S):Sd),S.cur)] }
inductive D6(K:Frag)(ca:CA)(vs:List V)(H:Hp)(Q:VK)(E:XK):Prop where
 | mk(A:SAd)(S:Sea)(b:Addr)(ts:List V)(ms:List P3)(_:vs=[.ref A.p,.ref b])(_:Zv ca H A S)(_:SqL K H b ts)(_:Yb H ts (ms.map pV))(_:(∀ m∈ms,K7 m))(_:ms.length<=1000)(_:S.std.length<=1000)(_:Tn S)(_:if S.len<=S.led.length then E (.ref ca.seaOver) none H else if S.cur.isSome then E (.ref ca.drawn) none H else (20<ms.length->E (.ref ca.manyM) none H)/\(ms.length<=20->Sz ms->E (.ref ca.out) none H)/\(ms.length<=20->¬ Sz ms->S4 ms->E (.ref ca.same) none H)/\(ms.length<=20->¬ Sz ms->¬ S4 ms->(100<=S.std.length->∀ H',Same H H'->E (.ref ca.manyD) none H')/\(S.std.length<100->∀ l gv H',H' l=some (.lst gv)->Zv ca H' A (zd0 S ms gv)->Yt (mayS S ms) gv->Ve (mayS S ms) gv->FrS A H H'->H l=none->Q (.ref l) H')))
inductive D7(ca:CA)(vs:List V)(H:Hp)(Q:VK)(_:XK):Prop where
 | mk(A:SAd)(S:Sea)(n:Int)(s:Zz)(nu:List Int)(_:vs=[.ref A.p,.int n])(_:Zv ca H A S)(_:S.cur=some s)(_:Tn S)(_:s.ms.length<=20)(_:(∀ x∈s.gv,oneV x))(_:s.gv.length<=100)(_:s.gaps.length<=500)(_:M0 (mayS S s.ms) nu)(_:(Wf s.gv n=none->∀ l H',H' l=some (.lst [])->Zv ca H' A { S with cur:=some { s with may:=mayS S s.ms } }->FrS A H H'->H l=none->Q (.ref l) H'))(_:∀ p,Wf s.gv n=some p->s.gv[p]?=some (.int n)/\(∀ j:Nat,s.gv[j]?=some (.int n)->j=p)/\Yt (mayS S s.ms) (s.gv.set p .non)/\∀ l us st e w H',H' l=some (.lst us)->Yb H' us (st.map Vv)->Xe (mayS S s.ms) (s.gv.set p .non) p st e w->Zv ca H' A { S with cur:=some ⟨s.ms,mayS S s.ms,Ys st (s.gv.set p .non),s.gaps++[(n,st)]⟩ }->FrS A H H'->H l=none->Q (.ref l) H')
def Xn(S:Sea)(i n:Int):Sea:={ S with out:=S.out++[(i,n)],std:=S.std++[((("away":Str),n,i),S.cur)] }
inductive Bv(ca:CA)(vs:List V)(H:Hp)(Q:VK)(E:XK):Prop where
 | mk(A:SAd)(S:Sea)(i n:Int)(_:vs=[.ref A.p,.int i,.int n])(_:Zv ca H A S)(_:Yr i)(_:Yr n)(_:S.std.length<=1000)(_:S.out.length<=100000)(_:Tn S)(_:(∀ s,S.cur=some s->s.ms.length<=20/\Yt s.may s.gv/\s.may=mayS S s.ms/\s.gaps.length<=500))(_:if i<1\/(S.len:Int)<i then E (.ref ca.noRound) none H else if i<=S.led.length then E (.ref ca.over) none H else if n∈S.ppl.map (·.1) then (if (i,n)∈S.out then ∀ H',Same H H'->E (.ref ca.away) none H' else if 100<=S.std.length then ∀ H',Same H H'->E (.ref ca.manyD) none H' else (S.cur=none\/atV S<i->∀ l H',H' l=some (.lst [])->Zv ca H' A (Xn S i n)->FrS A H H'->H l=none->Q (.ref l) H')/\(∀ s,i=atV S->S.cur=some s->Wf s.gv n=none->∀ l H',H' l=some (.lst [])->Zv ca H' A { Xn S i n with cur:=some { s with may:=mayS (Xn S i n) s.ms } }->FrS A H H'->H l=none->Q (.ref l) H')/\(∀ s p,i=atV S->S.cur=some s->Wf s.gv n=some p->∀ l us st e w H',H' l=some (.lst us)->Yb H' us (st.map Vv)->Xe (mayS (Xn S i n) s.ms) (s.gv.set p .non) p st e w->Zv ca H' A { Xn S i n with cur:=some ⟨s.ms,mayS (Xn S i n) s.ms,Ys st (s.gv.set p .non),s.gaps++[(n,st)]⟩ }->FrS A H H'->H l=none->Q (.ref l) H')) else E (.ref ca.unk) none H)
theorem Qa.put(h:Qa kvs out)(i n:Int):Qa (putK kvs [inl i,inl n] (.bl true)) (out++[(i,n)]):=by
 refine⟨fun j m=>?_,?_⟩
 ·rw[Ww];by_cases e:j=i/\m=n
  ·rw[if_pos (Qw.mpr e),zss (by rw[e.1,e.2];simp)];rfl
  ·rw[if_neg (fun z=>e (Qw.mp z)),h.1 j m];by_cases hm:(j,m)∈out
   ·rw[zss hm,zss (zta _ hm)]
   ·rw[zsw hm,zsw];intro z;rcases zsv.mp z with q|q
    ·exact hm q
    ·have:=zsp.mp q;exact e (by cases this;exact⟨rfl,rfl⟩)
 ·have:=Y3 kvs ([inl i,inl n]:List Key) (.bl true);have:=h.2;rw[zsn];show _<=out.length+1;omega
theorem Qa.drop(h:Qa kvs (out++[(i,n)]))(hn:(i,n)∉out):Qa (Xx kvs [inl i,inl n]) out:=by
 have hv:∀ k:List Key,valV (Xx kvs [inl i,inl n]) k=if k=[inl i,inl n] then none else valV kvs k:=fun k=>by
  clear h
  induction kvs with
  | nil=>unfold Xx;simp[valV]
  | cons x kvs ih =>
    by_cases ex:x.1=[inl i,inl n]
    ·rw[za8 ex,ih];by_cases e:k=[inl i,inl n]
     ·rw[if_pos e,if_pos e]
     ·rw[if_neg e,if_neg e,Y2 (fun z=>e (z.symm.trans ex))]
    ·rw[za9 ex];by_cases ek:x.1=k
     ·rw[Y8 ek,Y8 ek,if_neg (fun z=>ex (ek.trans z))]
     ·rw[Y2 ek,Y2 ek,ih]
 refine⟨fun j m=>?_,?_⟩
 ·rw[hv];by_cases e:j=i/\m=n
  ·rw[if_pos (Qw.mpr e),zsw (by rw[e.1,e.2];exact hn)];rfl
  ·rw[if_neg (fun z=>e (Qw.mp z)),h.1 j m];by_cases hm:(j,m)∈out
   ·rw[zss hm,zss (zta _ hm)]
   ·rw[zsw hm,zsw];intro z;rcases zsv.mp z with q|q
    ·exact hm q
    ·have:=zsp.mp q;exact e (by cases this;exact⟨rfl,rfl⟩)
 ·have h1:=h.1 i n;rw[zss (show (i,n)∈out++[(i,n)] by simp)] at h1;have h2:=h.2;rw[zsn] at h2;have h2:kvs.length<=out.length+1:=h2;have h3:(Xx kvs [inl i,inl n]).length<kvs.length:=by
   unfold Xx;rw[List.length_filter_lt_length_iff_exists];obtain⟨v,hv'⟩:=ztz.mp h1;unfold valV at hv';obtain⟨x,hx,_⟩:=zuc.mp hv';refine⟨x,List.mem_of_find?_eq_some hx,?_⟩;have:=List.find?_some hx;intro z;exact of_decide_eq_true z (of_decide_eq_true this)
  omega
theorem Oa(h:Wf gv n=some p):gv[p]?=some (.int n):=by
 unfold Wf at h;have h2:decide (gv[p]?=some (V.int n))=true:=List.find?_some (p:=fun i=>decide (gv[i]?=some (V.int n))) h;exact of_decide_eq_true h2
theorem Uv:mayS (Xn S (atV S) n) ms=without (mayS S ms) n:=by
 unfold mayS without;rw[zt7];refine zul fun m _=>?_;show Iv (Xn S (atV S) n) m=(Iv S m).filter fun x=>decide (x≠n);unfold Iv;rw[List.filter_map,List.filter_filter]
 congr 1
 refine List.filter_congr fun x _=>?_;show (whyS S.led x.1 x.2.1 x.2.2 m.1 m.2.1 m.2.2 (pIn (S.out++[(atV S,n)]) (atV S) x) S.rest).isEmpty=(decide (x.1≠n)&&(whyS S.led x.1 x.2.1 x.2.2 m.1 m.2.1 m.2.2 (pIn S.out (atV S) x) S.rest).isEmpty);unfold pIn;by_cases e:x.1=n
 ·have h1:decide ((atV S,x.1)∈S.out++[(atV S,n)])=true:=zss (by rw[e];simp);rw[h1,zsw (fun z=>z e),Bool.false_and];unfold whyS bw;simp
 ·have h1:decide ((atV S,x.1)∈S.out++[(atV S,n)])=decide ((atV S,x.1)∈S.out):=by
   by_cases hm:(atV S,x.1)∈S.out
   ·rw[zss hm,zss (zta _ hm)]
   ·rw[zsw hm,zsw];intro z;rcases zsv.mp z with q|q
    ·exact hm q
    ·have:=zsp.mp q;cases this;exact e rfl
  rw[h1,zss e,Bool.true_and]
def Nb(S:Sea)(s:Zz):Sea:={ S with led:=S.led++[Z5 s],old:=S.old++[s],cur:=none,std:=[] }
inductive F6(ca:CA)(vs:List V)(H:Hp)(Q:VK)(E:XK):Prop where
 | mk(A:SAd)(S:Sea)(_:vs=[.ref A.p])(_:Zv ca H A S)(_:2*(tot S.led+1000)<=100000)(_:S.led.length<=1000)(_:S.old.length<=1000)(_:(∀ s,S.cur=some s->(∀ x∈s.gv,oneV x)/\s.gv.length=s.ms.length/\s.ms.length<=1000))(_:if S.len<=S.led.length then E (.ref ca.seaOver) none H else (S.cur=none->E (.ref ca.notDrawn) none H)/\∀ s x H',S.cur=some s->Zv ca H' { A with lt:=x } (Nb S s)->FrS A H H'->H x=none->Q (.int (atV S)) H')
theorem Zv.freshStd(h:Zv ca H A S)(hx:H x=none)(hp:H A.p=some (.ins ca.season dx (seaF A S.len S.rest v)))(hv:ShO ca.sheet (·∉A.fp) H v S.cur)
  (e:H'=upd (upd H x (.lst [])) A.p (.ins ca.season dx (putF "standing" (.ref x) (seaF A S.len S.rest v)))):Zv ca H' { A with lt:=x } { S with std:=[] }/\FrS A H H':=by
 have hpx:A.p≠x:=Zg hp hx;have k:∀ b o,H b=some o->b≠A.p->H' b=some o:=fun b o q n=>by rw[e,Zh n,Zh (Zg q hx)];exact q
 have f:FrS A H H':=.one (by simp[SAd.fp]) k;have kt:=h.tups f;have hnx:∀ y,(∃ o,H y=some o)->y≠x:=fun y ⟨o,q⟩=>Zg q hx;have okk:∀ y,(∃ o,H' y=some o)->y∉A.fp->(∃ o,H y=some o)->y∉({ A with lt:=x }:SAd).fp:=fun y _ hy hH hm=>by
  simp only[SAd.fp,zso,zto,or_false] at hm hy;rcases hm with q|q|q|q|q|q|q
  ·exact hy (.inl q)
  ·exact hy (.inr (.inl q))
  ·exact hy (.inr (.inr (.inl q)))
  ·exact hy (.inr (.inr (.inr (.inl q))))
  ·exact hy (.inr (.inr (.inr (.inr (.inl q)))))
  ·exact hy (.inr (.inr (.inr (.inr (.inr (.inl q))))))
  ·exact hnx y hH q
 have ok2:∀ y,(∃ o,H y=some o)->y∉A.fp->y∉({ A with lt:=x }:SAd).fp:=fun y hH hy hm=>by
  simp only[SAd.fp,zso,zto,or_false] at hm hy;rcases hm with q|q|q|q|q|q|q
  ·exact hy (.inl q)
  ·exact hy (.inr (.inl q))
  ·exact hy (.inr (.inr (.inl q)))
  ·exact hy (.inr (.inr (.inr (.inl q))))
  ·exact hy (.inr (.inr (.inr (.inr (.inl q)))))
  ·exact hy (.inr (.inr (.inr (.inr (.inr (.inl q))))))
  ·exact hnx y hH q
 have ko:∀ y o,y∉({ A with lt:=x }:SAd).fp->H y=some o->H' y=some o:=fun y o hy q=>k y o q fun z=>hy (by rw[z];simp[SAd.fp]);have there:=h.there;obtain⟨⟨n1,n2,n3,n4,n5,n6⟩,⟨n7,n8,n9,n10,n11⟩,⟨n12,n13,n14,n15⟩,⟨n16,n17,n18⟩,⟨n19,n20⟩,n21⟩:=K9 h.nd;have np:=M7 h (show A.p∈A.fp by simp[SAd.fp]);have npp:=h.np;obtain⟨⟨dx',v',a1,a2⟩,b,c,⟨kvs',d1,d2⟩,⟨vs,f1,f2⟩,⟨us,g1,g2⟩,nd,np'⟩:=h;have hpr:∃ o,H A.pr=some o:=by obtain⟨⟨_,_,q,_⟩,_⟩:=b;exact⟨_,q⟩
 have hpl:∃ o,H A.pl=some o:=by obtain⟨⟨_,q⟩,_⟩:=c;exact⟨_,q⟩
 refine⟨⟨⟨dx,v,?_,(hv.imp ok2).keep ko kt⟩,b.keep (fun o q=>k _ o q np.1) (fun o q=>k _ o q (Ne.symm n1)) kt,c.keep (fun o q=>k _ o q np.2) (fun o q=>k _ o q (Ne.symm n2)) (fun o q=>k _ o q (Ne.symm n3)) kt,⟨kvs',k _ _ d1 (Ne.symm n4),d2⟩,⟨vs,k _ _ f1 (Ne.symm n5),(f2.imp ok2).keep ko kt⟩,⟨[],?_,?_⟩,?_,⟨ok2 _ hpr npp.1,ok2 _ hpl npp.2⟩⟩,f⟩
 ·rw[e,Zb];exact congrArg (fun z=>some (HO.ins ca.season dx z)) Iw
 ·show H' x=some (.lst []);rw[e,Zh (Ne.symm hpx),Zb]
 ·exact .nil
 ·show [A.p,A.dr,A.lr,A.ld,A.da,A.ls,x].Nodup;have m:∀ y∈A.fp,y≠x:=fun y hy=>hnx y (there y hy);simp only[ztd,zso,zto,or_false,not_or];exact⟨⟨n1,n2,n3,n4,n5,m _ (by simp[SAd.fp])⟩,⟨n7,n8,n9,n10,m _ (by simp[SAd.fp])⟩,⟨n12,n13,n14,m _ (by simp[SAd.fp])⟩,⟨n16,n17,m _ (by simp[SAd.fp])⟩,⟨n19,m _ (by simp[SAd.fp])⟩,m _ (by simp[SAd.fp]),by simp,List.nodup_nil⟩
def zd1(S:Sea)(d:Sd)(ppl:RL)(out:List (Int×Int)):Prop:=(d.1="enrol"/\(∃ g c,S.ppl=ppl++[(d.2.1,g,c)])/\out=S.out)\/(d.1="away"/\ppl=S.ppl/\S.out=out++[(d.2.2,d.2.1)]/\(d.2.2,d.2.1)∉out)\/(d.1="draw up"/\ppl=S.ppl/\out=S.out)
inductive Ob(ca:CA)(vs:List V)(H:Hp)(Q:VK)(E:XK):Prop where
 | mk(A:SAd)(S:Sea)(_:vs=[.ref A.p])(_:Zv ca H A S)(_:(S.std=[]->E (.ref ca.nothing) none H))(_:∀ std d s,S.std=std++[(d,s)]->∃ ppl out,zd1 S d ppl out/\∀ t H',H' t=some (.tup (Pk d))->Zv ca H' A { S with ppl:=ppl,out:=out,cur:=s,std:=std }->FrS A H H'->Q (.ref t) H')
def zak(ca:CA)(H:Hp)(S:Sea)(i:Int)(E:XK)(k:Zz->Prop):Prop:=Yr i/\S.old.length=S.led.length/\if i<1\/(S.len:Int)<i then E (.ref ca.noRound) none H else (Vh S i=none->E (.ref ca.notDrawn) none H)/\∀ s,Vh S i=some s->k s
inductive Bw(ca:CA)(vs:List V)(H:Hp)(Q:VK)(E:XK):Prop where
 | mk(A:SAd)(S:Sea)(i:Int)(_:vs=[.ref A.p,.int i])(_:Zv ca H A S)(_:zak ca H S i E fun s=>∀ l H',H' l=some (.lst s.gv)->Same H H'->H l=none->Q (.ref l) H')
theorem Uw(ks:List Str):∀ {fs:List (Str×V)},fs.map (·.1)=ks->(ks.all fun x=>!decide (x=f))=true->putF f v fs=fs++[(f,v)]:=by
 intro fs hk h;subst hk
 induction fs with
 | nil=>rfl
 | cons x fs ih =>
   rw[zsx,List.all_cons,zt2,Bool.not_eq_true',decide_eq_false_iff_not] at h;obtain⟨k,y⟩:=x;show (if k=f then _ else _)=_;rw[if_neg h.1,ih h.2];rfl
def sF1(l:V):List (Str×V):=[("length",l)]
def sF2(l r:V):List (Str×V):=[("length",l),("rest",r)]
def sF3(l r a:V):List (Str×V):=[("length",l),("rest",r),("roster",a)]
def sF4(l r a b:V):List (Str×V):=[("length",l),("rest",r),("roster",a),("ledger",b)]
def sF5(l r a b c:V):List (Str×V):=[("length",l),("rest",r),("roster",a),("ledger",b),("absent",c)]
def sF6(l r a b c d:V):List (Str×V):=[("length",l),("rest",r),("roster",a),("ledger",b),("absent",c),("sheets",d)]
def sF7(l r a b c d e:V):List (Str×V):=[("length",l),("rest",r),("roster",a),("ledger",b),("absent",c),("sheets",d),("sheet",e)]
def sF8(l r a b c d e f:V):List (Str×V):=[("length",l),("rest",r),("roster",a),("ledger",b),("absent",c),("sheets",d),("sheet",e),("standing",f)]
theorem pF1:putF "length" l []=sF1 l:=rfl
theorem pF2:putF "rest" r (sF1 l)=sF2 l r:=Uw ["length"] rfl ⋯
theorem pF3:putF "roster" a (sF2 l r)=sF3 l r a:=Uw ["length","rest"] rfl ⋯
theorem pF4:putF "ledger" b (sF3 l r a)=sF4 l r a b:=Uw ["length","rest","roster"] rfl ⋯
theorem pF5:putF "absent" c (sF4 l r a b)=sF5 l r a b c:=Uw ["length","rest","roster","ledger"] rfl ⋯
theorem pF6:putF "sheets" d (sF5 l r a b c)=sF6 l r a b c d:=Uw ["length","rest","roster","ledger","absent"] rfl ⋯
theorem pF7:putF "sheet" e (sF6 l r a b c d)=sF7 l r a b c d e:=Uw ["length","rest","roster","ledger","absent","sheets"] rfl ⋯
theorem pF8:putF "standing" f (sF7 l r a b c d e)=sF8 l r a b c d e f:=Uw ["length","rest","roster","ledger","absent","sheets","sheet"] rfl ⋯
theorem Vi.free{p:Addr}{H H':Hp}{x:Addr}(hb:∀ b o,H b=some o->b≠p->H' b=some o)(hp:∃ o,H' p=some o)(hx:H' x=none):H x=none:=by
 cases e:H x with
 | none=>rfl
 | some o =>
   by_cases z:x=p
   ·subst z;obtain⟨o',q⟩:=hp;rw[q] at hx;cases hx
   ·rw[hb x o e z] at hx;cases hx
def Vi(p:Addr)(H H':Hp):Prop:=∀ b o,H b=some o->b≠p->H' b=some o
theorem Vi.trans(a:Vi p H1 H2)(b:Vi p H2 H3):Vi p H1 H3:=fun x o e n=>b x o (a x o e n) n
theorem Vi.of(a:Same H1 H2):Vi p H1 H2:=fun x o e _=>a x o e
theorem Vi.put:Vi p H (upd H p o):=fun x o e n=>by rw[Zh n];exact e
end G
namespace L2
open PySem PySem.Spec PyProof.Rows
theorem Bx:Ui X (.type "dict") (fun xs H Q=>∃ a kvs,xs=[.ref a]/\Rd H a (.dK kvs)/\∀ p,H p=none->Q (.ref p) (upd H p (.dK kvs))):=by
 intro pins s σ H xs us Q I r h;obtain⟨a,kvs,rfl,ha,q⟩:=h;obtain⟨u,rfl,ru⟩:=Oz r;cases (show u=Value.ref a from ru);exact zcy I ha fun p s' hp I'=>⟨.ref p,_,I',rfl,q p hp⟩
end L2
namespace G
open PySem PySem.Spec PyProof.Rows L2
def M8:List Int:=[0,1,2,3,4,5,6,7,8,9,10,0,0,0,1,1,1,2,2,0,1,3]
inductive D8(K:Frag)(vs:List V)(H:Hp)(Q:VK)(_:XK):Prop where
 | mk(b:Addr)(ns:List Int)(_:vs=[.ref b])(_:SqL K H b (ns.map V.int))(_:∀ (q:Nat) H',q=(M8.getD (Ym ns 1%22).toNat 0).toNat->q<=10->Same H H'->Q (.int q) H')
def Qc(ns:List Int):Int:=if Ym ns 0/2%2=0 then 60 else 1+Ym ns 1/22%60
inductive Ja(K:Frag)(vs:List V)(H:Hp)(Q:VK)(_:XK):Prop where
 | mk(b:Addr)(ns:List Int)(_:vs=[.ref b])(_:SqL K H b (ns.map V.int))(_:∀ (r:Nat) H',r=(Qc ns).toNat->1<=r->r<=60->Same H H'->Q (.int r) H')
structure Oc(H:Hp)(t lc ln:Addr)(cs nu:List Int):Prop where
 tup:H t=some (.tup [.ref lc,.ref ln])
 clubs:H lc=some (.lst (cs.map V.int))
 nums:H ln=some (.lst (nu.map V.int))
 few:3<=cs.length/\cs.length<=10
 cnd:cs.Nodup
 crng:∀ c∈cs,1<=c/\c<=99
 nfew:1<=nu.length/\nu.length<=30
 nnd:nu.Nodup
 nrng:∀ n∈nu,1<=n/\n<=999
theorem Oc.same{H H':Hp}{t lc ln:Addr}{cs nu:List Int}(h:Oc H t lc ln cs nu)(e:Same H H'):Oc H' t lc ln cs nu:=⟨e _ _ h.tup,e _ _ h.clubs,e _ _ h.nums,h.few,h.cnd,h.crng,h.nfew,h.nnd,h.nrng⟩
inductive D9(K:Frag)(vs:List V)(H:Hp)(Q:VK)(_:XK):Prop where
 | mk(b:Addr)(ns:List Int)(cr:Nat)(_:vs=[.ref b,.int cr])(_:SqL K H b (ns.map V.int))(_:1<=cr)(_:cr<=30)(_:∀ t lc ln cs nu H',Oc H' t lc ln cs nu->nu.length=cr->Same H H'->H t=none->H lc=none->H ln=none->Q (.ref t) H')
theorem Ca(c:Int)(hi:i<10)(hj:j<10)(h:Gp c i=Gp c j):i=j:=by
 unfold Gp at h;have hs:Ft c=1\/Ft c=2\/Ft c=5\/Ft c=10\/Ft c=50\/Ft c=97\/Ft c=98:=by
  unfold Ft;have h0:0<=c%7:=by omega
  have h1:c%7<7:=by omega
  generalize c%7=r at h0 h1;obtain⟨k,rfl⟩:∃ k:Nat,r=k:=⟨r.toNat,by omega⟩;rw[zs0];have hk:k<7:=by omega
  match k,hk with
  | 0,_=>simp
  | 1,_=>simp
  | 2,_=>simp
  | 3,_=>simp
  | 4,_=>simp
  | 5,_=>simp
  | 6,_=>simp
 generalize c/7=x at h;rcases hs with e|e|e|e|e|e|e<;>rw[e] at h<;>omega
theorem Cb(c:Int)(hm:m<=10):(R1 c m).Nodup:=by
 unfold R1;rw[zt5,List.pairwise_map];refine List.Pairwise.imp_of_mem (fun {i j} hi hj (hne:i≠j) z=>?_) (zt5.mp List.nodup_range);exact hne (Ca c (by have:=ztq.mp hi;omega) (by have:=ztq.mp hj;omega) z)
theorem zbu(c:Int)(m:Nat):∀ n∈R1 c m,1<=n/\n<=99:=fun n hn=>by
 unfold R1 at hn;obtain⟨j,_,rfl⟩:=zsu.mp hn;unfold Gp;omega
theorem Cc(c:Int)(hm:m<=40):(My c m).Nodup:=by
 unfold My;rw[zt5,List.pairwise_map];refine List.Pairwise.imp_of_mem (fun {i j} hi hj (hne:i≠j) z=>?_) (zt5.mp List.nodup_range);exact hne (zdg c (by have:=ztq.mp hi;omega) (by have:=ztq.mp hj;omega) z)
theorem zbv(c:Int)(m:Nat):∀ n∈My c m,1<=n/\n<=999:=fun n hn=>by
 unfold My at hn;obtain⟨j,_,rfl⟩:=zsu.mp hn;unfold zbc;omega
inductive Ux where
 | enrol (n g c:Int)|away (i n:Int)|draw (ms:List P3)|close|back
def X2(ok:Addr->Prop)(H:Hp)(t:Addr):Ux->Prop
 | .enrol n g c=>H t=some (.tup [.str "enrol",.int n,.int g,.int c])
 | .away i n=>H t=some (.tup [.str "away",.int i,.int n])
 | .draw ms=>∃ l ts,H t=some (.tup [.str "draw up",.ref l])/\H l=some (.lst ts)/\Yb H ts (ms.map pV)/\ok l
 | .close=>H t=some (.tup [.str "close"])
 | .back=>H t=some (.tup [.str "take back"])
def Cd(S:Sea):Prop:=∀ s,S.cur=some s->s.ms.length<=20/\Yt s.may s.gv/\Ve s.may s.gv/\s.may=mayS S s.ms/\s.gaps.length<=S.std.length
def Pl(S S':Sea):Prop:=∃ d:Sd,S'.std=S.std++[(d,S.cur)]/\zd1 S' d S.ppl S.out/\S'.len=S.len/\S'.rest=S.rest/\S'.led=S.led/\S'.old=S.old
def To(S:Sea):Ux->Prop
 | .enrol n g c=>S.led.length<S.len/\S.cur=none/\¬ badI n g c/\n∉S.ppl.map (·.1)/\S.ppl.length<30
 | .away i n=>(S.led.length:Int)<i/\i<=S.len/\n∈S.ppl.map (·.1)/\(i,n)∉S.out
 | .draw ms=>S.led.length<S.len/\S.cur=none/\ms.length<=20/\(∀ m∈ms,¬ badM m)/\∀ m∈ms,m.1≠m.2.1
 | .close=>S.led.length<S.len/\S.cur≠none
 | .back=>S.std≠[]
inductive Wo(H':Hp)(S:Sea):Ux->Sea->V->Prop where
 | enrol (n g c:Int):Wo H' S (.enrol n g c) { S with ppl:=S.ppl++[(n,g,c)],std:=S.std++[(((("enrol":Str),n,atV S):Sd),S.cur)] } .non
 | awayN {i n:Int} {l:Addr} (h:S.cur=none\/atV S<i) (hl:H' l=some (.lst [])):Wo H' S (.away i n) (Xn S i n) (.ref l)
 | awayF {n:Int} {s:Zz} {l:Addr} (h:S.cur=some s) (hp:Wf s.gv n=none) (hl:H' l=some (.lst [])):Wo H' S (.away (atV S) n) { Xn S (atV S) n with cur:=some { s with may:=mayS (Xn S (atV S) n) s.ms } } (.ref l)
 | awayC {n:Int} {s:Zz} {p e:Nat} {l:Addr} {us:List V} {st:List (Nat×Option Int)} {w:Option Int} (h:S.cur=some s) (hp:Wf s.gv n=some p) (hl:H' l=some (.lst us)) (tl:Yb H' us (st.map Vv)) (CR:Xe (mayS (Xn S (atV S) n) s.ms) (s.gv.set p .non) p st e w) :
   Wo H' S (.away (atV S) n) { Xn S (atV S) n with cur:=some ⟨s.ms,mayS (Xn S (atV S) n) s.ms,Ys st (s.gv.set p .non),s.gaps++[(n,st)]⟩ } (.ref l)
 | draw {ms:List P3} {gv:List V} {l:Addr} (hl:H' l=some (.lst gv)) (F:Yt (mayS S ms) gv) (T:Ve (mayS S ms) gv):Wo H' S (.draw ms) (zd0 S ms gv) (.ref l)
 | close {s:Zz} (h:S.cur=some s):Wo H' S .close (Nb S s) (.int (atV S))
 | back {S0:Sea} {d:Sd} {t:Addr} (h:S.std=S0.std++[(d,S0.cur)]) (ht:H' t=some (.tup (Pk d))) (hs:Pl S0 S):Wo H' S .back S0 (.ref t)
def Nd(A A':SAd)(H:Hp):Prop:=∃ x,A'={ A with lt:=x }/\(x=A.lt\/H x=none)
inductive zjs(K:Frag)(ca:CA)(vs:List V)(H:Hp)(Q:VK)(_:XK):Prop where
 | mk(A:SAd)(S:Sea)(t:Addr)(d:Ux)(_:vs=[.ref A.p,.ref t])(_:Zv ca H A S)(_:X2 (·∉A.fp) H t d)(_:To S d)(_:Cd S)(_:Tn S)(_:S.std.length<100)(_:S.out.length<=100000)(_:2*(tot S.led+1000)<=100000)(_:S.led.length<=1000)(_:S.old.length<=1000)(_:S.len<=1000)(_:(∀ i n,d=.away i n->Yr n))(_:(d=.back->∃ S0,Pl S0 S))(_:∀ v A' S' H',Wo H' S d S' v->Zv ca H' A' S'->Nd A A' H->FrS A H H'->(∀ l,v=.ref l->(∃ xs,H' l=some (.lst xs))->H l=none)->Q v H')
abbrev Xj(b:List Stmt)(i:Nat):Stmt:=b.getD i (.Pass ⟨0,0,0,0⟩)
def zfi:Stmt->Expr|.Return (some e) _=>e|_=>.Constant .none 0 ⟨0,0,0,0⟩
def stP:Stmt->Pos|.Return _ p=>p|.Assign _ _ p=>p|_=>⟨0,0,0,0⟩
def zd2:Stmt->List Expr|.Assign ts _ _=>ts|_=>[]
def Q8:Stmt->Expr|.Assign _ v _=>v|_=>.Constant .none 0 ⟨0,0,0,0⟩
def Ce:Expr->Expr|.Subscript a _ _=>a|e=>e
def zfj:Expr->Expr|.Subscript _ b _=>b|e=>e
def zfk:Expr->Pos|.Subscript _ _ p=>p|_=>⟨0,0,0,0⟩
def zbw:Expr->List Expr|.List es _=>es|_=>[]
def zbx:Expr->Pos|.List _ p=>p|_=>⟨0,0,0,0⟩
def M9:List Int->TA
 | []=>Ba
 | x :: xs=>zfy (tC (.int x)) (M9 xs)
theorem G6:∀ (xs:List Int) (σ:L2.St) (H:Hp) (Q:List V->Hp->Prop),Q (xs.map V.int) H->M9 xs σ H Q
 | [],_,_,_,h=>h
 | x :: xs,σ,H,Q,h=>G6 xs σ H (fun ys H2=>Q (.int x :: ys) H2) h
structure Jb(es:List Expr)(xs:List Int):Prop where
 len:es.length=xs.length
 same:List.zipWith (fun i (e:Expr)=>Expr.Constant (.int i) 0 e.pos) xs es=es
theorem Q4(xs:List Int)(h:Jb es xs):PA X es (M9 xs):=by
 obtain⟨h1,h2⟩:=h
 induction xs generalizing es with
 | nil =>
   have:=List.length_eq_zero_iff.mp h1;subst this;exact Zd
 | cons x xs ih =>
   cases es with
   | nil=>cases h1
   | cons e es =>
     rw[List.zipWith_cons_cons] at h2;obtain⟨e1,e2⟩:=List.cons.inj h2;rw[<- e1];exact Za Zi (ih (Nat.succ.inj h1) e2) rfl
theorem Cf(xs:List Int)(hz:xs.length<=1000)(h:∀ l,H l=none->Q (.ref l) (upd H l (.lst (xs.map V.int)))):Bb (M9 xs) σ H Q:=by
 refine G6 xs σ H _ ⟨?_,h⟩;rw[zsk];exact szN hz
theorem zal{K:Frag}(xs:List Int){ti:TE}{σ:L2.St}{H:Hp}{Q:VK}(hz:xs.length<=1000)(h:∀ l H1,H1 l=some (.lst (xs.map V.int))->Same H H1->H l=none->ti σ H1 fun y H2=>Ik K (.ref l) y H2 Q):tOp (Ik K) (Bb (M9 xs)) ti σ H Q :=
 Cf xs hz fun l hl=>h l _ Zb (Zf hl) hl
theorem zhn{K:Frag}(xs:List Int){ti:TE}{D:Ox}{σ:L2.St}{H:Hp}(hz:xs.length<=1000)(h:∀ l H1,H1 l=some (.lst (xs.map V.int))->Same H H1->H l=none->ti σ H1 fun y H2=>Ik K (.ref l) y H2 D.rt):zhw (tOp (Ik K) (Bb (M9 xs)) ti) D σ H:=zal (Q:=D.rt) xs hz h
theorem zho{K:Frag}(xs:List Int){ti:TE}{i:Nat}{u:TS}{D:Ox}{σ:L2.St}{H:Hp}(hz:xs.length<=1000)(h:∀ l H1,H1 l=some (.lst (xs.map V.int))->Same H H1->H l=none->ti σ H1 fun y H2=>Ik K (.ref l) y H2 fun x H3=>u D (σ.set i (some x)) H3):Z0 (zau (tOp (Ik K) (Bb (M9 xs)) ti) (Vb i)) u D σ H:=zal xs hz h
theorem Cg(xs:List Int)(hz:xs.length<=1000)(h:∀ l H1,H1 l=some (.lst (xs.map V.int))->Same H H1->H l=none->u D (σ.set i (some (.ref l))) H1):Z0 (zau (Bb (M9 xs)) (Vb i)) u D σ H :=
 Cf (σ:=σ) (H:=H) (Q:=fun x H3=>u D (σ.set i (some x)) H3) xs hz fun l hl=>h l _ Zb (Zf hl) hl
theorem Ci:decide (V.str a=V.str a)=true:=zss rfl
theorem Se(h:decide (a=b)=false):decide (V.str a=V.str b)=false:=zsw fun z=>of_decide_eq_false h (V.str.inj z)
theorem Nd.refl(A:SAd)(H:Hp):Nd A A H:=⟨A.lt,rfl,.inl rfl⟩
abbrev zhp:=List (Int×List (Nat×Option Int))
structure Pg where
 len:Nat
 rest:Nat
 ppl:RL
 out:List (Int×Int)
 over:List Zz
 deed:Option Sd
 lis:Option (List P3)
 gv:List V
 mv:zhp
def pgF(len rest:Nat)(lp lo lv:Addr)(dv li:V)(lg lm:Addr):List (Key×V):=[(.inr "rounds",.int len),(.inr "rest",.int rest),(.inr "people",.ref lp),(.inr "out",.ref lo),(.inr "over",.ref lv),(.inr "deed",dv),(.inr "listed",li),(.inr "goes",.ref lg),(.inr "moves",.ref lm)]
def oiV(x:Int×Int):List V:=[.int x.1,.int x.2]
def Jc(ok:Addr->Prop)(H:Hp)(v:V):Option (List P3)->Prop
 | none=>v=.non
 | some ms=>∃ l ts,v=.ref l/\H l=some (.lst ts)/\Yb H ts (ms.map pV)/\ok l
def Cj(H:Hp)(v:V):Option Sd->Prop
 | none=>v=.non
 | some d=>∃ t,v=.ref t/\H t=some (.tup (Pk d))
inductive Xb(ok:Addr->Prop)(H:Hp):List V->List Zz->Prop where
 | nil:Xb ok H [] []
 | cons {t l g m y:Addr} {ts mts:List V} {ls:List Addr} {s:Zz} {vs:List V} {ss:List Zz} (h:H t=some (.tup [.ref l,.ref g,.ref m,.ref y])) (hl:H l=some (.lst ts)) (tl:Yb H ts (s.ms.map pV)) (hg:H g=some (.lst s.gv)) (hm:H m=some (.lst mts)) (gm:Wc ok H mts s.gaps)
   (hy:H y=some (.lst (ls.map V.ref))) (iy:ILs H ls s.may) (o:ok l/\ok g/\ok m/\ok y/\∀ x∈ls,ok x) (r:Xb ok H vs ss):Xb ok H (.ref t :: vs) (s :: ss)
theorem Jc.keep(h:Jc ok H v x)(k:∀ x o,ok x->H x=some o->H' x=some o)(kt:∀ t xs,H t=some (.tup xs)->H' t=some (.tup xs)):Jc ok H' v x:=by
 cases x with
 | none=>exact h
 | some ms=>obtain⟨l,ts,e,a,b,o⟩:=h;exact⟨l,ts,e,k _ _ o a,b.mono kt,o⟩
theorem Jc.imp(h:Jc ok H v x)(k:∀ x,(∃ o,H x=some o)->ok x->ok' x):Jc ok' H v x:=by
 cases x with
 | none=>exact h
 | some ms=>obtain⟨l,ts,e,a,b,o⟩:=h;exact⟨l,ts,e,a,b,k _ ⟨_,a⟩ o⟩
theorem Cj.keep(h:Cj H v x)(kt:∀ t xs,H t=some (.tup xs)->H' t=some (.tup xs)):Cj H' v x:=by
 cases x with
 | none=>exact h
 | some d=>obtain⟨t,e,a⟩:=h;exact⟨t,e,kt _ _ a⟩
theorem Xb.keep(k:∀ x o,ok x->H x=some o->H' x=some o)(kt:∀ t xs,H t=some (.tup xs)->H' t=some (.tup xs)):∀ {vs:List V} {ss:List Zz},Xb ok H vs ss->Xb ok H' vs ss
 | _,_,.nil=>.nil
 | _,_,.cons h hl tl hg hm gm hy iy o r=>.cons (kt _ _ h) (k _ _ o.1 hl) (tl.mono kt) (k _ _ o.2.1 hg) (k _ _ o.2.2.1 hm) (gm.keep k kt) (k _ _ o.2.2.2.1 hy) (iy.keep fun x hx _ q=>k _ _ (o.2.2.2.2 x hx) q) o (Xb.keep k kt r)
theorem Xb.imp(k:∀ x,(∃ o,H x=some o)->ok x->ok' x):∀ {vs:List V} {ss:List Zz},Xb ok H vs ss->Xb ok' H vs ss
 | _,_,.nil=>.nil
 | _,_,.cons h hl tl hg hm gm hy iy o r=>.cons h hl tl hg hm (gm.imp k) hy iy ⟨k _ ⟨_,hl⟩ o.1,k _ ⟨_,hg⟩ o.2.1,k _ ⟨_,hm⟩ o.2.2.1,k _ ⟨_,hy⟩ o.2.2.2.1,fun x hx=>k _ (let ⟨_,z⟩:=iy.has hx;⟨_,z⟩) (o.2.2.2.2 x hx)⟩ (Xb.imp k r)
theorem Xb.length:∀ {vs:List V} {ss:List Zz},Xb ok H vs ss->vs.length=ss.length
 | _,_,.nil=>rfl
 | _,_,.cons _ _ _ _ _ _ _ _ _ r=>by simp[Xb.length r]
theorem Xb.snoc(h:H t=some (.tup [.ref l,.ref g,.ref m,.ref y]))(hl:H l=some (.lst ts))(tl:Yb H ts (s.ms.map pV))(hg:H g=some (.lst s.gv))(hm:H m=some (.lst mts))(gm:Wc ok H mts s.gaps)
   (hy:H y=some (.lst (ls.map V.ref))) (iy:ILs H ls s.may) (o:ok l/\ok g/\ok m/\ok y/\∀ x∈ls,ok x):∀ {vs:List V} {ss:List Zz},Xb ok H vs ss->Xb ok H (vs++[.ref t]) (ss++[s])
 | _,_,.nil=>.cons h hl tl hg hm gm hy iy o .nil
 | _,_,.cons h' hl' tl' hg' hm' gm' hy' iy' o' r=>.cons h' hl' tl' hg' hm' gm' hy' iy' o' (Xb.snoc h hl tl hg hm gm hy iy o r)
theorem Xb.get:∀ {vs:List V} {ss:List Zz} {i:Nat} {x:V},Xb ok H vs ss->vs[i]?=some x->∃ t l g m y ts s,x=.ref t/\ss[i]?=some s/\H t=some (.tup [.ref l,.ref g,.ref m,.ref y])/\H l=some (.lst ts)/\Yb H ts (s.ms.map pV)/\H g=some (.lst s.gv)/\ok l/\ok g
 | _,_,_,_,.nil,e=>by simp at e
 | _,_,0,_,.cons h hl tl hg _ _ _ _ o _,e=>by simp at e;subst e;exact⟨_,_,_,_,_,_,_,rfl,rfl,h,hl,tl,hg,o.1,o.2.1⟩
 | _,_,i+1,x,.cons _ _ _ _ _ _ _ _ _ r,e=>by
   obtain⟨t,l,g,m,y,ts,s,h1,h2,h3⟩:=Xb.get (i:=i) (x:=x) r (by simpa using e);exact⟨t,l,g,m,y,ts,s,h1,by simpa using h2,h3⟩
structure PgAt(ok:Addr->Prop)(H:Hp)(d:Addr)(P:Pg):Prop where
 ex:∃ lp lo lv dv li lg lm pts ots vts mts,H d=some (.dK (pgF P.len P.rest lp lo lv dv li lg lm))/\H lp=some (.lst pts)/\Yb H pts (P.ppl.map pV)/\H lo=some (.lst ots)/\Yb H ots (P.out.map oiV)/\H lv=some (.lst vts)/\Xb ok H vts P.over/\Cj H dv P.deed/\Jc ok H li P.lis/\H lg=some (.lst P.gv)/\H lm=some (.lst mts)/\Wc ok H mts P.mv /\
  (ok d/\ok lp/\ok lo/\ok lv/\ok lg/\ok lm)
theorem PgAt.keep(h:PgAt ok H d P)(k:∀ x o,ok x->H x=some o->H' x=some o)(kt:∀ t xs,H t=some (.tup xs)->H' t=some (.tup xs)):PgAt ok H' d P:=by
 obtain⟨lp,lo,lv,dv,li,lg,lm,pts,ots,vts,mts,a1,a2,a3,a4,a5,a6,a7,a8,a9,b1,b2,b3,o1,o2,o3,o4,o5,o6⟩:=h;exact⟨lp,lo,lv,dv,li,lg,lm,pts,ots,vts,mts,k _ _ o1 a1,k _ _ o2 a2,a3.mono kt,k _ _ o3 a4,a5.mono kt,k _ _ o4 a6,a7.keep k kt,a8.keep kt,a9.keep k kt,k _ _ o5 b1,k _ _ o6 b2,b3.keep k kt,o1,o2,o3,o4,o5,o6⟩
theorem PgAt.imp(h:PgAt ok H d P)(k:∀ x,(∃ o,H x=some o)->ok x->ok' x):PgAt ok' H d P:=by
 obtain⟨lp,lo,lv,dv,li,lg,lm,pts,ots,vts,mts,a1,a2,a3,a4,a5,a6,a7,a8,a9,b1,b2,b3,o1,o2,o3,o4,o5,o6⟩:=h;exact⟨lp,lo,lv,dv,li,lg,lm,pts,ots,vts,mts,a1,a2,a3,a4,a5,a6,a7.imp k,a8,a9.imp k,b1,b2,b3.imp k,k _ ⟨_,a1⟩ o1,k _ ⟨_,a2⟩ o2,k _ ⟨_,a4⟩ o3,k _ ⟨_,a6⟩ o4,k _ ⟨_,b1⟩ o5,k _ ⟨_,b2⟩ o6⟩
theorem PgAt.same(h:PgAt ok H d P)(e:Same H H'):PgAt ok H' d P:=h.keep (fun _ _ _ q=>e _ _ q) fun _ _ q=>e _ _ q
section
variable{len rest:Nat}{lp lo lv lg lm:Addr}{dv li:V}
theorem By:putK (pgF len rest lp lo lv dv li lg lm) (.inr "people") (.ref x)=pgF len rest x lo lv dv li lg lm:=rfl
theorem zfl:putK (pgF len rest lp lo lv dv li lg lm) (.inr "out") (.ref x)=pgF len rest lp x lv dv li lg lm:=rfl
theorem zd3:putK (pgF len rest lp lo lv dv li lg lm) (.inr "over") (.ref x)=pgF len rest lp lo x dv li lg lm:=rfl
theorem Jd:putK (pgF len rest lp lo lv dv li lg lm) (.inr "deed") v=pgF len rest lp lo lv v li lg lm:=rfl
theorem Je:putK (pgF len rest lp lo lv dv li lg lm) (.inr "listed") v=pgF len rest lp lo lv dv v lg lm:=rfl
theorem Ck:putK (pgF len rest lp lo lv dv li lg lm) (.inr "goes") (.ref x)=pgF len rest lp lo lv dv li x lm:=rfl
theorem zby:putK (pgF len rest lp lo lv dv li lg lm) (.inr "moves") (.ref x)=pgF len rest lp lo lv dv li lg x:=rfl
end
theorem zd4{len rest:Nat}{lp lo lv lg lm:Addr}{dv li:V}:(pgF len rest lp lo lv dv li lg lm).length<sizeLine:=by rw[sizeLine_eq];show 9<_;decide
def pg6(len rest:Nat)(lp lo lv:Addr)(dv:V):List (Key×V):=[(.inr "rounds",.int len),(.inr "rest",.int rest),(.inr "people",.ref lp),(.inr "out",.ref lo),(.inr "over",.ref lv),(.inr "deed",dv)]
theorem zbz{len rest:Nat}{lp lo lv:Addr}{dv:V}:Sr [] (pg6 len rest lp lo lv dv)=pg6 len rest lp lo lv dv:=rfl
theorem zfm{len rest:Nat}{lp lo lv:Addr}{dv x y z:V}:putK (putK (putK (pg6 len rest lp lo lv dv) (.inr "listed") x) (.inr "goes") y) (.inr "moves") z=pg6 len rest lp lo lv dv++[(.inr "listed",x),(.inr "goes",y),(.inr "moves",z)]:=rfl
theorem N8{len rest:Nat}{lp lo lv:Addr}{dv x y:V}:(pg6 len rest lp lo lv dv).length<sizeLine/\(putK (pg6 len rest lp lo lv dv) (.inr "listed") x).length<sizeLine/\(putK (putK (pg6 len rest lp lo lv dv) (.inr "listed") x) (.inr "goes") y).length<sizeLine:=by
 rw[sizeLine_eq];exact⟨by show 6<_;decide,by show 7<_;decide,by show 8<_;decide⟩
def Bz(r q:Nat):Pg:=⟨r,q,[],[],[],none,none,[],[]⟩
inductive zam(vs:List V)(H:Hp)(Q:VK)(_:XK):Prop where
 | mk(r q:Nat)(_:vs=[.int r,.int q])(_:∀ d H',PgAt (fun x=>H x=none) H' d (Bz r q)->Same H H'->H d=none->Q (.ref d) H')
def Od(P:Pg):Prop:=P.over.length<=100/\P.rest<=100/\∀ s∈P.over,s.ms.length<=20/\s.gv.length=s.ms.length/\∀ x∈s.gv,oneV x
def zd5(kvs:List (List Key×V))(P:Pg):Prop:=∀ n c:Int,(valV kvs [inl n,inl c]).isSome=Rj (P.over.map Z5) n c P.rest
inductive zan(K:Frag)(vs:List V)(H:Hp)(Q:VK)(_:XK):Prop where
 | mk(ok:Addr->Prop)(d:Addr)(P:Pg)(_:vs=[.ref d])(_:PgAt ok H d P)(_:Od P)(_:∀ m kvs H',H' m=some (.dT kvs)->zd5 kvs P->Same H H'->H m=none->Q (.ref m) H')
theorem zd6(xs:List V)(n r:Nat):Ij xs (some (if ((n:Int)-r)>0 then (n:Int)-r else 0)) none=xs.drop ((n:Int)-r).toNat:=by
 have e:(if ((n:Int)-r)>0 then (n:Int)-r else 0)=((((n:Int)-r).toNat:Nat):Int):=by split<;>omega
 rw[e];exact zbk xs _
theorem Xb.drop:∀ (k:Nat) {vs:List V} {ss:List Zz},Xb ok H vs ss->Xb ok H (vs.drop k) (ss.drop k)
 | 0,_,_,h=>h
 | _+1,_,_,.nil=>.nil
 | k+1,_,_,.cons _ _ _ _ _ _ _ _ _ r=>Xb.drop k r
def HitI(ss:List Zz)(i j:Nat)(n c:Int):Prop:=(∃ s∈ss.take i,∃ r∈Z5 s,hit n c r=true)\/∃ s,ss[i]?=some s/\∃ r∈(Z5 s).take j,hit n c r=true
def Oe(kvs:List (List Key×V))(ss:List Zz)(i j:Nat):Prop:=∀ n c:Int,(valV kvs [inl n,inl c]).isSome=true↔HitI ss i j n c
theorem X8{α:Type}{l:List α}{j:Nat}{x:α}(h:l[j]?=some x):l.take (j+1)=l.take j++[x]:=by rw[ztv,h];rfl
theorem Oe.zero(ss:List Zz):Oe [] ss 0 0:=fun n c=>by
 unfold HitI;simp[zcr]
theorem Oe.next{kvs:List (List Key×V)}{ss:List Zz}{i:Nat}{s:Zz}(h:Oe kvs ss i (Z5 s).length)(hs:ss[i]?=some s):Oe kvs ss (i+1) 0:=fun n c=>by
 rw[h n c];unfold HitI;rw[X8 hs,hs];constructor
 ·rintro(⟨s',h1,h2⟩|⟨s',h1,r,h2,h3⟩)
  ·exact .inl ⟨s',zta _ h1,h2⟩
  ·cases h1;exact .inl ⟨s,zs6 _ (List.mem_singleton_self _),r,List.mem_of_mem_take h2,h3⟩
 ·rintro(⟨s',h1,r,h2,h3⟩|⟨s',h1,r,h2,h3⟩)
  ·rcases zsv.mp h1 with h1|h1
   ·exact .inl ⟨s',h1,r,h2,h3⟩
   ·cases zsp.mp h1;exact .inr ⟨_,rfl,r,by rw[zs7];exact h2,h3⟩
  ·simp at h2
theorem HitI.succ{ss:List Zz}{i j:Nat}{n c:Int}{s:Zz}{r:Row}(hs:ss[i]?=some s)(hr:(Z5 s)[j]?=some r):HitI ss i (j+1) n c↔HitI ss i j n c\/hit n c r=true:=by
 unfold HitI;rw[hs];constructor
 ·rintro(z|⟨s',h1,r',h2,h3⟩)
  ·exact .inl (.inl z)
  ·cases h1;rw[X8 hr] at h2;rcases zsv.mp h2 with h2|h2
   ·exact .inl (.inr ⟨_,rfl,r',h2,h3⟩)
   ·cases zsp.mp h2;exact .inr h3
 ·rintro((z|⟨s',h1,r',h2,h3⟩)|z)
  ·exact .inl z
  ·cases h1;exact .inr ⟨_,rfl,r',by rw[X8 hr];exact zta _ h2,h3⟩
  ·exact .inr ⟨_,rfl,r,by rw[X8 hr];exact zs6 _ (List.mem_singleton_self _),z⟩
theorem Oe.none(h:Oe kvs ss i j)(hs:ss[i]?=some s)(hr:(Z5 s)[j]?=some r)(hw:r.w=none):Oe kvs ss i (j+1):=fun n c=>by
 rw[h n c,HitI.succ hs hr];unfold hit;rw[hw];simp
theorem Oe.some(h:Oe kvs ss i j)(hs:ss[i]?=some s)(hr:(Z5 s)[j]?=some r)(hw:r.w=some w):Oe (putK (putK kvs [inl w,inl r.h] v) [inl w,inl r.g] v') ss i (j+1):=fun n c=>by
 rw[HitI.succ hs hr,<- h n c,Ww,Ww];unfold hit;rw[hw];by_cases e1:([inl n,inl c]:List Key)=[inl w,inl r.g]
 ·rw[if_pos e1];have:=e1;simp at this;obtain⟨rfl,rfl⟩:=this;simp
 ·rw[if_neg e1];by_cases e2:([inl n,inl c]:List Key)=[inl w,inl r.h]
  ·rw[if_pos e2];have:=e2;simp at this;obtain⟨rfl,rfl⟩:=this;simp
  ·rw[if_neg e2];constructor
   ·exact .inl
   ·rintro(z|z)
    ·exact z
    ·exfalso
     simp at z e1 e2;obtain⟨z1,z2|z2⟩:=z
     ·exact e2 z1.symm z2.symm
     ·exact e1 z1.symm z2.symm
theorem Oe.all(h:Oe kvs (P.over.drop k) (P.over.drop k).length 0)(hk:k=((P.over.length:Int)-P.rest).toNat):zd5 kvs P:=fun n c=>by
 apply zuo.mpr;rw[h n c,zbj (Int.natCast_nonneg _),zsk,<- hk,<- List.map_drop];unfold HitI;rw[zs7];constructor
 ·rintro(⟨s,h1,h2⟩|⟨s,h1,r,h2,_⟩)
  ·exact⟨Z5 s,zsu.mpr ⟨s,h1,rfl⟩,h2⟩
  ·simp at h2
 ·rintro⟨rs,h1,h2⟩;obtain⟨s,h3,rfl⟩:=zsu.mp h1;exact .inl ⟨s,h3,h2⟩
end G
namespace L2
open PySem PySem.Spec PyProof.Rows G
def Vw(x:Int×Int):Dt:=.tup [.int x.1,.int x.2]
theorem Jf{K:Frag}{H:Hp}:∀ {ts:List V} {ps:List (Int×Int)},Yb H ts (ps.map oiV)->X7 K H ts (ps.map Vw)
 | _,[],h=>by cases h;exact .nil
 | _,p :: ps,h=>by
   rw[zsx] at h;cases h with
   | cons e r=>exact .cons (.tup (SqT.of e) (.cons (.int _) (.cons (.int _) .nil))) (Jf r)
theorem N9:∀ ps:List (Int×Int),PyData.canLayAll0 (Xz (ps.map Vw))=true
 | []=>rfl
 | p :: ps=>by
   rw[zsx,Xz,PyData.canLayAll0,N9 ps];rfl
theorem Ma:∀ ps:List (Int×Int),((Xz (ps.map Vw)).any fun y=>PyData.eqv y (toPy (Vw (a,b))))=decide ((a,b)∈ps)
 | []=>by simp[Xz]
 | p :: ps=>by
   rw[zsx,Xz,zuf,Ma ps,O4];obtain⟨p1,p2⟩:=p;have e:eqD (Vw (p1,p2)) (Vw (a,b))=decide ((a,b)=(p1,p2)):=by
    rw[Vw,Vw,eqD,Q7,Q7,Q7,eqD,eqD];by_cases h1:p1=a
    ·by_cases h2:p2=b
     ·subst h1;subst h2;simp
     ·rw[zsw (fun z=>h2 (Prod.mk.inj z).2.symm)];simp[h2]
    ·rw[zsw (fun z=>h1 (Prod.mk.inj z).1.symm)];simp[h1]
   rw[e,<- Bool.decide_or];exact decide_eq_decide.mpr zso.symm
inductive zfn(K:Frag)(neg:Bool)(x:V)(y:V)(H:Hp)(Q:VK):Prop where
 | mk(t p:Addr)(ts:List V)(a b:Int)(ps:List (Int×Int))(_:x=.ref t)(_:y=.ref p)(_:SqT K H t [.int a,.int b])(_:SqL K H p ts)(_:Yb H ts (ps.map oiV))(_:Q (.bl (if neg then !decide ((a,b)∈ps) else decide ((a,b)∈ps))) H)
section
variable{X:Cx}{K:Frag}
theorem Cm(hu:X.A.units+64<cLine):OpR X (compareOp .In) (zfn X.K false):=by
 intro pins s σ H x y v u Q I rx ry h;obtain⟨t,p,ts,a,b,ps,rfl,rfl,ht,hp,tl,q⟩:=h;obtain⟨as,r1⟩:=Is.reads I (Is.tup ht (.cons (.int a) (.cons (.int b) .nil)):Is X.K H (.ref t) (Vw (a,b))) rx;have r1:Reads s.heap v (toPy (Vw (a,b))) as:=r1;obtain⟨bs,r2⟩:=Is.reads I (Is.lst hp (Jf tl)) ry;rw[toPy] at r2;have hd:(toPy (Vw (a,b))).depth=1:=rfl;refine SeqAt.in_list_reads r2 r1 (N9 ps) rfl ?_ ?_
 ·have:=Nat.min_le_right (PyData.depthAll (Xz (ps.map Vw))) (toPy (Vw (a,b))).depth;rw[hd] at this ⊢;omega
 ·rw[Ma];exact⟨.bl _,H,I,rfl,q⟩
theorem Jg(hu:X.A.units+64<cLine):OpR X (compareOp .NotIn) (zfn X.K true):=by
 intro pins s σ H x y v u Q I rx ry h;obtain⟨t,p,ts,a,b,ps,rfl,rfl,ht,hp,tl,q⟩:=h;obtain⟨as,r1⟩:=Is.reads I (Is.tup ht (.cons (.int a) (.cons (.int b) .nil)):Is X.K H (.ref t) (Vw (a,b))) rx;have r1:Reads s.heap v (toPy (Vw (a,b))) as:=r1;obtain⟨bs,r2⟩:=Is.reads I (Is.lst hp (Jf tl)) ry;rw[toPy] at r2;have hd:(toPy (Vw (a,b))).depth=1:=rfl;refine SeqAt.notIn_list_reads r2 r1 (N9 ps) rfl ?_ ?_
 ·have:=Nat.min_le_right (PyData.depthAll (Xz (ps.map Vw))) (toPy (Vw (a,b))).depth;rw[hd] at this ⊢;omega
 ·rw[Ma];exact⟨.bl _,H,I,rfl,q⟩
theorem F7(hK:X.K=K)(hu:X.A.units+64<cLine):OpR X (compareOp .In) (zfn K false):=hK▸Cm hu
theorem Ll(hK:X.K=K)(hu:X.A.units+64<cLine):OpR X (compareOp .NotIn) (zfn K true):=hK▸Jg hu
end
end L2
namespace G
open PySem PySem.Spec PyProof.Rows L2
def Q9(P:Pg)(x m:P3):List Str:=whyS (P.over.map Z5) x.1 x.2.1 x.2.2 m.1 m.2.1 m.2.2 (decide (((P.over.length:Int)+1,x.1)∈P.out)) P.rest
inductive Cn(K:Frag)(vs:List V)(H:Hp)(Q:VK)(_:XK):Prop where
 | mk(ok:Addr->Prop)(d m t1 t2:Addr)(P:Pg)(kvs:List (List Key×V))(x y:P3)(_:vs=[.ref d,.ref m,.ref t1,.ref t2])(_:PgAt ok H d P)(_:H m=some (.dT kvs))(_:zd5 kvs P)(_:H t1=some (.tup (pV x)))(_:H t2=some (.tup (pV y)))(_:∀ l H',H' l=some (.lst ((Q9 P x y).map V.str))->Same H H'->H l=none->Q (.ref l) H')
def Qd(P:Pg)(ms:List P3):List (List Int):=ms.map fun m=>(P.ppl.filter fun x=>(Q9 P x m).isEmpty).map (·.1)
theorem zb0(h1:P.ppl=S.ppl)(h2:P.over.map Z5=S.led)(h3:P.out=S.out)(h4:P.rest=S.rest)(h5:((P.over.length:Int)+1)=atV S)(ms:List P3):Qd P ms=mayS S ms:=by
 unfold Qd mayS;refine zul fun m _=>?_;unfold Iv Q9 pIn;rw[h1,h2,h3,h4,h5]
inductive B0(K:Frag)(vs:List V)(H:Hp)(Q:VK)(_:XK):Prop where
 | mk(ok:Addr->Prop)(d:Addr)(P:Pg)(ms:List P3)(_:vs=[.ref d])(_:PgAt ok H d P)(_:Od P)(_:P.lis=some ms)(_:ms.length<=100)(_:P.ppl.length<=100)(_:∀ l ls H',H' l=some (.lst (ls.map V.ref))->ILs H' ls (Qd P ms)->Same H H'->H l=none->(∀ x∈ls,H x=none)->Q (.ref l) H')
theorem zfo(r:List Str)(ok:∀ w∈r,PyData.strOk w=true):shD (.lst (r.map Dt.str)):=by
 have h:PyData.canLayAll0 (Xz (r.map Dt.str))=true/\PyData.depthAll (Xz (r.map Dt.str))<=1:=by
  induction r with
  | nil=>exact⟨rfl,by decide⟩
  | cons x r ih =>
    obtain⟨h1,h2⟩:=ih fun w hw=>ok w (zs4 _ hw);have h0:=ok x (zte);refine⟨?_,?_⟩
    ·rw[zsx,Xz,PyData.canLayAll0,h1];simp[toPy,PyData.canLay0,h0]
    ·rw[zsx,Xz,PyData.depthAll];have:PyData.depth (toPy (Dt.str x))<=1:=by simp[toPy,PyData.depth]
     omega
 unfold shD SeqAt.shaped;rw[toPy,PyData.canLay0,h.1,Bool.true_and];refine zss ?_;rw[PyData.depth];have:=h.2;omega
theorem Jh{K:Frag}{H:Hp}:∀ ws:List Str,X7 K H (ws.map V.str) (ws.map Dt.str)
 | []=>.nil
 | w :: ws=>.cons (.str w) (Jh ws)
theorem zhq(h:x∈bw b w):x=w:=by
 cases b<;>simp[bw] at h;exact h
theorem zfp{Rs:List (List Row)}{n g c h gu d:Int}{o:Bool}{rest:Int}:∀ w∈whyS Rs n g c h gu d o rest,PyData.strOk w=true:=fun w hw=>by
 unfold whyS at hw;simp only[zsv] at hw;rcases hw with z|z|z|z<;>rw[zhq z]<;>decide +kernel
def Xg(H H':Hp):Prop:=(∀ x ys,H x=some (.lst ys)->H' x=some (.lst ys))/\∀ x ys,H x=some (.tup ys)->H' x=some (.tup ys)
theorem Xg.dict(h:H d=some (.dK kvs)):Xg H (upd H d (.dK kvs')) :=
 ⟨fun x ys e=>by rw[Zh (Yp e h (by intro z;cases z))];exact e,fun x ys e=>by rw[Zh (Yp e h (by intro z;cases z))];exact e⟩
theorem Xg.trans(a:Xg H H')(b:Xg H' H''):Xg H H'':=⟨fun x ys e=>b.1 _ _ (a.1 _ _ e),fun x ys e=>b.2 _ _ (a.2 _ _ e)⟩
theorem Xg.of(e:Same H H'):Xg H H':=⟨fun x ys z=>e _ _ z,fun x ys z=>e _ _ z⟩
theorem Wc.keepL(k:Xg H H'):∀ {ts:List V} {G:zhp},Wc ok H ts G->Wc ok H' ts G
 | _,_,.nil=>.nil
 | _,_,.cons h hl tl o r=>.cons (k.2 _ _ h) (k.1 _ _ hl) (tl.mono k.2) o (Wc.keepL k r)
theorem ILs.keepL(k:Xg H H'):∀ {ls:List Addr} {R:List (List Int)},ILs H ls R->ILs H' ls R
 | _,_,.nil=>.nil
 | _,_,.cons h n=>.cons (k.1 _ _ h) (ILs.keepL k n)
theorem Jc.keepL(k:Xg H H')(h:Jc ok H v x):Jc ok H' v x:=by
 cases x with
 | none=>exact h
 | some ms=>obtain⟨l,ts,e,a,b,o⟩:=h;exact⟨l,ts,e,k.1 _ _ a,b.mono k.2,o⟩
theorem Xb.keepL(k:Xg H H'):∀ {vs:List V} {ss:List Zz},Xb ok H vs ss->Xb ok H' vs ss
 | _,_,.nil=>.nil
 | _,_,.cons h hl tl hg hm gm hy iy o r=>.cons (k.2 _ _ h) (k.1 _ _ hl) (tl.mono k.2) (k.1 _ _ hg) (k.1 _ _ hm) (gm.keepL k) (k.1 _ _ hy) (ILs.keepL k iy) o (Xb.keepL k r)
structure PgB(ok:Addr->Prop)(H:Hp)(P:Pg)(lp lo lv:Addr)(dv li:V)(lg lm:Addr):Prop where
 pp:∃ pts,H lp=some (.lst pts)/\Yb H pts (P.ppl.map pV)/\ok lp
 oo:∃ ots,H lo=some (.lst ots)/\Yb H ots (P.out.map oiV)/\ok lo
 vv:∃ vts,H lv=some (.lst vts)/\Xb ok H vts P.over/\ok lv
 dd:Cj H dv P.deed
 li:Jc ok H li P.lis
 gg:H lg=some (.lst P.gv)/\ok lg
 mm:∃ mts,H lm=some (.lst mts)/\Wc ok H mts P.mv/\ok lm
theorem PgB.keepL{ok:Addr->Prop}{H H':Hp}{P:Pg}{lp lo lv:Addr}{dv li:V}{lg lm:Addr}(h:PgB ok H P lp lo lv dv li lg lm)(k:Xg H H'):PgB ok H' P lp lo lv dv li lg lm:=by
 obtain⟨⟨p1,p2,p3,p4⟩,⟨o1,o2,o3,o4⟩,⟨v1,v2,v3,v4⟩,dd,li,⟨g1,g2⟩,m1,m2,m3,m4⟩:=h;exact⟨⟨p1,k.1 _ _ p2,p3.mono k.2,p4⟩,⟨o1,k.1 _ _ o2,o3.mono k.2,o4⟩,⟨v1,k.1 _ _ v2,v3.keepL k,v4⟩,dd.keep k.2,li.keepL k,⟨k.1 _ _ g1,g2⟩,m1,k.1 _ _ m2,m3.keepL k,m4⟩
theorem PgB.imp{ok ok':Addr->Prop}{H:Hp}{P:Pg}{lp lo lv:Addr}{dv li:V}{lg lm:Addr}(h:PgB ok H P lp lo lv dv li lg lm)(k:∀ x,(∃ o,H x=some o)->ok x->ok' x):PgB ok' H P lp lo lv dv li lg lm:=by
 obtain⟨⟨p1,p2,p3,p4⟩,⟨o1,o2,o3,o4⟩,⟨v1,v2,v3,v4⟩,dd,li,⟨g1,g2⟩,m1,m2,m3,m4⟩:=h;exact⟨⟨p1,p2,p3,k _ ⟨_,p2⟩ p4⟩,⟨o1,o2,o3,k _ ⟨_,o2⟩ o4⟩,⟨v1,v2,v3.imp k,k _ ⟨_,v2⟩ v4⟩,dd,li.imp k,⟨g1,k _ ⟨_,g1⟩ g2⟩,m1,m2,m3.imp k,k _ ⟨_,m2⟩ m4⟩
theorem PgAt.split(h:PgAt ok H d P):∃ lp lo lv dv li lg lm,H d=some (.dK (pgF P.len P.rest lp lo lv dv li lg lm))/\PgB ok H P lp lo lv dv li lg lm/\ok d:=by
 obtain⟨lp,lo,lv,dv,li,lg,lm,pts,ots,vts,mts,a1,a2,a3,a4,a5,a6,a7,a8,a9,b1,b2,b3,o1,o2,o3,o4,o5,o6⟩:=h;exact⟨lp,lo,lv,dv,li,lg,lm,a1,⟨⟨_,a2,a3,o2⟩,⟨_,a4,a5,o3⟩,⟨_,a6,a7,o4⟩,a8,a9,⟨b1,o5⟩,_,b2,b3,o6⟩,o1⟩
theorem PgAt.join{ok:Addr->Prop}{H:Hp}{d:Addr}{P:Pg}{lp lo lv:Addr}{dv li:V}{lg lm:Addr}(hd:H d=some (.dK (pgF P.len P.rest lp lo lv dv li lg lm)))(h:PgB ok H P lp lo lv dv li lg lm)(o:ok d):PgAt ok H d P:=by
 obtain⟨⟨p1,p2,p3,p4⟩,⟨o1,o2,o3,o4⟩,⟨v1,v2,v3,v4⟩,dd,li',⟨g1,g2⟩,m1,m2,m3,m4⟩:=h;exact⟨lp,lo,lv,dv,li,lg,lm,p1,o1,v1,m1,hd,p2,p3,o2,o3,v2,v3,dd,li',g1,m2,m3,o,p4,o4,v4,g2,m4⟩
theorem PgAt.setGoes(h:PgAt ok H d P)(hl:H l=some (.lst xs))(ol:ok l):∃ kvs,H d=some (.dK kvs)/\kvs.length<sizeLine/\PgAt ok (upd H d (.dK (putK kvs (.inr "goes") (.ref l)))) d { P with gv:=xs }:=by
 obtain⟨lp,lo,lv,dv,li,lg,lm,a1,a2,a3⟩:=h.split;refine⟨_,a1,zd4,?_⟩;rw[Ck];have b:=a2.keepL (.dict a1 (kvs':=pgF P.len P.rest lp lo lv dv li l lm));exact .join (P:={ P with gv:=xs }) Zb ⟨b.pp,b.oo,b.vv,b.dd,b.li,⟨(Xg.dict a1).1 _ _ hl,ol⟩,b.mm⟩ a3
def Ws(P:Pg):Ux->Pg
 | .enrol n g c=>{ P with ppl:=P.ppl++[(n,g,c)],deed:=some ("enrol",n,(P.over.length:Int)+1) }
 | .away i n=>{ P with out:=P.out++[(i,n)],deed:=some ("away",n,i) }
 | .draw ms=>{ P with lis:=some ms,deed:=some ("draw up",(ms.length:Int),(P.over.length:Int)+1) }
 | .close=>{ P with over:=P.over++[⟨P.lis.getD [],Qd P (P.lis.getD []),P.gv,P.mv⟩],lis:=none,gv:=[],mv:=[] }
 | .back=>P
def F8(ds:List Addr)(d d':Addr):Ux->List Addr
 | .back=>ds
 | .close=>[d']
 | _=>ds++[d]++[d']
inductive Ea(K:Frag)(vs:List V)(H:Hp)(Q:VK)(_:XK):Prop where
 | mk(ok:Addr->Prop)(l t:Addr)(ds:List Addr)(d:Addr)(P:Pg)(D:Ux)(_:vs=[.ref l,.ref t])(_:H l=some (.lst ((ds++[d]).map V.ref)))(_:PgAt ok H d P)(_:X2 ok H t D)(_:Od P)(_:P.ppl.length<=100)(_:P.out.length<=900)(_:ds.length<=900)(_:(D=.close->∃ ms,P.lis=some ms/\ms.length<=100))(_:∀ l' d' H',H' l'=some (.lst ((F8 ds d d' D).map V.ref))->(D≠.back->PgAt (fun x=>ok x\/H x=none) H' d' (Ws P D))->Same H H'->H l'=none->H d'=none->Q (.ref l') H')
theorem zd7(xs:List V)(x:V):Ij (xs++[x]) none (some (-1))=xs:=by
 unfold Ij HT.sIx;simp;rw[show (-1+((xs.length:Int)+1)).toNat=xs.length by omega,List.take_left]
def B1(ms:List P3):Prop:=(∀ m∈ms,¬ badM m)/\∀ m∈ms,m.1≠m.2.1
inductive Lb(K:Frag)(vs:List V)(H:Hp)(Q:VK)(_:XK):Prop where
 | mk(b:Addr)(ns:List Int)(cell:Int)(most mixed:Nat)(_:vs=[.int cell,.ref b,.int most,.int mixed])(_:H b=some (.lst (ns.map V.int)))(_:2<=ns.length)(_:ns.length<=100)(_:ns.Nodup)(_:(∀ n∈ns,1<=n/\n<=99))(_:most<=20)(_:mixed<=1)(_:∀ l ts ms H',H' l=some (.lst ts)->Yb H' ts (ms.map pV)->ms.length<=most->B1 ms->Same H H'->H l=none->Q (.ref l) H')
def enV(x:P3):List V:=[.str "enrol",.int x.1,.int x.2.1,.int x.2.2]
inductive Ji(K:Frag)(vs:List V)(H:Hp)(Q:VK)(_:XK):Prop where
 | mk(b t lc ln:Addr)(ns cs nu:List Int)(_:vs=[.ref b,.ref t])(_:SqL K H b (ns.map V.int))(_:Oc H t lc ln cs nu)(_:∀ l ts (es:List P3) H',H' l=some (.lst ts)->Yb H' ts (es.map enV)->es.map (·.1)=nu.take es.length->es.length<=nu.length->(∀ x∈es,1<=x.2.1/\x.2.1<=9/\x.2.2∈cs)->Same H H'->H l=none->Q (.ref l) H')
theorem zb1(h1:Gr t σ H b)(h2:∀ H1,Same H H1->Gr u σ H1 c):Gr (zgd t u) σ H (b&&c):=fun Q h=>by
 refine h1 _ fun H1 s1=>?_;cases b with
 | true=>exact h2 H1 s1 _ fun H2 s2=>h H2 (s1.trans s2)
 | false=>exact h H1 s1
theorem Lc{K:Frag}{H:Hp}:∀ ns:List Int,X7 K H (ns.map V.int) (ns.map Dt.int)
 | []=>.nil
 | w :: ws=>.cons (.int w) (Lc ws)
theorem Co{K:Frag}{σ:L2.St}{H:Hp}{i:Nat}{l:Addr}{ns:List Int}(hv:σ[i]?=some (some (.ref l)))(hl:H l=some (.lst (ns.map V.int))):Gr (zfw (tOp (zc9 K true) (zei i) (Bb Ba))) σ H (!ns.isEmpty):=fun Q q=>by
 refine⟨_,hv,zs9 _,fun le hle=>?_⟩;have s:=Zf (o:=.lst []) hle;refine⟨_,_,.lst (SqL.of (s _ _ hl)) (Lc _),.lst (SqL.of Zb) .nil,zaa _,zab,_,rfl,?_⟩;rw[if_pos rfl,zac];exact q _ s
theorem zd8{h y n:Int}(h0:0<=h)(h1:h<n)(y0:1<=y)(y1:y<=n-1):0<=(h+y)%n/\(h+y)%n<n/\(h+y)%n≠h:=by
 have hn:0<n:=by omega
 refine⟨zts _ ⋯,ztl _ hn,?_⟩;by_cases c:h+y<n
 ·rw[Int.emod_eq_of_lt ⋯ c];omega
 ·have e:(h+y)%n=h+y-n:=by
   rw[<- Int.sub_emod_right,Int.emod_eq_of_lt ⋯ ⋯]
  omega
theorem at2(x y:Int){k:Nat}(h:k<=1):∃ z,atI [V.int x,V.int y] (k:Int)=some (.int z):=by
 match k,h with
 | 0,_=>exact⟨x,rfl⟩
 | 1,_=>exact⟨y,rfl⟩
def Eb:List Int:=[1,2,3,4,5,6,7,8,9,1,1,1,1,2,2,3,3,4]
theorem B2:∀ k,k<18->1<=Eb.getD k 0/\Eb.getD k 0<=9:=by decide
def Ec:List Int:=[1,2,3,4,5,6,7,8,9,9,9,9,9,8,8,7,6,5]
theorem B3:∀ k,k<18->1<=Ec.getD k 0/\Ec.getD k 0<=9:=by decide
theorem Ed{ns:List Int}{i:Nat}(hi:i<ns.length):ns.getD i 0=ns[i]:=by
 rw[ztc,zsl hi];rfl
theorem zd9{ns:List Int}(nd:ns.Nodup){i j:Nat}(hi:i<ns.length)(hj:j<ns.length)(h:ns.getD i 0=ns.getD j 0):i=j:=by
 rw[Ed hi,Ed hj] at h;exact(List.getElem_inj nd).mp h
theorem Q5{ns:List Int}{i:Nat}(hi:i<ns.length):ns.getD i 0∈ns:=by
 rw[Ed hi];exact ztf hi
def Sf(mb:Bool)(s:Zz):Zz:=if mb then s else { s with gaps:=[] }
theorem zfq(h:Sf mb s=Sf mb s'):s.ms=s'.ms/\s.may=s'.may/\s.gv=s'.gv/\(mb=true->s=s'):=by
 unfold Sf at h;cases mb with
 | true=>simp at h;subst h;exact⟨rfl,rfl,rfl,fun _=>rfl⟩
 | false=>simp at h;exact⟨h.1,h.2.1,h.2.2,fun z=>nomatch z⟩
theorem zb2(mb:Bool)(s:Zz):Z5 (Sf mb s)=Z5 s:=by
 unfold Sf;cases mb<;>rfl
structure Sg(mb:Bool)(P:Pg)(S:Sea):Prop where
 len:P.len=S.len
 rest:P.rest=S.rest
 ppl:P.ppl=S.ppl
 out:P.out=S.out
 over:P.over.map (Sf mb)=S.old.map (Sf mb)
 lis:P.lis=S.cur.map (·.ms)
def Jj(S:Sea):zhp:=match S.cur with|some s=>s.gaps|none=>[]
theorem B4(h:S.cur=some s):Jj S=s.gaps:=by unfold Jj;rw[h]
theorem Of(h:S.cur=none):Jj S=[]:=by unfold Jj;rw[h]
structure Rel(mb:Bool)(P:Pg)(S:Sea):Prop where
 b:Sg mb P S
 gv:∀ s,S.cur=some s->P.gv=s.gv
 mv:mb=true->P.mv=Jj S
structure SOk(nu:List Int)(n:Nat)(S:Sea):Prop where
 cur:Cd S
 nd:(S.ppl.map (·.1)).Nodup
 ppl:∀ x∈S.ppl,x.1∈nu/\¬ badI x.1 x.2.1 x.2.2
 few:S.ppl.length<=30
 led:S.led=S.old.map Z5
 old:∀ s∈S.old,s.ms.length<=20/\s.gv.length=s.ms.length/\∀ x∈s.gv,oneV x
 len:S.led.length<=S.len/\S.len<=60/\S.rest<=10
 lt:S.cur≠none->S.led.length<S.len
 num:S.out.length<=n/\S.std.length<=n
 gp:∀ s,S.cur=some s\/s∈S.old->s.gaps.length<=n/\∀ x∈s.gaps,x.2.length<=100
theorem SOk.mono(h:SOk nu n S)(e:n<=m):SOk nu m S:=⟨h.cur,h.nd,h.ppl,h.few,h.led,h.old,h.len,h.lt,⟨zs2 h.num.1 e,zs2 h.num.2 e⟩,fun s hs=>⟨zs2 (h.gp s hs).1 e,(h.gp s hs).2⟩⟩
theorem SOk.pok(h:SOk nu n S):Tn S:=⟨fun x hx=>(h.ppl x hx).2,h.few⟩
theorem SOk.olen(h:SOk nu n S):S.old.length=S.led.length:=by rw[h.led,zsk]
theorem zea:∀ (Rs:List (List Row)),(∀ rs∈Rs,rs.length<=k)->tot Rs<=k*Rs.length
 | [],_=>by simp[tot]
 | rs :: Rs,h=>by
   have h1:=h rs (zte);have h2:=zea Rs fun x hx=>h x (zs4 _ hx);unfold tot at *;simp only[zsx,List.sum_cons,zs8,Nat.mul_succ];omega
theorem SOk.tot(h:SOk nu n S):G.tot S.led<=1200:=by
 have h1:=zea (k:=20) S.led fun rs hrs=>by
  rw[h.led] at hrs;obtain⟨s,hs,rfl⟩:=zsu.mp hrs;have:=h.old s hs;unfold Z5;rw[zuk];omega
 have:=h.len;omega
theorem Sg.rows(r:Sg mb P S):P.over.map Z5=S.old.map Z5:=by
 have e:∀ l:List Zz,l.map Z5=(l.map (Sf mb)).map Z5:=fun l=>by
  rw[zt7];exact zul fun s _=>(zb2 mb s).symm
 rw[e,r.over,<- e]
theorem Sg.olen(r:Sg mb P S):P.over.length=S.old.length:=by
 have:=congrArg List.length r.over
 simpa using this
theorem Sg.ovok(r:Sg mb P S)(o:SOk nu n S):Od P:=by
 have h1:=r.olen;have h2:=o.olen;have h3:=o.len;refine⟨by omega,by rw[r.rest];omega,fun s hs=>?_⟩;have:Sf mb s∈S.old.map (Sf mb):=by rw[<- r.over];exact zsu.mpr ⟨s,hs,rfl⟩
 obtain⟨s',hs',e⟩:=zsu.mp this;obtain⟨e1,e2,e3,_⟩:=zfq e;rw[<- e1,<- e3];exact o.old s' hs'
theorem Sg.may(r:Sg mb P S)(o:SOk nu n S)(ms:List P3):Qd P ms=mayS S ms :=
 zb0 r.ppl (by rw[r.rows,o.led]) r.out r.rest (by unfold atV;rw[r.olen,o.olen]) ms
theorem Sg.at(r:Sg mb P S)(o:SOk nu n S):(P.over.length:Int)+1=atV S:=by unfold atV;rw[r.olen,o.olen]
theorem zb3(F:Yt rows gs)(hn:∀ i:Nat,gs[i]?≠some (V.int n)):Yt (without rows n) gs:=by
 refine⟨by unfold without;rw[zsk];exact F.len,F.one,fun k m h=>?_,F.inj⟩;obtain⟨r,h1,h2⟩:=F.may k m h;refine⟨r.filter fun x=>decide (x≠n),by unfold without;rw[zsr,h1];rfl,ztp.mpr ⟨h2,?_⟩⟩;refine zss fun z=>hn k ?_;rw[h,z]
theorem B5(T:Ve rows gs):Ve (without rows n) gs:=fun p hp=>by
 obtain⟨S,h1,h2⟩:=T p hp;refine⟨S,h1,fun q hq=>⟨by unfold without;rw[zsk];exact(h2 q hq).1,fun r hr m hm=>?_⟩⟩;unfold without at hr;rw[zsr] at hr;obtain⟨r0,e1,rfl⟩:=zuc.mp hr;exact(h2 q hq).2 r0 e1 m (ztp.mp hm).1
theorem zb4(h:atV S<i)(ms:List P3):mayS (Xn S i n) ms=mayS S ms:=by
 unfold mayS;refine zul fun m _=>?_;unfold Iv;have:∀ x:P3,pIn (Xn S i n).out (atV (Xn S i n)) x=pIn S.out (atV S) x:=fun x=>by
  show decide ((atV S,x.1)∈S.out++[(i,n)])=decide ((atV S,x.1)∈S.out);have:((atV S,x.1)∈S.out++[(i,n)])↔((atV S,x.1)∈S.out):=by
   simp only[zsv,zsp,Prod.mk.injEq];constructor
   ·rintro(h|⟨h,_⟩)
    ·exact h
    ·omega
   ·exact .inl
  exact decide_eq_decide.mpr this
 simp only[this];rfl
theorem Cp(o:SOk nu n S)(g:To S D)(af:Wo H' S D S' v)(hb:D≠.back)(hn:∀ k gr c,D=.enrol k gr c->k∈nu):SOk nu (n+1) S'/\((D=.close/\S'.std=[]/\S'.cur=none)\/(D≠.close/\Pl S S')):=by
 obtain⟨n1,n2⟩:=o.num;cases af with
 | enrol k gr c =>
   obtain⟨g1,g2,g3,g4,g5⟩:=g;refine⟨⟨fun s hs=>?_,?_,fun x hx=>?_,?_,o.led,o.old,o.len,fun _=>g1,⟨?_,?_⟩,fun s hs=>⟨zty (o.gp s hs).1,(o.gp s hs).2⟩⟩,.inr ⟨nofun,(("enrol":Str),k,atV S),rfl,.inl ⟨rfl,⟨gr,c,rfl⟩,rfl⟩,rfl,rfl,rfl,rfl⟩⟩
   ·have hs:S.cur=some s:=hs;rw[g2] at hs;cases hs
   ·show (List.map (·.1) (S.ppl++[(k,gr,c)])).Nodup;rw[zsq,List.nodup_append];refine⟨o.nd,by simp,fun x hx y hy=>?_⟩;rw[zsx,List.map_nil,zsp] at hy;subst hy;rintro rfl;exact g4 hx
   ·rcases zsv.mp hx with hx|hx
    ·exact o.ppl x hx
    ·rw[zsp.mp hx];exact⟨hn k gr c rfl,g3⟩
   ·show (S.ppl++[(k,gr,c)]).length<=30;rw[zsn];show S.ppl.length+1<=30;omega
   ·show S.out.length<=n+1;omega
   ·show (S.std++[_]).length<=n+1;rw[zsn];show S.std.length+1<=n+1;omega
 | @awayN i k l h hl =>
   obtain⟨g1,g2,g3,g4⟩:=g;refine⟨⟨fun s hs=>?_,o.nd,o.ppl,o.few,o.led,o.old,o.len,o.lt,⟨?_,?_⟩,fun s hs=>⟨zty (o.gp s hs).1,(o.gp s hs).2⟩⟩,.inr ⟨nofun,(("away":Str),k,i),rfl,.inr (.inl ⟨rfl,rfl,rfl,g4⟩),rfl,rfl,rfl,rfl⟩⟩
   ·have hs:S.cur=some s:=hs;rcases h with h|h
    ·rw[h] at hs;cases hs
    ·obtain⟨c1,c2,c3,c4,c5⟩:=o.cur s hs;refine⟨c1,c2,c3,by rw[zb4 h];exact c4,?_⟩;show s.gaps.length<=(S.std++[_]).length;rw[zsn];omega
   ·show (S.out++[_]).length<=n+1;rw[zsn];show S.out.length+1<=n+1;omega
   ·show (S.std++[_]).length<=n+1;rw[zsn];show S.std.length+1<=n+1;omega
 | @awayF k s l h hp hl =>
   obtain⟨g1,g2,g3,g4⟩:=g;obtain⟨c1,c2,c3,c4,c5⟩:=o.cur s h;refine⟨⟨fun s' hs=>?_,o.nd,o.ppl,o.few,o.led,o.old,o.len,fun _=>o.lt (by rw[h];exact nofun),⟨?_,?_⟩,fun s' hs=>?_⟩,.inr ⟨nofun,(("away":Str),k,atV S),rfl,.inr (.inl ⟨rfl,rfl,rfl,g4⟩),rfl,rfl,rfl,rfl⟩⟩
   ·have hs:some { s with may:=mayS (Xn S (atV S) k) s.ms }=some s':=hs;cases hs;have hno:∀ i:Nat,s.gv[i]?≠some (V.int k):=by
     rcases Dl s.gv k with z|⟨i,z,_⟩
     ·exact z.2
     ·rw[hp] at z;cases z
    refine⟨c1,?_,?_,rfl,?_⟩
    ·show Yt (mayS (Xn S (atV S) k) s.ms) s.gv;rw[Uv,<- c4];exact zb3 c2 hno
    ·show Ve (mayS (Xn S (atV S) k) s.ms) s.gv;rw[Uv,<- c4];exact B5 c3
    ·show s.gaps.length<=(S.std++[_]).length;rw[zsn];omega
   ·show (S.out++[_]).length<=n+1;rw[zsn];show S.out.length+1<=n+1;omega
   ·show (S.std++[_]).length<=n+1;rw[zsn];show S.std.length+1<=n+1;omega
   ·have old:=o.gp s (.inl h);rcases hs with hs|hs
    ·have hs:some { s with may:=mayS (Xn S (atV S) k) s.ms }=some s':=hs;cases hs;exact⟨zty old.1,old.2⟩
    ·have:=o.gp s' (.inr hs);exact⟨zty this.1,this.2⟩
 | @awayC k s p e l us st w h hp hl tl CR =>
   obtain⟨g1,g2,g3,g4⟩:=g;obtain⟨c1,c2,c3,c4,c5⟩:=o.cur s h;refine⟨⟨fun s' hs=>?_,o.nd,o.ppl,o.few,o.led,o.old,o.len,fun _=>o.lt (by rw[h];exact nofun),⟨?_,?_⟩,fun s' hs=>?_⟩,.inr ⟨nofun,(("away":Str),k,atV S),rfl,.inr (.inl ⟨rfl,rfl,rfl,g4⟩),rfl,rfl,rfl,rfl⟩⟩
   ·have hs:some (⟨s.ms,mayS (Xn S (atV S) k) s.ms,Ys st (s.gv.set p .non),s.gaps++[(k,st)]⟩:Zz)=some s':=hs;cases hs;have hx:=Oa hp;rw[Uv,<- c4] at CR;have F0:=Ul c2 hx;have hpl:p<(without s.may k).length:=by
     unfold without;rw[zsk,<- c2.len];exact(zsm.mp hx).1
    refine⟨c1,?_,?_,rfl,?_⟩
    ·show Yt (mayS (Xn S (atV S) k) s.ms) _;rw[Uv,<- c4];exact CR.fill F0 hpl
    ·show Ve (mayS (Xn S (atV S) k) s.ms) _;rw[Uv,<- c4];exact Dq c2 c3 hx CR
    ·show (s.gaps++[_]).length<=(S.std++[_]).length;rw[zsn,zsn];show s.gaps.length+1<=S.std.length+1;omega
   ·show (S.out++[_]).length<=n+1;rw[zsn];show S.out.length+1<=n+1;omega
   ·show (S.std++[_]).length<=n+1;rw[zsn];show S.std.length+1<=n+1;omega
   ·have old:=o.gp s (.inl h);rcases hs with hs|hs
    ·have hs:some (⟨s.ms,mayS (Xn S (atV S) k) s.ms,Ys st (s.gv.set p .non),s.gaps++[(k,st)]⟩:Zz)=some s':=hs;cases hs;have hx:=Oa hp;rw[Uv,<- c4] at CR;have hpl:p<(without s.may k).length:=by
      unfold without;rw[zsk,<- c2.len];exact(zsm.mp hx).1
     have hcl:=CR.len (Ul c2 hx) hpl;have hwl:(without s.may k).length=s.may.length:=by unfold without;rw[zsk]
     have hml:s.may.length=s.ms.length:=by rw[c4];unfold mayS;rw[zsk]
     refine⟨by show (s.gaps++[_]).length<=n+1;rw[zsn];show s.gaps.length+1<=n+1;omega,fun x hx'=>?_⟩;rcases zsv.mp hx' with z|z
     ·exact old.2 x z
     ·rw[zsp.mp z];show st.length<=100;omega
    ·have:=o.gp s' (.inr hs);exact⟨zty this.1,this.2⟩
 | @draw ms gv l hl F T =>
   obtain⟨g1,g2,g3,g4,g5⟩:=g;refine⟨⟨fun s' hs=>?_,o.nd,o.ppl,o.few,o.led,o.old,o.len,fun _=>g1,⟨?_,?_⟩,fun s' hs=>?_⟩,.inr ⟨nofun,(("draw up":Str),(ms.length:Int),atV S),rfl,.inr (.inr ⟨rfl,rfl,rfl⟩),rfl,rfl,rfl,rfl⟩⟩
   ·have hs:some (⟨ms,mayS S ms,gv,[]⟩:Zz)=some s':=hs;cases hs;exact⟨g3,F,T,rfl,zs9 _⟩
   ·show S.out.length<=n+1;omega
   ·show (S.std++[_]).length<=n+1;rw[zsn];show S.std.length+1<=n+1;omega
   ·rcases hs with hs|hs
    ·have hs:some (⟨ms,mayS S ms,gv,[]⟩:Zz)=some s':=hs;cases hs;exact⟨zs9 _,nofun⟩
    ·have:=o.gp s' (.inr hs);exact⟨zty this.1,this.2⟩
 | @close s h =>
   obtain⟨g1,g2⟩:=g;obtain⟨c1,c2,c3,c4,c5⟩:=o.cur s h;refine⟨⟨fun s' hs=>(by cases hs),o.nd,o.ppl,o.few,?_,fun x hx=>?_,⟨?_,o.len.2⟩,fun z=>absurd rfl z,⟨?_,zs9 _⟩,fun s' hs=>?_⟩,.inl ⟨rfl,rfl,rfl⟩⟩
   ·show S.led++[Z5 s]=List.map Z5 (S.old++[s]);rw[zsq,o.led];rfl
   ·rcases zsv.mp hx with hx|hx
    ·exact o.old x hx
    ·rw[zsp.mp hx];refine⟨c1,?_,c2.one⟩;rw[c2.len,c4];unfold mayS;rw[zsk]
   ·show (S.led++[_]).length<=S.len;rw[zsn];exact g1
   ·show S.out.length<=n+1;omega
   ·rcases hs with hs|hs
    ·cases hs
    ·have hs:s'∈S.old++[s]:=hs;rcases zsv.mp hs with z|z
     ·have:=o.gp s' (.inr z);exact⟨zty this.1,this.2⟩
     ·rw[zsp.mp z];have:=o.gp s (.inl h);exact⟨zty this.1,this.2⟩
 | back h ht hs=>exact absurd rfl hb
theorem G7(r:Rel mb P S)(o:SOk nu n S)(g:To S D)(af:Wo H' S D S' v)(hb:D≠.back):Sg mb (Ws P D) S':=by
 obtain⟨⟨r1,r2,r3,r4,r5,r6⟩,rg,rm⟩:=id r;cases af with
 | enrol k gr c=>exact⟨r1,r2,by show P.ppl++_=S.ppl++_;rw[r3],r4,r5,r6⟩
 | @awayN i k l h hl=>exact⟨r1,r2,r3,by show P.out++_=S.out++_;rw[r4],r5,r6⟩
 | @awayF k s l h hp hl=>exact⟨r1,r2,r3,by show P.out++_=S.out++_;rw[r4],r5,by show P.lis=_;rw[r6,h];rfl⟩
 | @awayC k s p e l us st w h hp hl tl CR=>exact⟨r1,r2,r3,by show P.out++_=S.out++_;rw[r4],r5,by show P.lis=_;rw[r6,h];rfl⟩
 | @draw ms gv l hl F T=>exact⟨r1,r2,r3,r4,r5,rfl⟩
 | @close s h =>
   have hl:P.lis=some s.ms:=by rw[r6,h];rfl
   refine⟨r1,r2,r3,r4,?_,rfl⟩;show List.map (Sf mb) (P.over++[⟨P.lis.getD [],Qd P (P.lis.getD []),P.gv,P.mv⟩])=List.map (Sf mb) (S.old++[s]);rw[zsq,zsq,r5,hl]
   congr 1
   have e1:=(o.cur s h).2.2.2.1;have e2:=r.b.may o s.ms;have e3:=rg s h;unfold Sf;cases mb with
   | true =>
     have e4:P.mv=s.gaps:=by rw[rm rfl,B4 h]
     show [(⟨s.ms,Qd P s.ms,P.gv,P.mv⟩:Zz)]=[s];rw[e2,e3,e4,<- e1]
   | false =>
     show [(⟨s.ms,Qd P s.ms,P.gv,[]⟩:Zz)]=[(⟨s.ms,s.may,s.gv,[]⟩:Zz)];rw[e2,e3,<- e1]
 | back h ht hs=>exact absurd rfl hb
theorem zb5(h1:Pl S1 S)(h2:Pl S2 S):S1=S2:=by
 obtain⟨d1,a1,a2,a3,a4,a5,a6⟩:=h1;obtain⟨d2,b1,b2,b3,b4,b5,b6⟩:=h2;have e:=a1.symm.trans b1;obtain⟨e1,e2⟩:=List.append_inj' e rfl;have e3:=List.cons.inj e2;obtain⟨e4,e5⟩:=Prod.mk.inj e3.1;subst e4;have w1:("enrol":Str)≠"away":=by decide +kernel
 have w2:("enrol":Str)≠"draw up":=by decide +kernel
 have w3:("away":Str)≠"draw up":=by decide +kernel
 have e6:S1.ppl=S2.ppl/\S1.out=S2.out:=by
  rcases a2 with ⟨x1,⟨g,c,x2⟩,x3⟩|⟨x1,x2,x3,_⟩|⟨x1,x2,x3⟩<;>rcases b2 with ⟨y1,⟨g',c',y2⟩,y3⟩|⟨y1,y2,y3,_⟩|⟨y1,y2,y3⟩
  ·exact⟨(List.append_inj' (x2.symm.trans y2) rfl).1,x3.trans y3.symm⟩
  ·exact absurd (x1.symm.trans y1) w1
  ·exact absurd (x1.symm.trans y1) w2
  ·exact absurd (y1.symm.trans x1) w1
  ·exact⟨x2.trans y2.symm,(List.append_inj' (x3.symm.trans y3) rfl).1⟩
  ·exact absurd (x1.symm.trans y1) w3
  ·exact absurd (y1.symm.trans x1) w2
  ·exact absurd (y1.symm.trans x1) w3
  ·exact⟨x2.trans y2.symm,x3.trans y3.symm⟩
 obtain⟨l1,q1,p1,d1',o1,ol1,c1,s1⟩:=S1;obtain⟨l2,q2,p2,d2',o2,ol2,c2,s2⟩:=S2;simp only at *;obtain⟨e7,e8⟩:=e6;subst e1 e5 e7 e8;rw[<- a3,<- b3,<- a4,<- b4,<- a5,<- b5,<- a6,<- b6]
structure FrN(A A':SAd)(H H':Hp):Prop where
 p:A'.p=A.p
 k:∀ b o,H b=some o->b∉A.fp->H' b=some o/\b∉A'.fp
 kt:∀ t xs,H t=some (.tup xs)->H' t=some (.tup xs)
theorem FrN.refl(A:SAd)(H:Hp):FrN A A H H:=⟨rfl,fun b o e n=>⟨e,n⟩,fun _ _ e=>e⟩
theorem FrN.of(e:Same H H'):FrN A A H H':=⟨rfl,fun b o z n=>⟨e _ _ z,n⟩,fun _ _ z=>e _ _ z⟩
theorem FrN.trans(h1:FrN A A1 H H1)(h2:FrN A1 A2 H1 H2):FrN A A2 H H2:=⟨h2.p.trans h1.p,fun b o e n=>by
 obtain⟨a1,a2⟩:=h1.k b o e n;exact h2.k b o a1 a2,fun t xs e=>h2.kt _ _ (h1.kt _ _ e)⟩
theorem Nd.out(nx:Nd A A' H)(e:H b=some o)(n:b∉A.fp):b∉A'.fp:=by
 obtain⟨x,rfl,hx⟩:=nx;simp only[SAd.fp,zso,zto,or_false] at n ⊢;rcases hx with rfl|hx
 ·exact n
 ·have:b≠x:=Zg e hx;rintro(z|z|z|z|z|z|z)
  ·exact n (.inl z)
  ·exact n (.inr (.inl z))
  ·exact n (.inr (.inr (.inl z)))
  ·exact n (.inr (.inr (.inr (.inl z))))
  ·exact n (.inr (.inr (.inr (.inr (.inl z)))))
  ·exact n (.inr (.inr (.inr (.inr (.inr (.inl z))))))
  ·exact this z
theorem FrN.next(SA:Zv ca H A S)(nx:Nd A A' H)(f:FrS A H H'):FrN A A' H H':=⟨by obtain⟨x,rfl,_⟩:=nx;rfl,fun b o e n=>⟨f b o e n,nx.out e n⟩,SA.tups f⟩
def Sh(K:Frag)(A:SAd)(H:Hp)(b:Addr)(xs:List V):Prop:=(Rd H b (.lst xs)/\b∉A.fp)\/∀ H',SqL K H' b xs
theorem Sh.sq{K:Frag}{A:SAd}{H:Hp}{b:Addr}{xs:List V}(h:Sh K A H b xs):SqL K H b xs:=by
 rcases h with h|h
 ·exact .inl h.1
 ·exact h H
theorem Sh.fr{K:Frag}{A A':SAd}{H H':Hp}{b:Addr}{xs:List V}(f:FrN A A' H H')(h:Sh K A H b xs):Sh K A' H' b xs:=by
 rcases h with ⟨h,n⟩|h
 ·rcases h with h|⟨o,h⟩
  ·exact .inl ⟨.inl (f.k _ _ h n).1,(f.k _ _ h n).2⟩
  ·exact .inl ⟨.inr ⟨o,(f.k _ _ h n).1⟩,(f.k _ _ h n).2⟩
 ·exact .inr h
theorem Sh.make{K:Frag}{H:Hp}{b:Addr}{xs:List V}(h:SqL K H b xs)(A:SAd)(H':Hp)(s:Same H H')(hf:∀ x∈A.fp,H x=none):Sh K A H' b xs:=by
 rcases h with h|h
 ·have hn:b∉A.fp:=fun z=>by
   have:=hf b z;rcases h with h|⟨o,h⟩<;>(rw[this] at h;cases h)
  rcases h with h|⟨o,h⟩
  ·exact .inl ⟨.inl (s _ _ h),hn⟩
  ·exact .inl ⟨.inr ⟨o,s _ _ h⟩,hn⟩
 ·exact .inr fun _=>.inr h
structure Nf(A:SAd)(H:Hp)(t lc ln:Addr)(cs nu:List Int):Prop where
 at_:Oc H t lc ln cs nu
 o:t∉A.fp/\lc∉A.fp/\ln∉A.fp
theorem Nf.fr{A A':SAd}{H H':Hp}{t lc ln:Addr}{cs nu:List Int}(f:FrN A A' H H')(h:Nf A H t lc ln cs nu):Nf A' H' t lc ln cs nu:=by
 obtain⟨⟨a1,a2,a3,a4,a5,a6,a7,a8,a9⟩,o1,o2,o3⟩:=h;exact⟨⟨(f.k _ _ a1 o1).1,(f.k _ _ a2 o2).1,(f.k _ _ a3 o3).1,a4,a5,a6,a7,a8,a9⟩,(f.k _ _ a1 o1).2,(f.k _ _ a2 o2).2,(f.k _ _ a3 o3).2⟩
inductive Bk(mb:Bool)(ok:Addr->Prop)(H:Hp)(nu:List Int)(n:Nat):List Addr->Sea->Prop where
 | one {d:Addr} {P:Pg} {S:Sea} (h:PgAt ok H d P) (r:Rel mb P S) (o:SOk nu n S) (e:S.std=[]):Bk mb ok H nu n [d] S
 | snoc {ds:List Addr} {d:Addr} {P:Pg} {S S':Sea} (b:Bk mb ok H nu n ds S) (nd:d∉ds) (h:PgAt ok H d P) (r:Rel mb P S') (o:SOk nu n S') (st:Pl S S') (hd:∃ x,P.deed=some x/\S'.std=S.std++[(x,S.cur)]):Bk mb ok H nu n (ds++[d]) S'
section
variable{mb:Bool}{ok ok':Addr->Prop}{H H':Hp}{nu:List Int}{n m:Nat}{ds:List Addr}{d:Addr}{P:Pg}{S S':Sea}
theorem Bk.keep(b:Bk mb ok H nu n ds S)(k:∀ x o,ok x->H x=some o->H' x=some o)(kt:∀ t xs,H t=some (.tup xs)->H' t=some (.tup xs)):Bk mb ok H' nu n ds S:=by
 induction b with
 | one h r o e=>exact .one (h.keep k kt) r o e
 | snoc b nd h r o st hd ih=>exact .snoc ih nd (h.keep k kt) r o st hd
theorem Bk.imp(b:Bk mb ok H nu n ds S)(k:∀ x,(∃ o,H x=some o)->ok x->ok' x):Bk mb ok' H nu n ds S:=by
 induction b with
 | one h r o e=>exact .one (h.imp k) r o e
 | snoc b nd h r o st hd ih=>exact .snoc ih nd (h.imp k) r o st hd
theorem Bk.mono(b:Bk mb ok H nu n ds S)(e:n<=m):Bk mb ok H nu m ds S:=by
 induction b with
 | one h r o e'=>exact .one h r (o.mono e) e'
 | snoc b nd h r o st hd ih=>exact .snoc ih nd h r (o.mono e) st hd
theorem Bk.there(b:Bk mb ok H nu n ds S):∀ d∈ds,∃ kvs,H d=some (.dK kvs):=by
 induction b with
 | one h r o e =>
   intro d hd;rw[zsp.mp hd];obtain⟨_,_,_,_,_,_,_,a,_⟩:=h.split;exact⟨_,a⟩
 | snoc b nd h r o st hd ih =>
   intro d' hd';rcases zsv.mp hd' with z|z
   ·exact ih d' z
   ·rw[zsp.mp z];obtain⟨_,_,_,_,_,_,_,a,_⟩:=h.split;exact⟨_,a⟩
structure zeb(mb:Bool)(ok:Addr->Prop)(H:Hp)(nu:List Int)(n:Nat)(ds:List Addr)(d:Addr)(dd:Option Sd)(S:Sea):Prop where
 nd:d∉ds
 ex:(ds=[]/\S.std=[])\/∃ S0,Bk mb ok H nu n ds S0/\Pl S0 S/\∃ x,dd=some x/\S.std=S0.std++[(x,S0.cur)]
structure zfr(mb:Bool)(ok:Addr->Prop)(H:Hp)(nu:List Int)(n:Nat)(ds:List Addr)(d:Addr)(P:Pg)(S:Sea):Prop where
 pg:PgAt ok H d P
 rb:Sg mb P S
 so:SOk nu n S
 tl:zeb mb ok H nu n ds d P.deed S
structure Si(mb:Bool)(ok:Addr->Prop)(H:Hp)(nu:List Int)(n:Nat)(ds:List Addr)(d:Addr)(P:Pg)(S:Sea):Prop where
 pg:PgAt ok H d P
 re:Rel mb P S
 so:SOk nu n S
 tl:zeb mb ok H nu n ds d P.deed S
theorem Si.pend(h:Si mb ok H nu n ds d P S):zfr mb ok H nu n ds d P S:=⟨h.pg,h.re.b,h.so,h.tl⟩
theorem Si.bk(h:Si mb ok H nu n ds d P S):Bk mb ok H nu n (ds++[d]) S:=by
 obtain⟨nd,⟨rfl,e⟩|⟨S0,b,st,hd⟩⟩:=h.tl
 ·exact .one h.pg h.re h.so e
 ·exact .snoc b nd h.pg h.re h.so st hd
theorem Bk.full(b:Bk mb ok H nu n xs S):∃ ds d P,xs=ds++[d]/\Si mb ok H nu n ds d P S:=by
 cases b with
 | one h r o e=>exact⟨[],_,_,rfl,h,r,o,nofun,.inl ⟨rfl,e⟩⟩
 | snoc b nd h r o st hd=>exact⟨_,_,_,rfl,h,r,o,nd,.inr ⟨_,b,st,hd⟩⟩
theorem zeb.keep(h:zeb mb ok H nu n ds d dd S)(k:∀ x o,ok x->H x=some o->H' x=some o)(kt:∀ t xs,H t=some (.tup xs)->H' t=some (.tup xs)):zeb mb ok H' nu n ds d dd S:=by
 obtain⟨nd,e|⟨S0,b,r⟩⟩:=h
 ·exact⟨nd,.inl e⟩
 ·exact⟨nd,.inr ⟨S0,b.keep k kt,r⟩⟩
theorem Si.same(h:Si mb ok H nu n ds d P S)(e:Same H H'):Si mb ok H' nu n ds d P S:=⟨h.pg.same e,h.re,h.so,h.tl.keep (fun _ _ _ q=>e _ _ q) fun _ _ q=>e _ _ q⟩
theorem zfr.full(h:zfr mb ok H nu n ds d P S)(hg:∀ s,S.cur=some s->P.gv=s.gv)(hm:mb=true->P.mv=Jj S):Si mb ok H nu n ds d P S:=⟨h.pg,⟨h.rb,hg,hm⟩,h.so,h.tl⟩
end
theorem zec(r:Sg mb P S)(o:SOk nu n S)(af:Wo H' S D S' v)(hb:D≠.back)(hc:D≠.close):∃ x,(Ws P D).deed=some x/\S'.std=S.std++[(x,S.cur)]:=by
 have e:=r.at o;cases af with
 | enrol k gr c=>exact⟨_,rfl,by rw[e]⟩
 | awayN h hl=>exact⟨_,rfl,rfl⟩
 | awayF h hp hl=>exact⟨_,rfl,rfl⟩
 | awayC h hp hl tl CR=>exact⟨_,rfl,rfl⟩
 | draw hl F T=>exact⟨_,rfl,by rw[e];rfl⟩
 | close h=>exact absurd rfl hc
 | back h ht hs=>exact absurd rfl hb
theorem turn(F:Si mb (·∉A.fp) H nu n ds d P S)(SA:Zv ca H A S)(af:Wo H1 S D S' v)(SA1:Zv ca H1 A' S')(nx:Nd A A' H)(fr:FrS A H H1)(g:To S D)(hn:∀ k gr c,D=.enrol k gr c->k∈nu)
  (pg:D≠.back->PgAt (fun x=>x∉A'.fp\/H1 x=none) H2 d' (Ws P D)) (s2:Same H1 H2) (fd:H1 d'=none) :
  ∃ ds2 d2 P2,F8 ds d d' D=ds2++[d2]/\zfr mb (·∉A'.fp) H2 nu (n+1) ds2 d2 P2 S'/\(D≠.back->P2=Ws P D)/\(D=.back\/D=.close->(∀ s,S'.cur=some s->P2.gv=s.gv)/\(mb=true->P2.mv=Jj S')):=by
 have mv:∀ {xs:List Addr} {S0:Sea},Bk mb (·∉A.fp) H nu n xs S0->Bk mb (·∉A'.fp) H2 nu (n+1) xs S0:=fun b=>by
  have b1:=b.imp (ok':=fun x=>x∉A.fp/\x∉A'.fp) fun x ⟨o,e⟩ z=>⟨z,nx.out e z⟩
  have b2:=b1.keep (H':=H2) (fun x o z e=>s2 _ _ (fr x o e z.1)) fun t xs e=>s2 _ _ (SA.tups fr t xs e);exact(b2.imp fun x _ z=>z.2).mono (Nat.le_succ n)
 have hd1:∀ x∈ds++[d],x≠d':=fun x hx z=>by
  have b1:=F.bk.imp (ok':=fun x=>x∉A.fp/\x∉A'.fp) fun x ⟨o,e⟩ z=>⟨z,nx.out e z⟩
  have b2:=b1.keep (H':=H1) (fun x o z e=>fr x o e z.1) fun t xs e=>SA.tups fr t xs e;obtain⟨kvs,e⟩:=b2.there x hx;rw[z,fd] at e;cases e
 by_cases hb:D=.back
 ·subst hb;cases af with
  | @back S0' dd t h ht hs =>
    obtain⟨nd,⟨_,e⟩|⟨S0,b,st,_⟩⟩:=F.tl
    ·exact absurd e g
    ·have es:=zb5 hs st;subst es;obtain⟨ds2,d2,P2,e,F2⟩:=(mv b).full;exact⟨ds2,d2,P2,e,F2.pend,fun z=>absurd rfl z,fun _=>⟨F2.re.gv,F2.re.mv⟩⟩
 ·have pg':PgAt (·∉A'.fp) H2 d' (Ws P D):=(pg hb).imp fun x hx z=>by
   rcases z with z|z
   ·exact z
   ·exact SA1.newOk x z
  obtain⟨o',ho⟩:=Cp F.so g af hb hn;have rb:=G7 F.re F.so g af hb;rcases ho with ⟨rfl,e1,e2⟩|⟨hc,st⟩
  ·exact⟨[],d',_,rfl,⟨pg',rb,o',nofun,.inl ⟨rfl,e1⟩⟩,fun _=>rfl,fun _=>⟨fun s hs=>(by rw[e2] at hs;cases hs),fun _=>(by rw[Of e2];rfl)⟩⟩
  ·have hk:F8 ds d d' D=(ds++[d])++[d']:=by
    cases D with
    | back=>exact absurd rfl hb
    | close=>exact absurd rfl hc
    | enrol _ _ _=>rfl
    | away _ _=>rfl
    | draw _=>rfl
   refine⟨ds++[d],d',_,hk,⟨pg',rb,o',fun z=>hd1 d' z rfl,.inr ⟨S,mv F.bk,st,zec F.re.b F.so af hb hc⟩⟩,fun _=>rfl,?_⟩;rintro(z|z)
   ·exact absurd z hb
   ·exact absurd z hc
section
variable{mb:Bool}{ok ok':Addr->Prop}{A A':SAd}{H H':Hp}{nu:List Int}{n m:Nat}{ds:List Addr}{d:Addr}{P:Pg}{S S':Sea}{D:Ux}
theorem PgAt.fr(f:FrN A A' H H')(h:PgAt (·∉A.fp) H d P):PgAt (·∉A'.fp) H' d P:=by
 have b1:=h.imp (ok':=fun x=>x∉A.fp/\x∉A'.fp) fun x ⟨o,e⟩ z=>⟨z,(f.k x o e z).2⟩
 have b2:=b1.keep (H':=H') (fun x o z e=>(f.k x o e z.1).1) f.kt;exact b2.imp fun x _ z=>z.2
theorem X2.fr(f:FrN A A' H H')(h:X2 (·∉A.fp) H t D):X2 (·∉A'.fp) H' t D:=by
 cases D with
 | enrol a b c=>exact f.kt _ _ h
 | away a b=>exact f.kt _ _ h
 | draw ms =>
   obtain⟨l,ts,a1,a2,a3,a4⟩:=h;exact⟨l,ts,f.kt _ _ a1,(f.k _ _ a2 a4).1,a3.mono f.kt,(f.k _ _ a2 a4).2⟩
 | close=>exact f.kt _ _ h
 | back=>exact f.kt _ _ h
theorem X2.same(e:Same H H')(h:X2 ok H t D):X2 ok H' t D:=by
 cases D with
 | enrol a b c=>exact e _ _ h
 | away a b=>exact e _ _ h
 | draw ms =>
   obtain⟨l,ts,a1,a2,a3,a4⟩:=h;exact⟨l,ts,e _ _ a1,e _ _ a2,a3.mono fun _ _ z=>e _ _ z,a4⟩
 | close=>exact e _ _ h
 | back=>exact e _ _ h
theorem X2.imp(k:∀ x,ok x->ok' x)(h:X2 ok H t D):X2 ok' H t D:=by
 cases D with
 | enrol a b c=>exact h
 | away a b=>exact h
 | draw ms =>
   obtain⟨l,ts,a1,a2,a3,a4⟩:=h;exact⟨l,ts,a1,a2,a3,k _ a4⟩
 | close=>exact h
 | back=>exact h
theorem Bk.len(b:Bk mb ok H nu n ds S):ds.length=S.std.length+1:=by
 induction b with
 | one h r o e=>rw[e];rfl
 | snoc b nd h r o st hd ih =>
   obtain⟨x,_,e⟩:=hd;rw[e,zsn,zsn,ih];rfl
theorem Si.len(F:Si mb ok H nu n ds d P S):ds.length=S.std.length:=by
 have:=F.bk.len;rw[zsn] at this;have h1:[d].length=1:=rfl;omega
theorem Si.pre(F:Si mb ok H nu n ds d P S)(g:To S D)(hn:n<100):Cd S/\Tn S/\S.std.length<100/\S.out.length<=100000/\2*(tot S.led+1000)<=100000/\S.led.length<=1000/\S.old.length<=1000/\S.len<=1000/\(∀ i k,D=.away i k->Yr k)/\(D=.back->∃ S0,Pl S0 S):=by
 have h1:=F.so.num;have h2:=F.so.len;have h3:=F.so.olen;have h4:=F.so.tot;refine⟨F.so.cur,F.so.pok,by omega,by omega,by omega,by omega,by omega,by omega,?_,?_⟩
 ·rintro i k rfl;obtain⟨_,_,g3,_⟩:=g;obtain⟨x,hx,rfl⟩:=zsu.mp g3;exact F.so.pok.small x hx
 ·rintro rfl;obtain⟨nd,⟨_,e⟩|⟨S0,b,st,_⟩⟩:=F.tl
  ·exact absurd e g
  ·exact⟨S0,st⟩
theorem Si.pre2(F:Si mb ok H nu n ds d P S)(g:To S D)(hn:n<100):Od P/\P.ppl.length<=100/\P.out.length<=900/\ds.length<=900/\(D=.close->∃ ms,P.lis=some ms/\ms.length<=100):=by
 have h1:=F.so.num;have h2:=F.len;have h3:=F.so.few;refine⟨F.re.b.ovok F.so,by rw[F.re.b.ppl];omega,by rw[F.re.b.out];omega,by omega,?_⟩;rintro rfl;obtain⟨_,g2⟩:=g;cases e:S.cur with
 | none=>exact absurd e g2
 | some s=>exact⟨s.ms,by rw[F.re.b.lis,e];rfl,zs2 (F.so.cur s e).1 ⋯⟩
end
inductive Jk(K:Frag)(ca:CA)(vs:List V)(H:Hp)(Q:VK)(_:XK):Prop where
 | mk(mb:Bool)(A:SAd)(l le:Addr)(ts:List V)(es:List P3)(ds:List Addr)(d:Addr)(P:Pg)(S:Sea)(nu:List Int)(n:Nat)(_:vs=[.ref A.p,.ref l,.ref le])(_:Zv ca H A S)(_:H l=some (.lst ((ds++[d]).map V.ref)))(_:l∉A.fp)(_:Si mb (·∉A.fp) H nu n ds d P S)(_:H le=some (.lst ts))(_:le∉A.fp)(_:Yb H ts (es.map enV))(_:(es.map (·.1)).Nodup)(_:(∀ x∈es,x.1∈nu/\¬ badI x.1 x.2.1 x.2.2/\x.1∉S.ppl.map (·.1)))(_:S.ppl.length+es.length<=30)(_:n+es.length<=90)(_:S.cur=none)(_:S.led.length<S.len)(_:∀ A' l' ds' d' P' S' H',Zv ca H' A' S'->H' l'=some (.lst ((ds'++[d']).map V.ref))->l'∉A'.fp->Si mb (·∉A'.fp) H' nu (n+es.length) ds' d' P' S'->FrN A A' H H'->S'.cur=none->S'.led=S.led->S'.len=S.len->Q (.ref l') H')
theorem B6(pg:PgAt ok H d (Bz r q))(hr:r<=60)(hq:q<=10):Si mb ok H nu n [] d (Bz r q) (zdz r q) :=
 ⟨pg,⟨⟨rfl,rfl,rfl,rfl,rfl,rfl⟩,nofun,fun _=>rfl⟩,⟨nofun,.nil,nofun,zs9 _,rfl,nofun,⟨zs9 _,hr,hq⟩,fun z=>absurd rfl z,⟨zs9 _,zs9 _⟩,fun s hs=>(by rcases hs with z|z<;>cases z)⟩,nofun,.inl ⟨rfl,rfl⟩⟩
theorem zb6(S:Sea):Vh S (atV S)=S.cur:=by
 unfold Vh atV;rw[if_neg ⋯,if_neg ⋯]
theorem zed(o:SOk nu n S)(h:S.cur=some s)(hk:k s):zak ca H S (atV S) E k:=by
 have h1:=o.len;have h2:=o.lt (by rw[h];exact nofun);have h3:atV S=(S.led.length:Int)+1:=rfl;refine⟨Z7 ⋯ ⋯,o.olen,?_⟩;rw[if_neg ⋯,zb6];exact⟨fun z=>(by rw[h] at z;cases z),fun s' hs=>(by rw[h] at hs;cases hs;exact hk)⟩
def Jl(H H':Hp):Prop:=Xg H H'/\∀ x c e f,H x=some (.ins c e f)->H' x=some (.ins c e f)
theorem Jl.dict(h:H d=some (.dK kvs)):Jl H (upd H d (.dK kvs')) :=
 ⟨.dict h,fun x c e f z=>by rw[Zh (Yp z h (by intro z;cases z))];exact z⟩
theorem ShAt.keepI(k:Jl H H')(h:ShAt C ok H q s):ShAt C ok H' q s:=by
 obtain⟨dx,l1,l2,l3,l4,ts,ls,gts,a1,a2,a3,a4,a5,a6,a7,a8,o1,o2,o3,o4,o5,o6⟩:=h;exact⟨dx,l1,l2,l3,l4,ts,ls,gts,k.2 _ _ _ _ a1,k.1.1 _ _ a2,a3.mono k.1.2,k.1.1 _ _ a4,ILs.keepL k.1 a5,k.1.1 _ _ a6,k.1.1 _ _ a7,a8.keepL k.1,o1,o2,o3,o4,o5,o6⟩
theorem ShO.keepI(k:Jl H H')(h:ShO C ok H v s):ShO C ok H' v s:=by
 cases s with
 | none=>exact h
 | some s=>obtain⟨q,e,h⟩:=h;exact⟨q,e,h.keepI k⟩
theorem ShL.keepI(k:Jl H H'):∀ {vs:List V} {ss:List Zz},ShL C ok H vs ss->ShL C ok H' vs ss
 | _,_,.nil=>.nil
 | _,_,.cons h r=>.cons (h.keepI k) (ShL.keepI k r)
theorem Ub.keepI(k:Jl H H'):∀ {vs:List V} {ss:List (Sd×Option Zz)},Ub C ok H vs ss->Ub C ok H' vs ss
 | _,_,.nil=>.nil
 | _,_,.cons h hu hs r=>.cons (k.1.2 _ _ h) (k.1.2 _ _ hu) (hs.keepI k) (Ub.keepI k r)
theorem Zv.dictW(h:Zv ca H A S)(hd:H d=some (.dK kvs))(n:d∉A.fp):Zv ca (upd H d (.dK kvs')) A S:=by
 have k:=Jl.dict hd (kvs':=kvs');have hn:∀ x∈A.fp,∀ o,H x=some o->upd H d (.dK kvs') x=some o:=fun x hx o e=>by rw[Zh (fun z=>n (by rw[<- z];exact hx))];exact e
 obtain⟨⟨dx,v,a1,a2⟩,b,c,⟨kvs0,d1,d2⟩,⟨vs,f1,f2⟩,⟨us,g1,g2⟩,nd,np⟩:=h;have hp:A.p∈A.fp:=by simp[SAd.fp]
 have hdr:A.dr∈A.fp:=by simp[SAd.fp]
 have hlr:A.lr∈A.fp:=by simp[SAd.fp]
 have hld:A.ld∈A.fp:=by simp[SAd.fp]
 have hda:A.da∈A.fp:=by simp[SAd.fp]
 have hls:A.ls∈A.fp:=by simp[SAd.fp]
 have hlt:A.lt∈A.fp:=by simp[SAd.fp]
 obtain⟨⟨dxr,kvr,r1,r2,r3⟩,ndr⟩:=b;obtain⟨⟨dxl,l1⟩,l2,l3⟩:=id c;refine⟨⟨dx,v,hn _ hp _ a1,a2.keepI k⟩,⟨⟨dxr,kvr,k.2 _ _ _ _ r1,hn _ hdr _ r2,r3.mono k.1.2⟩,ndr⟩,c.keep (fun o e=>?_) (hn _ hlr) (hn _ hld) k.1.2,⟨kvs0,hn _ hda _ d1,d2⟩,⟨vs,hn _ hls _ f1,f2.keepI k⟩,⟨us,hn _ hlt _ g1,g2.keepI k⟩,nd,np⟩;rw[l1] at e;cases e;exact k.2 _ _ _ _ l1
theorem FrN.dictW{A:SAd}{H:Hp}{d:Addr}{kvs kvs':List (Key×V)}(hd:H d=some (.dK kvs)){b:Addr}{o:HO}(e:H b=some o)(h:∀ k,o≠.dK k):upd H d (.dK kvs') b=some o:=by
 rw[Zh (Yp e hd (by intro z;exact h _ z))];exact e
theorem Sh.dictW{K:Frag}{A:SAd}{H:Hp}{d b:Addr}{kvs kvs':List (Key×V)}{xs:List V}(h:Sh K A H b xs)(hd:H d=some (.dK kvs)):Sh K A (upd H d (.dK kvs')) b xs:=by
 rcases h with ⟨h|⟨o,h⟩,n⟩|h
 ·exact .inl ⟨.inl (FrN.dictW (A:=A) hd h (by intro k z;cases z)),n⟩
 ·exact .inl ⟨.inr ⟨o,FrN.dictW (A:=A) hd h (by intro k z;cases z)⟩,n⟩
 ·exact .inr h
theorem Nf.dictW{A:SAd}{H:Hp}{d t lc ln:Addr}{cs nu:List Int}{kvs kvs':List (Key×V)}(h:Nf A H t lc ln cs nu)(hd:H d=some (.dK kvs)):Nf A (upd H d (.dK kvs')) t lc ln cs nu:=by
 have k:=Xg.dict hd (kvs':=kvs');obtain⟨⟨a1,a2,a3,a4,a5,a6,a7,a8,a9⟩,o⟩:=h;exact⟨⟨k.2 _ _ a1,k.1 _ _ a2,k.1 _ _ a3,a4,a5,a6,a7,a8,a9⟩,o⟩
end G
namespace L2
open PySem PySem.Spec PyProof.Rows
theorem fnS(a:sc.kind=.function:=by rfl)(b:sc.isCoroutine=false:=by rfl)(c:sc.isGenerator=false:=by rfl)(d:N.Nodup:=by decide +kernel)(e:N.take P.length=P:=by rfl)(f:∀ x∈P,sc.names.lookup x=some .local\/sc.names.lookup x=some .cell:=by decide +kernel)(g:∀ y∈sc.names,y.2≠.free:=by decide +kernel):Zl N P sc:=⟨a,b,c,d,e,f,g⟩
section
variable{X:Cx}{k j:Nat}{C:Addr}{ps:List Str}{sp:Sp}{E:XK}{x m:Str}{p pos pos' apos:Pos}{e o a b:Expr}{es:List Expr}{ta tb te:TE}{t:TA}{r:R2}
theorem pS(i:Nat)(hN:X.N.Nodup)(he:PE X e te)(hi:X.N[i]?=some x:=by rfl)(hx:Loc X.env.scope x:=by first|exact Or.inl rfl|exact Or.inr rfl)(hs:swapsWith e (some (.Name x pos')) pos.line X.env=pure false:=by rfl)(hf:C2 X i x:=by first|exact⟨.inl rfl,Wd⟩|exact⟨.inr rfl,Wd⟩|assumption|exact⟨.inl rfl,by assumption⟩|exact⟨.inr rfl,by assumption⟩) :
  PS X (.Assign [.Name x pos'] e pos) (zau te (Vb i)):=zgj hN hi hx he hs hf
theorem pN(i:Nat)(hN:X.N.Nodup)(hi:X.N[i]?=some x:=by rfl)(hx:Loc X.env.scope x:=by first|exact Or.inl rfl|exact Or.inr rfl)(hf:C2 X i x:=by first|exact⟨.inl rfl,Wd⟩|exact⟨.inr rfl,Wd⟩|assumption|exact⟨.inl rfl,by assumption⟩|exact⟨.inr rfl,by assumption⟩):PG X (.Name x pos) (Vb i):=Sn hN hi hx hf
theorem pI(hr:IxR X r)(ha:PE X a ta)(hb:PE X b tb)(hs:Ax b:=by exact fun _ _=>rfl):PE X (.Subscript a b pos) (tOp r ta tb):=zii hr ha hb hs
theorem pD(hu:X.A.units+1<cLine)(ho:PE X a ta)(hi:PE X b tb)(hs:zgp b:=by exact fun _ _=>rfl):PE X (.Subscript a b pos) (zf1 ta tb):=zew hu ho hi hs
theorem pF(D:Z4 X.prog X.w X.K X.mg X.base x k ps sp)(hr:Wv j X.A)(ha:PA X (e :: es) t)(hk:k<=j:=by decide)(hx:Wq (CX1 X.prog X.w) X E:=by exact Zk)(hg:Gl X x:=by rfl)(hdb:(x == ("__debug__":Str))=false:=by decide)
  (he:starEach (e :: es) X.env=(false,eval e X.env) :: starEach es X.env:=by rfl) (hpl:(backTo pos (starEach es X.env)).any (·.1)=false:=by rfl):PE X (.Call (.Name x p) (e :: es) [] pos) (zco sp [] E t):=Dd D (hr.mono hk) hx hg ha hdb he hpl
theorem iL(K:Frag)(h:X.K=K:=by rfl):IxR X (Ik K):=zda h
theorem iU(K:Frag)(h:X.K=K:=by rfl):IxR X (zgy K):=ze6 h
theorem cL(K:Frag)(h:X.K=K:=by rfl):Ui X (.builtin "len") (fun xs H Q=>∃ p ys,xs=[.ref p]/\(SqL K H p ys\/SqT K H p ys)/\Q (.int ys.length) H):=Iq h
end
theorem cT(ys:List Str)(js:List Nat)(a:closureFor scope X.env=pure cl:=by rfl)(b:scope.kind=.function:=by rfl)(c:∀ y∈scope.names,y.2=.local->scope.names.lookup y.1=some .local:=by decide +kernel)(d:∀ y∈scope.names,y.2≠.cell:=by decide +kernel)(e:scope.names.lookup x=some .local:=by rfl)(f:(x :: ys).Nodup:=by decide +kernel)(g:js.map (X.N[·]?)=ys.map some:=by rfl)
  (h:Ip (fun y=>X.env.kindOf y=some .cell/\(relabel scope X.env).names.lookup y=some .cell/\cl.lookup y=X.env.cells.lookup y) ys:=by repeat' (first|exact True.intro|apply And.intro|rfl)) (i:Ip (fun p=>X.env.cells.lookup p.1=some p.2) cl:=by repeat' (first|exact True.intro|apply And.intro|rfl)) (j:∀ y∈scope.names,y.2=.free->y.1∈ys:=by decide +kernel):Az X x scope cl ys js:=⟨a,b,c,d,e,f,g,h,i,j⟩
abbrev LkF(K:Frag)(f:Addr)(x q:Str)(st:Stmt)(oc kV dc pm cd ct:Value)(od an:Option Addr)(sl:Array (Option Value)):Prop:=K.lookup f=some ⟨oc,od,.func (PySem.W.fnOf x q (Tg st) (Zp st) (Zj st) .none kV dc pm an cd ct),sl⟩
abbrev NsB(K:Frag)(x:Str)(f:Addr):Prop:=PySem.W.nsIn K mainGlobals x=some (some (.ref f))
abbrev FdB(K:Frag)(c:Addr)(x:Str)(f:Addr):Prop:=PySem.W.findIn K (.ref c) x=some (some (.ref f))
abbrev BnA(x q:Str)(st:Stmt)(ps:List Str):Prop:=∀ (kV doc pm:Value) (an:Option Addr) (cdv ct:Value) (us:List Value),us.length=ps.length->bindArgs (PySem.W.fnOf x q (Tg st) (Zp st) (Zj st) .none kV doc pm an cdv ct) ⟨us,[]⟩=pure (ps.zip us)
abbrev BnE(x q:Str)(st:Stmt)(ps:List Str)(us:List Value):Prop:=∀ (kV doc pm:Value) (an:Option Addr) (cdv ct:Value),bindArgs (PySem.W.fnOf x q (Tg st) (Zp st) (Zj st) .none kV doc pm an cdv ct) ⟨us,[]⟩=pure (ps.zip us)
section
variable{x q a b c d e g:Str}{st:Stmt}
theorem bn1(h:∀ u,BnE x q st [a] [u]:=by intros _ _ _ _ _ _ _;rfl):BnA x q st [a]:=fun _ _ _ _ _ _ us hl=>match us,hl with|[_],_=>h _ _ _ _ _ _ _
theorem bn2(h:∀ u v,BnE x q st [a,b] [u,v]:=by intros _ _ _ _ _ _ _ _;rfl):BnA x q st [a,b]:=fun _ _ _ _ _ _ us hl=>match us,hl with|[_,_],_=>h _ _ _ _ _ _ _ _
theorem bn3(h:∀ u v w,BnE x q st [a,b,c] [u,v,w]:=by intros _ _ _ _ _ _ _ _ _;rfl):BnA x q st [a,b,c]:=fun _ _ _ _ _ _ us hl=>match us,hl with|[_,_,_],_=>h _ _ _ _ _ _ _ _ _
theorem bn4(h:∀ u v w y,BnE x q st [a,b,c,d] [u,v,w,y]:=by intros _ _ _ _ _ _ _ _ _ _;rfl):BnA x q st [a,b,c,d]:=fun _ _ _ _ _ _ us hl=>match us,hl with|[_,_,_,_],_=>h _ _ _ _ _ _ _ _ _ _
theorem bn5(h:∀ u v w y z,BnE x q st [a,b,c,d,e] [u,v,w,y,z]:=by intros _ _ _ _ _ _ _ _ _ _ _;rfl):BnA x q st [a,b,c,d,e]:=fun _ _ _ _ _ _ us hl=>match us,hl with|[_,_,_,_,_],_=>h _ _ _ _ _ _ _ _ _ _ _
end
section
variable{K:Frag}{mg:Str->Option Value}{x y q m:Str}{k:Nat}{ps:List Str}{sp:Sp}{C:Addr}{st:Stmt}{f:Addr}{fd:FuncData}
theorem dMk(P:Program)(w:World)(base:Heap)(F:Fun K x q st f fd)(ok:FnOk P w K mg base (CX1 P w) k f fd ps sp)(b:mg y=some (.ref f))(hb:BnA x q st ps:=by first|exact bn1|exact bn2|exact bn3|exact bn4|exact bn5):Z4 P w K mg base y k ps sp:=⟨f,fd,ok,b,F.kp,F.binds hb⟩
theorem mMk(P:Program)(w:World)(base:Heap)(F:Fun K x q st f fd)(ok:FnOk P w K mg base (CX1 P w) k f fd ps sp)(b:zcn K C m f)(hb:BnA x q st ps:=by first|exact bn1|exact bn2|exact bn3|exact bn4|exact bn5):Zu P w K mg base C m k ps sp:=⟨f,fd,ok,b,F.binds hb⟩
theorem nMk(P:Program)(w:World)(base:Heap)(F:Fun K x q st f fd)(ok:FnOk P w K mg base (CX1 P w) k f fd ps sp)(b:Mk K C f)(c:mg y=some (.ref C))(hb:BnA x q st ps:=by first|exact bn1|exact bn2|exact bn3|exact bn4|exact bn5):Tt P w K mg base y C k ps sp:=⟨f,fd,ok,b,c,F.binds hb⟩
end
structure LN(K:Frag)(x q:Str)(st:Stmt)(f:Addr)(oc kV dc pm cd ct:Value)(od an:Option Addr)(sl:Array (Option Value)):Prop where
 b:NsB K x f
 l:LkF K f x q st oc kV dc pm cd ct od an sl
 c:PySem.W.codeIn K cd q=true
 k:PySem.W.keepIn K (.ref f)=true
structure LM(K:Frag)(C:Addr)(x q:Str)(st:Stmt)(f:Addr)(oc kV dc pm cd ct:Value)(od an:Option Addr)(sl:Array (Option Value)):Prop where
 b:FdB K C x f
 l:LkF K f x q st oc kV dc pm cd ct od an sl
 c:PySem.W.codeIn K cd q=true
 k:PySem.W.keepIn K (.ref f)=true
 i:PySem.W.isFn K (.ref f)=true
abbrev XcB(K:Frag)(c:Addr):Prop:=PySem.W.excIn K c [.type "ValueError",.type "Exception",.type "BaseException",.type "object"] "ValueError.__new__"=true
abbrev NzB(K:Frag)(x:Str):Prop:=PySem.W.nsIn K mainGlobals x=some none
structure XG(P:Program)(w:World)(base:Heap)(K:Frag)(mg:Str->Option Value)(h:Heap):Prop where
 X:K.In h
 G:h.Ns mainGlobals mg
section
variable{P:Program}{w:World}{base h:Heap}{K:Frag}{mg:Str->Option Value}{x y q:Str}{k:Nat}{ps:List Str}{sp:Sp}{C:Addr}{st:Stmt}{f:Addr}{oc kV dc pm cd ct:Value}{od an:Option Addr}{sl:Array (Option Value)}
theorem dN(Z:XG P w base K mg h)(l:LN K x q st f oc kV dc pm cd ct od an sl)(ok:∀ {fd},Fun K x q st f fd->FnOk P w K mg base (CX1 P w) k f fd ps sp)(hb:BnA x q st ps:=by first|exact bn1|exact bn2|exact bn3|exact bn4|exact bn5):Z4 P w K mg base x k ps sp :=
 dMk P w base (Pu l.l l.c l.k) (ok (Pu l.l l.c l.k)) (PySem.W.mg_of Z.X Z.G l.b) hb
theorem mM(_:XG P w base K mg h)(l:LM K C x q st f oc kV dc pm cd ct od an sl)(ok:∀ {fd},Fun K x q st f fd->FnOk P w K mg base (CX1 P w) k f fd ps sp)(hb:BnA x q st ps:=by first|exact bn1|exact bn2|exact bn3|exact bn4|exact bn5):Zu P w K mg base C x k ps sp :=
 mMk P w base (Pu l.l l.c l.k) (ok (Pu l.l l.c l.k)) ⟨l.b,l.i,l.k⟩ hb
theorem nM(Z:XG P w base K mg h)(l:LM K C "__init__" q st f oc kV dc pm cd ct od an sl)(m:PySem.W.makesIn K C=true)(kc:PySem.W.keepIn K (.ref C)=true)(c:PySem.W.nsIn K mainGlobals y=some (some (.ref C)))(ok:∀ {fd},Fun K "__init__" q st f fd->FnOk P w K mg base (CX1 P w) k f fd ps sp)(hb:BnA "__init__" q st ps:=by first|exact bn1|exact bn2|exact bn3|exact bn4|exact bn5):Tt P w K mg base y C k ps sp :=
 nMk P w base (Pu l.l l.c l.k) (ok (Pu l.l l.c l.k)) ⟨m,l.b,l.i,kc⟩ (PySem.W.mg_of Z.X Z.G c) hb
end
section
variable{X:Cx}{elt iter:Expr}{x:Str}{px pos:Pos}{ifs:List Expr}{scope:Scope}{cl:List (Str×Addr)}{ys:List Str}{js:List Nat}
theorem Jm{pins:List (Addr×Obj)}{σ:St}{H:Hp}{s:Shared}{tt:TT}{te:TE}{it:Addr}{fp:List Addr}{tn:Nat->Heap->Prop}{J:It}{W:Nat->Nat->List V->Hp->Prop}{m0:Nat}{Q:VK}{E:Value->Shared->Prop}{RR:Value->Addr->Result->Shared->Prop}
  (hcm:X.calm=true) (c:Az X x scope cl ys js) (ht:∀ pn s₀ H₀ fp C,PTs (Yv X pn (x :: ys) scope cl s₀ H₀ fp C) ifs tt) (hgt:∀ pn s₀ H₀ fp C,PG (Yv X pn (x :: ys) scope cl s₀ H₀ fp C) (.Name x px) (Vb 0)) (he:∀ pn s₀ H₀ fp C,PE (Yv X pn (x :: ys) scope cl s₀ H₀ fp C) elt te)
  (I:Inv X pins σ H s) (T:Et X.prog X.w X.K (.Name x px) J fp it tn) (st0:tn 0 s.heap) (hf:∀ b∈fp,FpOk X pins H b) (w0:W 0 m0 [] H)
  (turn:∀ i m ys H,W i m ys H->(J.stop i H/\ys.length<=sizeLine/\∀ p,H p=none->Q (.ref p) (upd H p (.lst ys))) \/
   (J.go i H/\ys.length<sizeLine/\∃ N:List V->Hp->Prop,(∀ ys' H',N ys' H'->∃ m',m' < m/\W (i+1) m' ys' H')/\∀ x H',J.yld i H x H'->tt (cs js σ x) H' fun b H2=>if b=true then te (cs js σ x) H2 fun y H3=>N (ys++[y]) H3 else N ys H2))
  (hRR:∀ D C s' m,s'.heap.Ns C m->(∀ h',Heap.SameBut C s'.heap h'->∃ H',Inv X pins σ H' { s' with heap:=h' }/\Q (.ref D) H')->(∃ H',Inv X pins σ H' s'/\Q (.ref D) H'/\H' C=none)->s.heap.objs.size<=C->RR (.ref D) C (.ok .next) s') :
  wpAny (model X.prog X.w) X.A (newList []) (fun acc s₃=>wpAny (model X.prog X.w) X.A (newFunctionEnv scope X.env.globals cl [] X.env.qual none .none (some X.env)) (fun cenv s₄ =>
   codeAny (model X.prog X.w) X.A (.compStart (.ListComp elt [⟨.Name x px,iter,ifs,0⟩] scope pos) 0 (.ref it) acc { cenv with scope:=relabel scope X.env }) (RR acc cenv.locals) s₄) E s₃) E s :=
 K2 (xo:=[x]) (g:=Vb 0) hcm ⟨c.clos,c.kind,c.names,c.nocell,c.at_,c.free,c.only,c.vis⟩ ht hgt he I T st0 hf w0 (fun i m ys H w=>(turn i m ys H w).imp id fun ⟨a,b,N,n1,n2⟩=>⟨a,b,N,n1,fun y H' hy=>⟨⟨[some y],rfl,rfl⟩,n2 y H' hy⟩⟩) hRR
variable{wi:TI}{tt:TT}{te:TE}
theorem V9(hcm:X.calm=true)(c:Az X x scope cl ys js)(hi:PI X (.Name x px) iter wi)(ht:∀ pn s₀ H₀ fp C,PTs (Yv X pn (x :: ys) scope cl s₀ H₀ fp C) ifs tt)(he:∀ pn s₀ H₀ fp C,PE (Yv X pn (x :: ys) scope cl s₀ H₀ fp C) elt te)
  (hx:∀ C,(compEnvC scope cl C X.env).scope.names.lookup x=some .local:=by intro _;rfl) (hs:∀ x,foldedSetIterable iter X.env x=pure x:=by intro _;rfl):PE X (.ListComp elt [⟨.Name x px,iter,ifs,0⟩] scope pos) (zf4 wi js tt te):=by
 intro pins s σ H Q I h;rw[eval_ListComp];refine wpAny_comprehension_free (use:=none) rfl hs c.clos c.kind c.names (thn (hi pins s σ H _ I h) fun v s1 h1=>thn h1 fun itv s2 h2=>?_);obtain⟨it,fp,tn,J,H2,e,I2,T,st2,f2,W,⟨m0,w0⟩,turn⟩:=h2;subst e;exact Jm (RR:=fun acc C=>compPost (model X.prog X.w) X.A X.xe none (EP X pins σ Q) acc C) hcm c ht (fun _ _ _ _ C=>Sn (X:=Yv X _ (x :: ys) scope cl _ _ _ C) c.nd rfl (.inl (hx C)) ⟨.inr (hx C),Wd⟩) he I2 T st2 f2 w0 turn fun D C s' m hn hS _ _=>⟨m,hn,fun h' hs'=>let ⟨H',I',q⟩:=hS h' hs';⟨.ref D,H',I',rfl,q⟩⟩
theorem Tp{y:Str}{py spos:Pos}{i:Nat}(hN:X.N.Nodup)(hy:X.N[i]?=some y)(hk:X.env.scope.names.lookup y=some .local)(hcm:X.calm=true)(c:Az X x scope cl ys js)(hi:PI X (.Name x px) iter wi)(ht:∀ pn s₀ H₀ fp C,PTs (Yv X pn (x :: ys) scope cl s₀ H₀ fp C) ifs tt)
  (he:∀ pn s₀ H₀ fp C,PE (Yv X pn (x :: ys) scope cl s₀ H₀ fp C) elt te)
  (hx:∀ C,(compEnvC scope cl C X.env).scope.names.lookup x=some .local:=by intro _;rfl) (hsw:swapsWith (.ListComp elt [⟨.Name x px,iter,ifs,0⟩] scope pos) (some (.Name y py)) spos.line X.env=pure true:=by rfl) (hs:∀ x,foldedSetIterable iter X.env x=pure x:=by intro _;rfl)
  (hf:C2 X i y:=by first|exact⟨.inr rfl,Wd⟩|assumption|exact⟨.inr rfl,by assumption⟩) :
  PS X (.Assign [.Name y py] (.ListComp elt [⟨.Name x px,iter,ifs,0⟩] scope pos) spos) (zau (zf4 wi js tt te) (Vb i)):=by
 intro pins s σ H D0 I h;rw[exec_Assign_Name_used _ _ _ _ hsw];refine wpAny_bind (wpAny_standAt (wpAny_bind ?_));show wpAny _ X.A (do let _ <- comprehension (.ListComp elt [⟨.Name x px,iter,ifs,0⟩] scope pos) scope X.env _ (newList []) false (eval iter X.env) (some (assign (.Name y py) X.env))) _ _ s;refine wpAny_bind (wpAny_mono (wpAny_comprehension_free (use:=some (assign (.Name y py) X.env)) (Q:=fun _ s'=>SP X pins D0 .next s') rfl hs c.clos c.kind c.names
  (thn (hi pins s σ H _ I h) fun v s1 h1=>thn h1 fun itv s2 h2=>?_)) (fun _ s' hq=>wpAny_pure (wpAny_pure hq)) fun _ _ e=>e)
 obtain⟨it,fp,tn,J,H2,e,I2,T,st2,f2,W,⟨m0,w0⟩,turn⟩:=h2;subst e;refine Jm (Q:=fun x H1=>D0.nx (σ.set i (some x)) H1) (RR:=fun acc C=>compPost (model X.prog X.w) X.A X.xe (some (assign (.Name y py) X.env)) (fun _ s'=>SP X pins D0 .next s') acc C) hcm c ht (fun _ _ _ _ C=>Sn (X:=Yv X _ (x :: ys) scope cl _ _ _ C) c.nd rfl (.inl (hx C)) ⟨.inr (hx C),Wd⟩) he I2 T st2 f2 w0 turn fun D C s' m hn _ hS hC=>?_;obtain⟨H',I',q,fC⟩:=hS;show wpAny _ X.A (assign (.Name y py) X.env (.ref D)) _ _ _;have ltC:∀ b o,s2.heap.get? b=some o->b≠C:=fun b o e=>ztb (zs1 (Heap.lt_size e) hC);have neL:C≠X.env.locals:=by
  obtain⟨_,⟨o,_,_,ho,_⟩,_⟩:=I2.loc;exact Ne.symm (ltC _ o ho)
 have neK:∀ z a,X.env.cells.lookup z=some a->a≠C:=fun z a e=>by
  obtain⟨_,o,ho,_⟩:=I2.cell z a e;exact ltC a o ho
 refine wpAny_assign_Name (Hw I' hN hy (.inl hk) (v:=.ref D) (show RelV (.ref D) (.ref D) from rfl) (fun s4 I4 ⟨a,hs4,ha⟩=>?_) hf);have naC:C≠a:=by
  rcases ha with ha|ha
  ·rw[ha];exact neL
  ·exact Ne.symm (neK _ _ ha)
 refine⟨m,hn.sameBut hs4 naC,fun h5 hs5=>⟨_,H',?_,q⟩⟩;refine I4.turned (t':=s4.toks) (it:=C) (fun b o hb e=>hs5.extBut b o hb e) fC neL (.inr (zs2 I2.sz hC)) neK fun p hp=>?_;obtain⟨e,_⟩:=I2.pin p hp;exact ltC _ _ e
end
end L2
namespace G
open PySem PySem.Spec PyProof.Rows L2
inductive RwL(H:Hp):List Addr->List (List Row)->Prop where
 | nil:RwL H [] []
 | cons {l:Addr} {ls:List Addr} {ts:List V} {rs:List Row} {Rs:List (List Row)} (h:H l=some (.lst ts)) (t:Yb H ts (rs.map row4)) (n:RwL H ls Rs):RwL H (l :: ls) (rs :: Rs)
theorem RwL.same(e:Same H H'):∀ {ls:List Addr} {Rs:List (List Row)},RwL H ls Rs->RwL H' ls Rs
 | _,_,.nil=>.nil
 | _,_,.cons h t n=>.cons (e _ _ h) (t.same e) (RwL.same e n)
theorem RwL.length:∀ {ls:List Addr} {Rs:List (List Row)},RwL H ls Rs->ls.length=Rs.length
 | _,_,.nil=>rfl
 | _,_,.cons _ _ n=>by simp[RwL.length n]
theorem RwL.snoc(h:H l=some (.lst ts))(t:Yb H ts (rs.map row4)):∀ {ls:List Addr} {Rs:List (List Row)},RwL H ls Rs->RwL H (ls++[l]) (Rs++[rs])
 | _,_,.nil=>.cons h t .nil
 | _,_,.cons h' t' n=>.cons h' t' (RwL.snoc h t n)
theorem RwL.getR:∀ {ls:List Addr} {Rs:List (List Row)} {i:Nat} {rs:List Row},RwL H ls Rs->Rs[i]?=some rs->∃ l ts,ls[i]?=some l/\H l=some (.lst ts)/\Yb H ts (rs.map row4)
 | _,_,_,_,.nil,e=>by simp at e
 | _,_,0,_,.cons h t n,e=>by simp at e;subst e;exact⟨_,_,rfl,h,t⟩
 | _,_,i+1,rs,.cons h t n,e=>by
   obtain⟨l,ts,h1,h2⟩:=RwL.getR (i:=i) (rs:=rs) n (by simpa using e);exact⟨l,ts,by simpa using h1,h2⟩
inductive G8(ca:CA)(vs:List V)(H:Hp)(Q:VK)(_:XK):Prop where
 | mk(A:SAd)(S:Sea)(_:vs=[.ref A.p])(_:Zv ca H A S)(_:S.led.length<=900)(_:∀ l ls H',H' l=some (.lst (ls.map V.ref))->RwL H' ls S.led->Same H H'->H l=none->(∀ x∈ls,H x=none)->Q (.ref l) H')
inductive Jn(K:Frag)(vs:List V)(H:Hp)(Q:VK)(_:XK):Prop where
 | mk(ok:Addr->Prop)(l d:Addr)(ls:List Addr)(P:Pg)(_:vs=[.ref l,.ref d])(_:H l=some (.lst (ls.map V.ref)))(_:PgAt ok H d P)(_:Od P)(_:RwL H ls (P.over.map Z5))(_:∀ H',Same H H'->Q (.bl true) H')
end G
namespace G
open PySem PySem.Spec PyProof.Rows L2
inductive Ref where
 | out|known|many|unk|manyM|same|noMatch|noRound|over|seaOver|away|drawn|notDrawn|nothing|manyD
 deriving DecidableEq
def Ref.cls(ca:CA):Ref->Addr
 | .out=>ca.out|.known=>ca.known|.many=>ca.many|.unk=>ca.unk|.manyM=>ca.manyM|.same=>ca.same|.noMatch=>ca.noMatch|.noRound=>ca.noRound
 | .over=>ca.over|.seaOver=>ca.seaOver|.away=>ca.away|.drawn=>ca.drawn|.notDrawn=>ca.notDrawn|.nothing=>ca.nothing|.manyD=>ca.manyD
open Classical in
noncomputable def refS(S:Sea):Ux->Option Ref
 | .enrol n g c=>if S.len<=S.led.length then some .seaOver else if S.cur.isSome=true then some .drawn else if badI n g c then some .out else if n∈S.ppl.map (·.1) then some .known else if 30<=S.ppl.length then some .many else if 100<=S.std.length then some .manyD else none
 | .away i n=>if i<1\/(S.len:Int)<i then some .noRound else if i<=S.led.length then some .over else if n∈S.ppl.map (·.1) then (if (i,n)∈S.out then some .away else if 100<=S.std.length then some .manyD else none) else some .unk
 | .draw ms=>if S.len<=S.led.length then some .seaOver else if S.cur.isSome=true then some .drawn else if 20<ms.length then some .manyM else if Sz ms then some .out else if S4 ms then some .same else if 100<=S.std.length then some .manyD else none
 | .close=>if S.len<=S.led.length then some .seaOver else if S.cur=none then some .notDrawn else none
 | .back=>if S.std=[] then some .nothing else none
def B7:Ux->Prop
 | .enrol n g c=>Fy n g c
 | .away i n=>Yr i/\Yr n
 | .draw ms=>(∀ m∈ms,K7 m)/\ms.length<=1000
 | _=>True
inductive Ld(K:Frag)(ca:CA)(vs:List V)(H:Hp)(Q:VK)(E:XK):Prop where
 | mk(A:SAd)(S:Sea)(t:Addr)(d:Ux)(_:vs=[.ref A.p,.ref t])(_:Zv ca H A S)(_:X2 (·∉A.fp) H t d)(_:B7 d)(_:Cd S)(_:Tn S)(_:S.std.length<=500)(_:S.out.length<=100000)(_:2*(tot S.led+1000)<=100000)(_:S.led.length<=1000)(_:S.old.length<=1000)(_:(d=.back->S.std≠[]->∃ S0,Pl S0 S))(_:(∀ r,refS S d=some r->∀ H',Same H H'->E (.ref (r.cls ca)) none H'))(_:(refS S d=none->∀ v A' S' H',Wo H' S d S' v->Zv ca H' A' S'->Nd A A' H->FrS A H H'->(∀ l,v=.ref l->(∃ xs,H' l=some (.lst xs))->H l=none)->Q v H'))
end G
namespace G
open PySem PySem.Spec PyProof.Rows L2
theorem Wo.same(af:Wo H S d S' v)(e:Same H H'):Wo H' S d S' v:=by
 cases af with
 | enrol n g c=>exact .enrol n g c
 | awayN h hl=>exact .awayN h (e _ _ hl)
 | awayF h hp hl=>exact .awayF h hp (e _ _ hl)
 | awayC h hp hl tl CR=>exact .awayC h hp (e _ _ hl) (tl.same e) CR
 | draw hl F T=>exact .draw (e _ _ hl) F T
 | close h=>exact .close h
 | back h ht hs=>exact .back h (e _ _ ht) hs
end G
namespace G
open PySem PySem.Spec PyProof.Rows L2
structure I21(r i:Nat)(noted:List Int)(S:Sea):Prop where
 len:S.len=r
 led:S.led=[]
 cur:S.cur=none
 old:S.old=[]
 std:∀ x∈S.std,x.2=none
 sl:S.std.length<=i
 ol:S.out.length<=i
 z:(noted=[]/\S.ppl=[]/\S.std=[]/\S.out=[])\/∃ ds,noted=0 :: ds/\S.ppl=[(5,5,5)]/\S.out=ds.map fun i=>(i,5)
 e:i<=10->noted=[]
end G
namespace G
open PySem PySem.Spec PyProof.Rows L2
structure zjz(n:Nat)(s:Zz):Prop where
 ms:s.ms.length<=20
 ml:s.may.length=s.ms.length
 fi:Yt s.may s.gv
 st:Ve s.may s.gv
 mo:∃ nu,M0 s.may nu
 gp:s.gaps.length<=n/\∀ x∈s.gaps,x.2.length<=100
end G
namespace G
open PySem PySem.Spec PyProof.Rows L2
section
variable{rows:List (List Int)}{gs0 hs:List V}{p:Nat}{n0:Int}
structure zju(rows:List (List Int))(gs0 hs:List V)(p:Nat)(i:Nat)(L:List Nat)(q:Nat):Prop where
 len:L.length=i+1
 nd:L.Nodup
 mem:q∈L
 walk:Walk rows (gs0.set p .non) p q i
 df:∀ k∈L,k<gs0.length/\gs0[k]?≠hs[k]?
 back:∀ y∈L,y≠p->∃ x∈L,x≠q/\∃ n,hs[x]?=some (.int n)/\(gs0.set p .non)[y]?=some (.int n)
 full:∀ y∈L,gs0[y]?≠some .non
end
open Classical in
noncomputable def eq1(x y:V):Nat:=if x=y then 1 else 0
inductive StK(N:List Int):List (List Int)->List V->Nat->Nat->Nat->Prop where
 | nil:StK N [] [] 0 0 0
 | skip {rows:List (List Int)} {r:List Int} {ah:List V} {v:V} {f u k:Nat} (h:StK N rows ah f u k):StK N (rows++[r]) (ah++[v]) (2*f) u (k+eq1 .non v)
 | take {rows:List (List Int)} {r:List Int} {ah:List V} {v:V} {f u k b:Nat} {n:Int} (h:StK N rows ah f u k) (hb:N[b]?=some n) (hn:n∈r) (hu:u/2 ^ b%2=0):StK N (rows++[r]) (ah++[v]) (2*f+1) (u+2 ^ b) (k+eq1 (.int n) v)
structure zjv(N:List Int)(rows:List (List Int))(ah:List V)(best kept:Nat):Prop where
 at_:∃ u,StK N rows ah best u kept
 top:∀ f u k,StK N rows ah f u k->f<=best
 most:∀ u k,StK N rows ah best u k->k<=kept
open Classical in
structure zj0(R:Nat×Nat->Nat->Prop)(ps:List (Nat×Nat))(g:Nat×Nat->Nat):Prop where
 mem:∀ q,q∈ps↔∃ k,R q k
 at_:∀ q∈ps,R q (g q)
 top:∀ q k,R q k->k<=g q
open Classical in
theorem zee(g:To S D)(hs:S.std.length<100):refS S D=none:=by
 cases D with
 | enrol n g' c =>
   obtain⟨g1,g2,g3,g4,g5⟩:=g;simp only[refS];rw[if_neg ⋯,if_neg (by rw[g2];exact nofun),if_neg g3,if_neg g4,if_neg ⋯,if_neg ⋯]
 | away i n =>
   obtain⟨g1,g2,g3,g4⟩:=g;simp only[refS];rw[if_neg ⋯,if_neg ⋯,if_pos g3,if_neg g4,if_neg ⋯]
 | draw ms =>
   obtain⟨g1,g2,g3,g4,g5⟩:=g;simp only[refS];rw[if_neg ⋯,if_neg (by rw[g2];exact nofun),if_neg ⋯,if_neg (fun ⟨m,hm,hb⟩=>g4 m hm hb),if_neg (fun ⟨m,hm,hb⟩=>g5 m hm hb),if_neg ⋯]
 | close =>
   obtain⟨g1,g2⟩:=g;simp only[refS];rw[if_neg ⋯,if_neg g2]
 | back=>simp only[refS];exact if_neg g
theorem B8(po:Tn S)(hl:S.len<=1000)(g:To S D):B7 D:=by
 cases D with
 | enrol n g' c =>
   obtain⟨g1,g2,g3,g4,g5⟩:=g;unfold badI at g3;exact⟨Z7 ⋯ ⋯,Z7 ⋯ ⋯,Z7 ⋯ ⋯⟩
 | away i n =>
   obtain⟨g1,g2,g3,g4⟩:=g;obtain⟨x,hx,rfl⟩:=zsu.mp g3;exact⟨Z7 ⋯ ⋯,po.small x hx⟩
 | draw ms =>
   obtain⟨g1,g2,g3,g4,g5⟩:=g;refine⟨fun m hm=>?_,by omega⟩;have:=g4 m hm;unfold badM at this;exact⟨Z7 ⋯ ⋯,Z7 ⋯ ⋯,Z7 ⋯ ⋯⟩
 | close=>exact True.intro
 | back=>exact True.intro
theorem Ld.of{K:Frag}{ca:CA}{vs:List V}{H:Hp}{Q:VK}{E E':XK}(h:zjs K ca vs H Q E'):Ld K ca vs H Q E:=by
 obtain⟨A,S,t,d,e,SA,hD,g,b1,b2,b3,b4,b5,b6,b7,b8,b9,b10,k⟩:=h;exact⟨A,S,t,d,e,SA,hD,B8 b2 b8 g,b1,b2,by omega,b4,b5,b6,b7,fun z _=>b10 z,fun r hr=>(by rw[zee g b3] at hr;cases hr),fun _ v A' S' H'=>k v A' S' H'⟩
section
variable{mb:Bool}{ok ok':Addr->Prop}{A A':SAd}{H H':Hp}{nu:List Int}{n m:Nat}{ds:List Addr}{d:Addr}{P:Pg}{S S':Sea}{D:Ux}
structure Xr(ok:Addr->Prop)(H:Hp)(ts:List V)(Ds:List Ux):Prop where
 len:ts.length=Ds.length
 at_:∀ (i:Nat) x,ts[i]?=some x->∃ t D,x=.ref t/\Ds[i]?=some D/\X2 ok H t D
theorem Xr.snoc(h:Xr ok H ts Ds)(hD:X2 ok H t D):Xr ok H (ts++[.ref t]) (Ds++[D]):=by
 obtain⟨h1,h2⟩:=h;refine⟨by rw[zsn,zsn,h1];rfl,fun i x hx=>?_⟩;rw[List.getElem?_append] at hx;split at hx
 ·rename_i hi;obtain⟨t',D',e1,e2,e3⟩:=h2 i x hx;exact⟨t',D',e1,by rw[zti ⋯];exact e2,e3⟩
 ·rename_i hi;have:i-ts.length=0:=by
   have:=(zsm.mp hx).1;have e:[V.ref t].length=1:=rfl;omega
  rw[this] at hx;cases hx;exact⟨t,D,rfl,by rw[zth ⋯,<- h1,this];rfl,hD⟩
theorem Xr.same(e:Same H H')(h:Xr ok H ts Ds):Xr ok H' ts Ds:=⟨h.len,fun i x hx=>by obtain⟨t,D,a,b,c⟩:=h.at_ i x hx;exact⟨t,D,a,b,c.same e⟩⟩
theorem Xr.imp(k:∀ x,ok x->ok' x)(h:Xr ok H ts Ds):Xr ok' H ts Ds:=⟨h.len,fun i x hx=>by obtain⟨t,D,a,b,c⟩:=h.at_ i x hx;exact⟨t,D,a,b,c.imp k⟩⟩
theorem X2.keep(h:X2 ok H t D)(k:∀ x o,ok x->H x=some o->H' x=some o)(kt:∀ t xs,H t=some (.tup xs)->H' t=some (.tup xs)):X2 ok H' t D:=by
 cases D with
 | enrol a b c=>exact kt _ _ h
 | away a b=>exact kt _ _ h
 | draw ms =>
   obtain⟨l,ts,a1,a2,a3,a4⟩:=h;exact⟨l,ts,kt _ _ a1,k _ _ a4 a2,a3.mono kt,a4⟩
 | close=>exact kt _ _ h
 | back=>exact kt _ _ h
theorem Xr.keep(h:Xr ok H ts Ds)(k:∀ x o,ok x->H x=some o->H' x=some o)(kt:∀ t xs,H t=some (.tup xs)->H' t=some (.tup xs)):Xr ok H' ts Ds:=⟨h.len,fun i x hx=>by obtain⟨t,D,a,b,c⟩:=h.at_ i x hx;exact⟨t,D,a,b,c.keep k kt⟩⟩
theorem Xr.fr(f:FrN A A' H H')(h:Xr (·∉A.fp) H ts Ds):Xr (·∉A'.fp) H' ts Ds:=⟨h.len,fun i x hx=>by obtain⟨t,D,a,b,c⟩:=h.at_ i x hx;exact⟨t,D,a,b,c.fr f⟩⟩
end
def Cq(w:Int×Int):Ux:=.away w.1 w.2
inductive Jo(K:Frag)(vs:List V)(H:Hp)(Q:VK)(_:XK):Prop where
 | mk(ok:Addr->Prop)(d t lc ln:Addr)(P:Pg)(cell:Int)(cs nu:List Int)(mixed:Nat)(_:vs=[.ref d,.int cell,.ref t,.int mixed])(_:PgAt ok H d P)(_:Oc H t lc ln cs nu)(_:mixed<=1)(_:P.over.length<P.len)(_:P.ppl.length<=100)(_:∀ (l:Addr) (ts:List V) (ms:List P3) (ws:List (Int×Int)) (H':Hp),H' l=some (.lst ts)->Xr (fun x=>H x=none) H' ts (.draw ms :: ws.map Cq)->ms.length<=5->B1 ms->(∀ w∈ws,(P.over.length:Int)<w.1/\w.1<=P.len/\w.2∈P.ppl.map (·.1)/\w∉P.out)->ws.Nodup->ws.length<=2->Same H H'->H l=none->Q (.ref l) H')
inductive Cr(K:Frag)(ca:CA)(vs:List V)(H:Hp)(Q:VK)(_:XK):Prop where
 | mk(A:SAd)(S:Sea)(d:Addr)(P:Pg)(s:Zz)(nu:List Int)(n:Nat)(mb:Bool)(_:vs=[.ref A.p,.ref d])(_:Zv ca H A S)(_:PgAt (·∉A.fp) H d P)(_:Sg mb P S)(_:SOk nu n S)(_:S.cur=some s)(_:∀ H',Same H H'->Q (.bl true) H')
inductive zao(K:Frag)(ca:CA)(vs:List V)(H:Hp)(Q:VK)(_:XK):Prop where
 | mk(A:SAd)(S:Sea)(r:Nat)(k:Int)(nu:List Int)(n:Nat)(_:vs=[.ref A.p,.int r,.int k])(_:Zv ca H A S)(_:S.led.length=r)(_:S.len=r)(_:S.cur=none)(_:S.std=[])(_:SOk nu n S)(_:n<=800)(_:1<=k)(_:k<=999)(_:∀ H',Same H H'->Q (.bl true) H')
structure PgR(mb:Bool)(ok:Addr->Prop)(H:Hp)(nu:List Int)(n:Nat)(d:Addr)(P:Pg)(S:Sea):Prop where
 pg:PgAt ok H d P
 rb:Sg mb P S
 so:SOk nu n S
section
variable{mb:Bool}{ok ok':Addr->Prop}{A A':SAd}{H H' H1 H2:Hp}{nu:List Int}{n m:Nat}{d d':Addr}{P:Pg}{S S':Sea}{D:Ux}{v:V}{ms:List P3}{i k:Int}{ca:CA}
theorem PgR.same(h:PgR mb ok H nu n d P S)(e:Same H H'):PgR mb ok H' nu n d P S:=⟨h.pg.same e,h.rb,h.so⟩
theorem B9(r:Sg mb P S)(o:SOk nu n S)(af:Wo H' S D S' v)(hb:D≠.back)(hc:D≠.close):Sg mb (Ws P D) S':=by
 obtain⟨r1,r2,r3,r4,r5,r6⟩:=r;cases af with
 | enrol k gr c=>exact⟨r1,r2,by show P.ppl++_=S.ppl++_;rw[r3],r4,r5,r6⟩
 | @awayN i k l h hl=>exact⟨r1,r2,r3,by show P.out++_=S.out++_;rw[r4],r5,r6⟩
 | @awayF k s l h hp hl=>exact⟨r1,r2,r3,by show P.out++_=S.out++_;rw[r4],r5,by show P.lis=_;rw[r6,h];rfl⟩
 | @awayC k s p e l us st w h hp hl tl CR=>exact⟨r1,r2,r3,by show P.out++_=S.out++_;rw[r4],r5,by show P.lis=_;rw[r6,h];rfl⟩
 | @draw ms gv l hl F T=>exact⟨r1,r2,r3,r4,r5,rfl⟩
 | close h=>exact absurd rfl hc
 | back h ht hs=>exact absurd rfl hb
theorem zf7(R:PgR mb (·∉A.fp) H nu n d P S)(af:Wo H1 S D S' v)(SA1:Zv ca H1 A' S')(g:To S D)(hn:∀ k gr c,D=.enrol k gr c->k∈nu)(hb:D≠.back)(hr:D=.close->Rel mb P S)
  (pg:PgAt (fun x=>x∉A'.fp\/H1 x=none) H2 d' (Ws P D)):PgR mb (·∉A'.fp) H2 nu (n+1) d' (Ws P D) S':=by
 obtain⟨o',_⟩:=Cp R.so g af hb hn;refine⟨pg.imp fun x _ z=>z.elim id fun w=>SA1.newOk x w,?_,o'⟩;by_cases hc:D=.close
 ·exact G7 (hr hc) R.so g af hb
 ·exact B9 R.rb R.so af hb hc
theorem zfs(so:SOk nu n S)(g:To S D)(hs:S.std.length<100)(hn:n<=800)(hb:D≠.back):Cd S/\Tn S/\S.std.length<100/\S.out.length<=100000/\2*(tot S.led+1000)<=100000/\S.led.length<=1000/\S.old.length<=1000/\S.len<=1000/\(∀ i k,D=.away i k->Yr k)/\(D=.back->∃ S0,Pl S0 S):=by
 have h1:=so.num;have h2:=so.len;have h3:=so.olen;have h4:=so.tot;refine⟨so.cur,so.pok,hs,by omega,by omega,by omega,by omega,by omega,?_,fun z=>absurd z hb⟩;rintro i k rfl;obtain⟨_,_,g3,_⟩:=g;obtain⟨x,hx,rfl⟩:=zsu.mp g3;exact so.pok.small x hx
theorem G9(r:Sg mb P S)(so:SOk nu n S)(g:To S D)(hn:n<=800):Od P/\P.ppl.length<=100/\P.out.length<=900/\(D=.close->∃ ms,P.lis=some ms/\ms.length<=100):=by
 have h1:=so.num;have h3:=so.few;refine⟨r.ovok so,by rw[r.ppl];omega,by rw[r.out];omega,?_⟩;rintro rfl;obtain⟨_,g2⟩:=g;cases e:S.cur with
 | none=>exact absurd e g2
 | some s=>exact⟨s.ms,by rw[r.lis,e];rfl,zs2 (so.cur s e).1 ⋯⟩
theorem Aa(af:Wo H S (.draw ms) S' v):S'.ppl=S.ppl/\S'.len=S.len/\S'.led=S.led/\S'.std.length=S.std.length+1/\S'.out=S.out/\S'.cur≠none:=by
 cases af with
 | draw hl F T=>exact⟨rfl,rfl,rfl,zsn,rfl,nofun⟩
theorem Ab(af:Wo H S (.away i k) S' v):S'.ppl=S.ppl/\S'.len=S.len/\S'.led=S.led/\S'.std.length=S.std.length+1/\S'.out=S.out++[(i,k)]/\(S.cur≠none->S'.cur≠none):=by
 cases af with
 | awayN h hl=>exact⟨rfl,rfl,rfl,zsn,rfl,id⟩
 | awayF h hp hl=>exact⟨rfl,rfl,rfl,zsn,rfl,fun _=>nofun⟩
 | awayC h hp hl tl CR=>exact⟨rfl,rfl,rfl,zsn,rfl,fun _=>nofun⟩
end
end G
namespace K39
open PySem PySem.Spec PyProof.Rows L2 G
def top(i:Nat):Stmt:=PySem.Challenge.pw_whistlebook_k39_whole_to_the_last_round.main.body.getD i (.Pass ⟨0,0,0,0⟩)
structure Ad where
 zn3:Addr
 zkp:Addr
 zk6:Addr
 zkt:Addr
 zk1:Addr
 zk2:Addr
 zmk:Addr
 zl3:Addr
 zka:Addr
 zko:Addr
 zki:Addr
 zle:Addr
 zm7:Addr
 zmi:Addr
 zj7:Addr
 zk9:Addr
 zj4:Addr
 zj5:Addr
 zj6:Addr
 zj1:Addr
abbrev ca(a:Ad):CA:=⟨a.zj1,a.zj6,a.zj5,a.zj4,a.zkp,a.zk6,a.zkt,a.zk1,a.zk2,a.zmk,a.zl3,a.zka,a.zko,a.zki,a.zle,a.zm7,a.zmi,a.zj7,a.zk9⟩
structure Tx(K:Frag)(mg:Str->Option Value)(a:Ad):Prop where
 zks:Cls K a.zj4
 zly:Xp K a.zj4 "rounds"
 zlm:Xp K a.zj4 "meetings"
 zkr:Cls K a.zj5
 zk3:Xp K a.zj5 "entries"
 zkk:Cls K a.zj6
 zma:Xp K a.zj6 "listed"
 zov:Xp K a.zj6 "lists"
 zml:Xp K a.zj6 "given"
 zob:Xp K a.zj6 "gaps"
 zj2:Cls K a.zj1
 zm2:Xp K a.zj1 "length"
 zo5:Xp K a.zj1 "rest"
 zlf:Xp K a.zj1 "roster"
 zlg:Xp K a.zj1 "ledger"
 zl4:Xp K a.zj1 "absent"
 zm1:Xp K a.zj1 "sheets"
 zkx:Xp K a.zj1 "sheet"
 zk8:Xp K a.zj1 "standing"
 zok:Ry K mg "NoSuchRound" a.zka
 zqa:Ry K mg "OutOfRange" a.zkp
 zpb:Ry K mg "TooManyMatches" a.zk2
 zqf:Ry K mg "SameClub" a.zmk
 zpq:Ry K mg "KnownReferee" a.zk6
 zot:Ry K mg "TooManyReferees" a.zkt
 zo4:Ry K mg "UnknownReferee" a.zk1
 zp9:Ry K mg "SeasonOver" a.zki
 zqh:Ry K mg "DrawnUp" a.zm7
 zpu:Ry K mg "TooManyDeeds" a.zk9
 zps:Ry K mg "NotDrawn" a.zmi
 zqc:Ry K mg "RoundOver" a.zko
 zp6:Ry K mg "AwayAlready" a.zle
 zoj:Ry K mg "NothingToTakeBack" a.zj7
 zpz:mg "max"=none
 zkj:mg "len"=none
 zoh:mg "tuple"=none
 zlw:mg "list"=none
 zmp:mg "enumerate"=none
 zk0:mg "range"=none
 zqd:mg "zip"=none
 zky:mg "isinstance"=none
 zqe:mg "int"=none
 zpn:mg "bool"=none
 zpw:mg "dict"=none
 gc_BookError:mg "BookError"=some (.ref a.zn3)
 gc_OutOfRange:mg "OutOfRange"=some (.ref a.zkp)
 gc_KnownReferee:mg "KnownReferee"=some (.ref a.zk6)
 gc_TooManyReferees:mg "TooManyReferees"=some (.ref a.zkt)
 gc_UnknownReferee:mg "UnknownReferee"=some (.ref a.zk1)
 gc_TooManyMatches:mg "TooManyMatches"=some (.ref a.zk2)
 gc_SameClub:mg "SameClub"=some (.ref a.zmk)
 gc_NoSuchMatch:mg "NoSuchMatch"=some (.ref a.zl3)
 zp1:mg "NoSuchRound"=some (.ref a.zka)
 zqb:mg "RoundOver"=some (.ref a.zko)
 zp7:mg "SeasonOver"=some (.ref a.zki)
 gc_AwayAlready:mg "AwayAlready"=some (.ref a.zle)
 gc_DrawnUp:mg "DrawnUp"=some (.ref a.zm7)
 gc_NotDrawn:mg "NotDrawn"=some (.ref a.zmi)
 zn6:mg "NothingToTakeBack"=some (.ref a.zj7)
 gc_TooManyDeeds:mg "TooManyDeeds"=some (.ref a.zk9)
 gc_Ledger:mg "Ledger"=some (.ref a.zj4)
 gc_Roster:mg "Roster"=some (.ref a.zj5)
 gc_Sheet:mg "Sheet"=some (.ref a.zj6)
 gc_Season:mg "Season"=some (.ref a.zj1)
 zp2:Gk K a.zka
 zn8:Gk K a.zj7
 zp5:Gk K a.zki
 zp8:Gk K a.zko
 zkh:PySem.W.mroIn K a.zka (.ref a.zka)=some true
 zkm:PySem.W.mroIn K a.zki (.ref a.zki)=some true
 zkq:PySem.W.mroIn K a.zko (.ref a.zko)=some true
 zj8:PySem.W.mroIn K a.zj7 (.ref a.zj7)=some true
 zlz:∃ t,mg "MOST_NUMBER"=some (.int 999 t)
 zlq:∃ t,mg "MOST_GRADE"=some (.int 9 t)
 zlo:∃ t,mg "MOST_CLUB"=some (.int 99 t)
 zk4:∃ t,mg "MOST_REFEREES"=some (.int 30 t)
 zlb:∃ t,mg "MOST_MATCHES"=some (.int 20 t)
 zl0:∃ t,mg "MOST_ROUNDS"=some (.int 60 t)
 zmq:∃ t,mg "MOST_REST"=some (.int 10 t)
 zlu:∃ t,mg "MOST_DEEDS"=some (.int 100 t)
end K39
set_option maxHeartbeats 64000000
namespace K39
open PySem PySem.Spec PyProof.Rows L2 G
local macro_rules | `(tactic| walk_at "rd")=>`(tactic| repeat (first|(refine⟨_,rfl,?_⟩)|(refine⟨_,_,rfl,rfl,?_⟩)|(refine And.intro (show CMul _ _ from Or.inr (And.intro (by decide) (by decide))) ?_)|(refine And.intro (show CMul _ _ from Or.inl (And.intro (by decide) (by decide))) ?_)|(refine And.intro (show CDiv _ _ from(And.intro (by decide) (by decide))) ?_)|(refine And.intro (show CPow _ _ from(And.intro (by decide) (And.intro (by decide) (by decide)))) ?_)|(refine And.intro (show (0:Int)<_ from(by decide)) ?_)))
local macro_rules | `(tactic| walk_at "if")=>`(tactic| dsimp only[Vb,List.set])
local macro_rules | `(tactic| walk_at "ar")=>`(tactic| (intro _ _ _ _ h;first|(cases h;subst_vars;rfl)|repeat (first|(obtain⟨h1,_⟩:=h;subst h1;rfl)|(obtain⟨_,h⟩:=h))))
section
variable{P:Program}{w:World}{K:Frag}{mg:Str->Option Value}{base:Heap}{a:Ad}{f:Addr}{fd:FuncData}
abbrev S5:Stmt:=top 2
theorem Pm:Zl ["number","club","ledger","rest","rested"] ["number","club","ledger","rest"] (Zj S5):=fnS
theorem Iy(F:Fun K "met_lately" "met_lately" S5 f fd)(T:Tx K mg a)(zj9:Zu P w K mg base a.zj4 "over" 1 ["self"] (N1 a.zj4))(znt:Zu P w K mg base a.zj4 "met" 1 ["self","number","club"] (zf5 a.zj4)):FnOk P w K mg base (CX1 P w) 2 f fd ["number","club","ledger","rest"] (Dh a.zj4):=by
 refine F.okX Pm ⋯ fun _ _ _ _ H _ Q E hr h=>?_;obtain⟨p,lr,ld,Rs,n,c,rest,rfl,LA,h⟩:=h;refine⟨_,(Zc (pS 4 Pm.nd (Zt (Gb rfl) (by rfl) T.zpz PyProof.Rows.boot_max (Za (Zq Ru (Yi (pv 2) T.zks zj9 (hr.mono ⋯) Zk) (pv 3)) (Za Zi Zd))))
 (Ze (Zm (Oy Rw (Xd (pv 2) T.zks znt (hr.mono ⋯) Zk (Za (pv 0) (Za (pv 1) Zd))) (pv 4) (Zw _))))),?_⟩
 obtain⟨⟨dx,hp⟩,_,_⟩:=id LA;refine⟨_,rfl,p,dx,_,rfl,hp,Mz ⋯ ⋯,p,lr,ld,Rs,rfl,LA,_,rfl,_,_,rfl,rfl,_,_,rfl,?_⟩;refine⟨_,rfl,p,dx,_,rfl,hp,Mz ⋯ ⋯,_,rfl,_,rfl,p,lr,ld,Rs,n,c,rfl,LA,fun H' s'=>⟨_,rfl,_,_,rfl,rfl,h H' s'⟩⟩
abbrev Mb:Stmt:=top 3
theorem Wi:Zl ["referee","match","out","ledger","rest","number","grade","club","home","guest","asked","told"] ["referee","match","out","ledger","rest"] (Zj Mb):=fnS
theorem Ac(F:Fun K "reasons" "reasons" Mb f fd)(T:Tx K mg a)(zmv:Z4 P w K mg base "met_lately" 2 ["number","club","ledger","rest"] (Dh a.zj4)):FnOk P w K mg base (CX1 P w) 3 f fd ["referee","match","out","ledger","rest"] (Gv K a.zj4):=by
 refine F.okX Wi ⋯ fun _ _ _ _ H _ Q E hr h=>?_;obtain⟨t1,t2,p,lr,ld,Rs,n,g,c,h,gu,d,rest,o,rfl,h1,h2,LA,hq⟩:=h;refine⟨_,(Zc (pS 5 Wi.nd (pI (iU K) (pv 0) Zi))
 (Zc (pS 6 Wi.nd (pI (iU K) (pv 0) Zi))
 (Zc (pS 7 Wi.nd (pI (iU K) (pv 0) Zi))
 (Zc (pS 8 Wi.nd (pI (iU K) (pv 1) Zi))
 (Zc (pS 9 Wi.nd (pI (iU K) (pv 1) Zi))
 (Zc (pS 10 Wi.nd (pI (iU K) (pv 1) Zi))
 (Zc (pS 11 Wi.nd (Z8 Zd))
 (Zc (Z6 (W3 (pv 2))
  (Ze (Yk (pv 11) Zr))
  Zs)
 (Zc (Z6 (Zo Rw (pv 10) (pv 6) (Zw _))
  (Ze (Yk (pv 11) Zr))
  Zs)
 (Zc (Z6 (PW.pt (Td (Zo Vt (pv 7) (pv 8) (Zw _)) (Vx (Zo Vt (pv 7) (pv 9) (Zw _)))))
  (Ze (Yk (pv 11) Zr))
  Zs)
 (Zc (Z6 (PW.pt (Td (W3 (pF zmv hr (Za (pv 5) (Za (pv 8) (Za (pv 3) (Za (pv 4) Zd)))))) (Vx (W3 (pF zmv hr (Za (pv 5) (Za (pv 9) (Za (pv 3) (Za (pv 4) Zd)))))))))
  (Ze (Yk (pv 11) Zr))
  Zs)
 (Ze (Zm (pv 11)))))))))))))),?_⟩
 show let y1:TS:=_;let y2:TS:=Z0 _ y1;let y3:TS:=Z0 _ y2;let y4:TS:=Z0 _ y3;let y5:TS:=Z0 _ y4;let y6:TS:=Z0 _ y5;let y7:TS:=Z0 _ y6;let y8:TS:=Z0 _ y7;let y9:TS:=Z0 _ y8;let y10:TS:=Z0 _ y9;let y11:TS:=Z0 _ y10;Z0 _ y11 _ _ _;intro y1 y2 y3 y4 y5 y6 y7 y8 y9 y10 y11;refine⟨_,rfl,t1,_,_,_,rfl,rfl,SqT.of h1,(show atI [V.int n,V.int g,V.int c] 0=some _ from rfl),_,rfl,t1,_,_,_,rfl,rfl,SqT.of h1,(show atI [V.int n,V.int g,V.int c] 1=some _ from rfl),_,rfl,t1,_,_,_,rfl,rfl,SqT.of h1,(show atI [V.int n,V.int g,V.int c] 2=some _ from rfl),?_⟩;refine⟨_,rfl,t2,_,_,_,rfl,rfl,SqT.of h2,(show atI [V.int h,V.int gu,V.int d] 0=some _ from rfl),_,rfl,t2,_,_,_,rfl,rfl,SqT.of h2,(show atI [V.int h,V.int gu,V.int d] 1=some _ from rfl),_,rfl,t2,_,_,_,rfl,rfl,SqT.of h2,(show atI [V.int h,V.int gu,V.int d] 2=some _ from rfl),?_⟩;refine⟨by show 0<=sizeLine;decide,fun l hl=>?_⟩;have s1:=Zf (o:=.lst []) hl;have q1:upd H l (.lst []) l=some (.lst (([]:List Str).map V.str)):=Zb;generalize upd H l (.lst [])=H1 at s1 q1;walk_at "if";have b1:=N3 o "away";have b2:=N3 (decide (g<d)) "grade";have b3:=N3 (decide (c=h)||decide (c=gu)) "club";refine Th (b:=o) (H0:=H) (Qx fun Q q=>⟨_,rfl,_,rfl,q⟩) hl s1 q1 ⋯ rfl (fun H2 s2 q2 _=>?_);rw[List.nil_append] at q2;refine Th (b:=decide (g<d)) (H0:=H) (Qx fun Q q=>⟨_,rfl,_,rfl,_,_,rfl,rfl,_,rfl,q⟩) hl s2 q2 ⋯ rfl (fun H3 s3 q3 _=>?_);refine Th (b:=decide (c=h)||decide (c=gu)) (H0:=H) (Qx (O5 (fun Q q=>⟨_,rfl,_,rfl,rfl,_,rfl,R0▸q⟩) (fun Q q=>⟨_,rfl,_,rfl,rfl,_,rfl,R0▸q⟩))) hl s3 q3 (by rw[zsn];omega) rfl (fun H4 s4 q4 _=>?_);refine Th (b:=Rj Rs n h rest||Rj Rs n gu rest) (H0:=H) (Dj (fun Q q=>⟨_,rfl,_,rfl,_,rfl,_,rfl,p,lr,ld,Rs,n,h,rest,rfl,LA.same s4,fun H5 s5=>⟨_,rfl,q H5 s5⟩⟩) (fun H5 s5 Q q=>⟨_,rfl,_,rfl,_,rfl,_,rfl,p,lr,ld,Rs,n,gu,rest,rfl,LA.same (s4.trans s5),fun H6 s6=>⟨_,rfl,q H6 s6⟩⟩)) hl s4 q4 (by rw[zsn,zsn];omega) rfl (fun H5 s5 q5 _=>?_);refine⟨_,rfl,hq l H5 ?_ s5 hl⟩;unfold whyS;rw[q5,zt3,zt3]
abbrev Vj:Stmt:=Z3 (top 23) 0
theorem Og:Zl ["self"] ["self"] (Zj Vj):=fnS
theorem Oh(F:Fun K "__init__" "Ledger.__init__" Vj f fd)(T:Tx K mg a):FnOk P w K mg base (CX1 P w) 1 f fd ["self"] (A8 a.zj4):=by
 refine F.okX Og ⋯ fun _ _ _ _ H _ Q E hr h=>?_;obtain⟨p,dx,rfl,hp,h⟩:=h;refine⟨_,(Zc (Y1 (K:=K) rfl (pv 0) (Z8 Zd) rfl)
 (Ze (Y1 (K:=K) rfl (pv 0) Ku rfl))),?_⟩
 refine⟨by show 0<=sizeLine;decide,fun lr hlr=>?_⟩;have np:p≠lr:=Zg hp hlr;refine⟨_,rfl,p,a.zj4,dx,[],rfl,(by rw[Zh np];exact hp),T.zks,T.zly,⋯,?_⟩;intro ld hld;have n1:ld≠p:=fun z=>by rw[z,Zb] at hld;cases hld
 have n2:ld≠lr:=fun z=>by rw[z,Zh (Ne.symm np),Zb] at hld;cases hld
 have hld0:H ld=none:=by rw[Zh n1,Zh n2] at hld;exact hld
 refine⟨_,rfl,p,a.zj4,dx,[("rounds",.ref lr)],rfl,(by rw[Zh (Ne.symm n1),Zb];rfl),T.zks,T.zlm,(by show 1<1000;decide),?_⟩;rw[zix];refine h lr ld _ ⟨⟨dx,Zb⟩,⟨[],?_,.nil⟩,⟨[],?_,fun n c=>rfl,zs9 _⟩⟩ (fun b o e hb=>?_) hlr hld0 (Ne.symm n2)
 ·rw[Zh (Ne.symm np),Zh (Ne.symm n2),Zh (Ne.symm np),Zb]
 ·rw[Zh n1,Zb]
 ·rw[Zh hb,Zh (Zg e hld0),Zh hb,Zh (Zg e hlr)];exact e
abbrev Uy:Stmt:=Z3 (top 23) 1
theorem Xm:Zl ["self","rows","at","home","guest","grade","referee"] ["self","rows"] (Zj Uy):=fnS
theorem Ln(F:Fun K "write" "Ledger.write" Uy f fd)(T:Tx K mg a):FnOk P w K mg base (CX1 P w) 1 f fd ["self","rows"] (Dx a.zj4):=by
 refine F.okX Xm ⋯ fun _ _ _ _ H _ Q E hr h=>?_;obtain⟨p,lr,ld,Rs,b,ts,rs,rfl,LA,hb,nb,tl,hl,hl2,h⟩:=h;have hu:=Wa hr;refine⟨_,(Zc (Yk (Zn (K:=K) rfl (pv 0) rfl) (Xw (Kz (K:=K) rfl) (by rfl) T.zoh PyProof.Rows.boot_tuple (Za (pv 1) Zd)))
 (Zc (pS 2 Xm.nd (Zt (cL K) (by rfl) T.zkj PySem.boot_len (Za (Zn (K:=K) rfl (pv 0) rfl) Zd)))
 (Ze (Yy PassesOwn.leaving rfl (Yj (K:=K) rfl (pv 1)) (Wm (K:=K) (n:=4) rfl rfl (Zy (pN 3 Xm.nd) (Zy (pN 4 Xm.nd) (Zy (pN 5 Xm.nd) (Zy (pN 6 Xm.nd) Wl)))))
  (Ze (Z6 (Zo Te (pv 6) Y6 (Zw _))
   (Zc (Yq hu (Zn (K:=K) rfl (pv 0) rfl) (Yc (Za (pv 6) (Za (pv 3) Zd))) (pv 2) rfl)
   (Ze (Yq hu (Zn (K:=K) rfl (pv 0) rfl) (Yc (Za (pv 6) (Za (pv 4) Zd))) (pv 2) rfl)))
   Zs)))))),?_⟩
 obtain⟨⟨dx,hp⟩,⟨rr,hlr,rl⟩,⟨kvs,hd,mt,kl⟩⟩:=LA;have hlen:ts.length=rs.length:=by rw[tl.length,zsk]
 have nrd:lr≠ld:=Yp hlr hd (by intro z;cases z);have nrp:p≠lr:=Yp hp hlr (by intro z;cases z);have npd:p≠ld:=Yp hp hd (by intro z;cases z);have nbd:b≠ld:=Yp hb hd (by intro z;cases z);refine⟨_,rfl,p,a.zj4,dx,_,_,rfl,hp,T.zks,T.zly,Sb,lr,rr,rfl,hlr,_,rfl,b,ts,rfl,.inl ⟨SqL.of hb,fun t ht=>⟨rr,(by rw[Zh (Zg hlr ht)];exact hlr),Vy (by rw[rl.length];omega),?_⟩⟩⟩;have ntr:t≠lr:=Ne.symm (Zg hlr ht);have k1:∀ x o,H x=some o->x≠lr->upd (upd H t (.tup ts)) lr (.lst (rr++[.ref t])) x=some o:=fun x o e n=>by rw[Zh n,Zh (Zg e ht)];exact e
 have t1:∀ x xs,H x=some (.tup xs)->upd (upd H t (.tup ts)) lr (.lst (rr++[.ref t])) x=some (.tup xs):=fun x xs e=>k1 x _ e (Yp e hlr (by intro z;cases z));have r1:upd (upd H t (.tup ts)) lr (.lst (rr++[.ref t])) lr=some (.lst (rr++[.ref t])):=Zb;have rl1:Sv (upd (upd H t (.tup ts)) lr (.lst (rr++[.ref t]))) (rr++[.ref t]) (Rs++[rs]):=(rl.mono t1).snoc (by rw[Zh ntr,Zb]) (tl.mono t1);have tl1:=tl.mono t1;generalize upd (upd H t (.tup ts)) lr (.lst (rr++[.ref t]))=H1 at k1 t1 r1 rl1 tl1;have hp1:=k1 _ _ hp nrp;have hb1:=k1 _ _ hb nb;have hd1:=k1 _ _ hd (Ne.symm nrd);refine⟨_,rfl,p,a.zj4,dx,_,_,rfl,hp1,T.zks,T.zly,Sb,lr,_,rfl,.inl (SqL.of r1),?_⟩;have hN:(((rr++[V.ref t]).length:Nat):Int)=((Rs.length+1:Nat):Int):=by rw[zsn,rl.length];rfl
 rw[hN];refine⟨_,rfl,b,rfl,⟨_,SqL.of hb1⟩,Xv (K:=K) (a:=b) (xs:=ts) (fun i σ H'=>(∃ v1 v2 v3 v4,σ=[some (.ref p),some (.ref b),some (.int ((Rs.length+1:Nat):Int)),v1,v2,v3,v4])/\(∀ x o,H1 x=some o->x≠ld->H' x=some o) /\
  ∃ kvs',H' ld=some (.dT kvs')/\Dg kvs' (N2 Rs rs i)/\kvs'.length<=2*(tot Rs+i)) ⟨⟨_,_,_,_,rfl⟩,fun _ _ e _=>e,kvs,hd1,by rw[zbe];exact mt,by omega⟩ (fun i σ H' _ ⟨_,k,_⟩=>SqL.of (k _ _ hb1 nbd)) ?_ ?_⟩
 ·rintro i x σ H' hx ⟨⟨v1,v2,v3,v4,rfl⟩,k2,kvs',hd2,mt2,kl2⟩;obtain⟨tr,r,rfl,hr3,htr⟩:=zhd tl1 hx;have hi:i<rs.length:=(zsm.mp hr3).1;have htr2:=k2 _ _ htr (Yp htr hd1 (by intro z;cases z));refine⟨tr,_,rfl,SqT.of htr2,rfl,_,_,rfl,_,_,rfl,_,_,rfl,_,_,rfl,rfl,?_⟩;refine⟨_,rfl,rfl,_,rfl,?_⟩;cases hw:r.w with
  | none =>
    refine iteF ?_;exact⟨⟨_,_,_,_,rfl⟩,k2,kvs',hd2,by rw[zbf hr3 hw];exact mt2,by omega⟩
  | some w =>
    refine iteT ?_;have hp2:=k2 _ _ hp1 npd;refine⟨_,rfl,_,rfl,p,a.zj4,dx,_,_,rfl,hp2,T.zks,T.zlm,R6,_,rfl,_,rfl,sz2,fun t2 ht2=>⟨ld,_,rfl,DPut.t (k:=[inl w,inl r.h]) (by rw[Zh (Zg hd2 ht2)];exact hd2) Zb ((Nat.lt_trans (zt0 (show _<=200000 by omega) ⋯) Uu)),?_⟩⟩;have k3:∀ x o,H1 x=some o->x≠ld->upd (upd H' t2 (.tup [oV (some w),.int r.h])) ld (.dT (putK kvs' [inl w,inl r.h] (.int ((Rs.length+1:Nat):Int)))) x=some o:=fun x o e n=>by
     have:=k2 x o e n;rw[Zh n,Zh (Zg this ht2)];exact this
    have hd3:upd (upd H' t2 (.tup [oV (some w),.int r.h])) ld (.dT (putK kvs' [inl w,inl r.h] (.int ((Rs.length+1:Nat):Int)))) ld=some (.dT (putK kvs' [inl w,inl r.h] (.int ((Rs.length+1:Nat):Int)))):=Zb;have l3:=Y3 kvs' ([inl w,inl r.h]:List Key) (.int ((Rs.length+1:Nat):Int));generalize upd (upd H' t2 (.tup [oV (some w),.int r.h])) ld (.dT (putK kvs' [inl w,inl r.h] (.int ((Rs.length+1:Nat):Int))))=H3 at k3 hd3;have hp3:=k3 _ _ hp1 npd;refine⟨_,rfl,_,rfl,p,a.zj4,dx,_,_,rfl,hp3,T.zks,T.zlm,R6,_,rfl,_,rfl,sz2,fun t4 ht4=>⟨ld,_,rfl,DPut.t (k:=[inl w,inl r.g]) (by rw[Zh (Zg hd3 ht4)];exact hd3) Zb ((Nat.lt_trans (zt0 (show _<=200000 by omega) ⋯) Uu)),?_⟩⟩;refine⟨⟨_,_,_,_,rfl⟩,fun x o e n=>?_,_,Zb,?_,?_⟩
    ·have:=k3 x o e n;rw[Zh n,Zh (Zg this ht4)];exact this
    ·rw[<- zbg hr3 hw];exact(mt2.put w r.h _ (Nat.succ_pos _)).put w r.g _ (Nat.succ_pos _)
    ·have:=Y3 (putK kvs' ([inl w,inl r.h]:List Key) (.int ((Rs.length+1:Nat):Int))) ([inl w,inl r.g]:List Key) (.int ((Rs.length+1:Nat):Int));omega
 ·rintro σ H' ⟨⟨v1,v2,v3,v4,rfl⟩,k2,kvs',hd2,mt2,kl2⟩;rw[hlen] at mt2 kl2;rw[zdd] at mt2;refine h H' ⟨⟨dx,k2 _ _ hp1 npd⟩,⟨_,k2 _ _ r1 nrd,rl1.mono fun x xs e=>k2 _ _ e (Yp e hd1 (by intro z;cases z))⟩,kvs',hd2,mt2,by rw[zdc];exact kl2⟩ fun x o e n1 n2=>k2 x o (k1 x o e n1) n2
abbrev Tu:Stmt:=Z3 (top 23) 2
theorem Jp:Zl ["self"] ["self"] (Zj Tu):=fnS
theorem Jq(F:Fun K "over" "Ledger.over" Tu f fd)(T:Tx K mg a):FnOk P w K mg base (CX1 P w) 1 f fd ["self"] (N1 a.zj4):=by
 refine F.okX Jp ⋯ fun _ _ _ _ H _ Q E hr h=>?_;obtain⟨p,lr,ld,Rs,rfl,LA,h⟩:=h;refine⟨_,(Ze (Zm (Zt (cL K) (by rfl) T.zkj PySem.boot_len (Za (Zn (K:=K) rfl (pv 0) rfl) Zd)))),?_⟩;obtain⟨⟨dx,hp⟩,⟨rr,hlr,rl⟩,_⟩:=LA;refine⟨_,rfl,p,a.zj4,dx,_,_,rfl,hp,T.zks,T.zly,Sb,lr,_,rfl,.inl (SqL.of hlr),?_⟩;rw[rl.length];exact h
abbrev Uz:Stmt:=Z3 (top 23) 3
theorem Lo:Zl ["self","at"] ["self","at"] (Zj Uz):=fnS
theorem Lp(F:Fun K "facts" "Ledger.facts" Uz f fd)(T:Tx K mg a):FnOk P w K mg base (CX1 P w) 1 f fd ["self","at"] (A9 a.zj4 a.zka):=by
 refine F.okX Lo ⋯ fun _ _ _ _ H _ Q E hr h=>?_;obtain⟨p,lr,ld,Rs,i,rfl,LA,si,h1,h2⟩:=h;refine⟨_,(Zc (Z6 (PW.pt (Td (Zo Ga (pv 1) Zi (Zw _)) (Vx (Zo Rw (pv 1) (Zt (cL K) (by rfl) T.zkj PySem.boot_len (Za (Zn (K:=K) rfl (pv 0) rfl) Zd)) (Zw _)))))
  (Ze (Xa Y9 rfl T.zok rfl (Za (Wz (Zx (Xk ⋯) (Zx (Wr (pv 1)) (Zx (Xk ⋯) Wy))) ⋯) Zd)))
  Zs)
 (Ze (Zm (Xw (Xc (K:=K) rfl) (by rfl) T.zlw PyProof.Rows.boot_list (Za (pI (iL K) (Zn (K:=K) rfl (pv 0) rfl) (Zq Ru (pv 1) Zi)) Zd))))),?_⟩
 obtain⟨⟨dx,hp⟩,⟨rr,hlr,rl⟩,_⟩:=LA;refine⟨_,rfl,_,_,rfl,rfl,_,rfl,?_⟩;refine itD (fun hc=>?_) (fun hc=>?_)
 ·refine iteT ?_;exact⟨_,rfl,.inl ⟨_,rfl,si⟩,fun z=>⟨sz1,h1 (.inl hc)⟩⟩
 refine⟨_,rfl,_,rfl,p,a.zj4,dx,_,_,rfl,hp,T.zks,T.zly,Sb,lr,_,rfl,.inl (SqL.of hlr),_,_,rfl,rfl,_,rfl,?_⟩;rw[rl.length];refine itD (fun hc2=>?_) (fun hc2=>?_)
 ·exact⟨_,rfl,.inl ⟨_,rfl,si⟩,fun z=>⟨sz1,h1 (.inr hc2)⟩⟩
 obtain⟨k,rfl⟩:∃ k:Nat,i=(k:Int)+1:=⟨(i-1).toNat,by omega⟩;have hk:k<Rs.length:=by omega
 obtain⟨t,xs,e1,e2,e3⟩:=rl.getR (zsl hk);refine⟨_,rfl,p,a.zj4,dx,_,_,rfl,hp,T.zks,T.zly,Sb,_,rfl,_,_,rfl,rfl,lr,_,_,_,rfl,rfl,SqL.of hlr,(show atI rr ((k:Int)+1-1)=some (.ref t) by rw[show (k:Int)+1-1=(k:Int) by omega];exact Z9 e1),t,xs,rfl,.inr (SqT.of e2),fun l hl=>h2 k _ rfl (zsl hk) l xs hl e3⟩
abbrev S7:Stmt:=Z3 (top 23) 4
theorem Iz:Zl ["self","number","club"] ["self","number","club"] (Zj S7):=fnS
theorem I9(F:Fun K "met" "Ledger.met" S7 f fd)(T:Tx K mg a):FnOk P w K mg base (CX1 P w) 1 f fd ["self","number","club"] (zf5 a.zj4):=by
 refine F.okX Iz ⋯ fun _ _ _ _ H _ Q E hr h=>?_;obtain⟨p,lr,ld,Rs,n,c,rfl,LA,h⟩:=h;have hu:=Wa hr;refine⟨_,(Ze (Zm (zcw hu (Zn (K:=K) rfl (pv 0) rfl) (Yc (Za (pv 1) (Za (pv 2) Zd))) Zi ⟨rfl,rfl,rfl,rfl⟩))),?_⟩;obtain⟨⟨dx,hp⟩,_,⟨kvs,hd,mt,kl⟩⟩:=LA;refine⟨_,rfl,p,a.zj4,dx,_,_,rfl,hp,T.zks,T.zlm,R6,ld,rfl,.inr ⟨kvs,.inl hd⟩,_,rfl,_,rfl,sz2,fun t ht=>⟨_,DGet.t (k:=[inl n,inl c]) (by rw[Zh (Zg hd ht)];exact hd) Zb,?_⟩⟩;have e:((valV kvs ([inl n,inl c]:List Key)).getD (.int 0))=.int (metS Rs n c:Nat):=by
  rw[mt n c];split
  ·rename_i z;rw[z];rfl
  ·rfl
 rw[e];exact h _ (Zf ht)
abbrev Tv:Stmt:=top 25
theorem Jr:Zl ["value","least","most"] ["value","least","most"] (Zj Tv):=fnS
theorem Js(F:Fun K "check_range" "check_range" Tv f fd)(T:Tx K mg a):FnOk P w K mg base (CX1 P w) 1 f fd ["value","least","most"] (O9 a.zkp):=by
 refine F.okX Jr ⋯ fun _ _ _ _ H _ Q E hr h=>?_;obtain⟨v,lo,m,rfl,s1,s2,s3,h⟩:=h;refine⟨_,(Ze (Z6 (PW.pt (Td (Zo Ga (pv 0) (pv 1) (Zw _)) (Vx (Zo Rw (pv 0) (pv 2) (Zw _)))))
  (Ze (Xa Y9 rfl T.zqa rfl (Za (Wz (Zx (Wr (pv 0)) (Zx (Xk ⋯) (Zx (Wr (pv 1)) (Zx (Xk ⋯) (Zx (Wr (pv 2)) Wy))))) ⋯) Zd)))
  Zs)),?_⟩
 walk_at "rd";refine itD (fun h1=>?_) (fun h1=>?_)
 ·rw[if_pos (Or.inl h1)] at h;refine iteT ?_;walk_at "rd";refine⟨.inl ⟨_,rfl,s1⟩,_,rfl,.inl ⟨_,rfl,s2⟩,_,rfl,.inl ⟨_,rfl,s3⟩,fun z=>⟨sz1,h⟩⟩
 ·walk_at "rd";refine itD (fun h2=>?_) (fun h2=>?_)
  ·rw[if_pos (Or.inr h2)] at h;walk_at "rd";refine⟨.inl ⟨_,rfl,s1⟩,_,rfl,.inl ⟨_,rfl,s2⟩,_,rfl,.inl ⟨_,rfl,s3⟩,fun z=>⟨sz1,h⟩⟩
  ·rw[if_neg (fun z=>z.elim h1 h2)] at h;exact h
abbrev Tw:Stmt:=top 35
theorem Qe:Zl ["matches","count"] ["matches"] (Zj Tw):=fnS
theorem Jt(F:Fun K "check_count" "check_count" Tw f fd)(T:Tx K mg a):FnOk P w K mg base (CX1 P w) 1 f fd ["matches"] (D4 K (ca a)):=by
 refine F.okX Qe ⋯ fun _ _ _ _ H _ Q E hr h=>?_;obtain⟨b,ts,rfl,hs,hl,h1,h2⟩:=h;refine⟨_,(Zc (pS 1 Qe.nd (Zt (cL K) (by rfl) T.zkj PySem.boot_len (Za (pv 0) Zd)))
 (Ze (Z6 (Zo Rw (pv 1) (Wb rfl T.zlb) (Zw _))
  (Ze (Xa Y9 rfl T.zpb rfl (Za (Wz (Zx (Wr (pv 1)) (Zx (Xk ⋯) (Zx (Wr (Wb rfl T.zlb)) Wy))) ⋯) Zd)))
  Zs))),?_⟩
 refine⟨_,rfl,b,_,rfl,.inl hs,?_⟩;walk_at "rd";refine itD (fun hc=>?_) (fun hc=>?_)
 ·walk_at "rd";exact⟨.inl ⟨_,rfl,Z7 ⋯ ⋯⟩,.inl ⟨_,rfl,Yh ⋯⟩,fun z=>⟨sz1,h1 ⋯⟩⟩
 ·exact h2 ⋯
abbrev U0:Stmt:=top 36
theorem W0:Zl ["matches","home","guest","grade"] ["matches"] (Zj U0):=fnS
theorem Lq(F:Fun K "check_ranges" "check_ranges" U0 f fd)(T:Tx K mg a)(zkc:Z4 P w K mg base "check_range" 1 ["value","least","most"] (O9 a.zkp)):FnOk P w K mg base (CX1 P w) 2 f fd ["matches"] (G5 K (ca a)):=by
 refine F.okX W0 ⋯ fun _ _ _ _ H _ Q E hr h=>?_;obtain⟨b,ts,Ms,rfl,hs,tl,sm,h1,h2⟩:=h;refine⟨_,(Ze (Yy PassesOwn.leaving rfl (Yj (K:=K) rfl (pv 0)) (Wm (K:=K) (n:=3) rfl rfl (Zy (pN 1 W0.nd) (Zy (pN 2 W0.nd) (Zy (pN 3 W0.nd) Wl))))
  (Zc (Z2 (pF zkc hr (Za (pv 1) (Za Zi (Za (Wb rfl T.zlo) Zd)))))
  (Zc (Z2 (pF zkc hr (Za (pv 2) (Za Zi (Za (Wb rfl T.zlo) Zd)))))
  (Ze (Z2 (pF zkc hr (Za (pv 3) (Za Zi (Za (Wb rfl T.zlq) Zd)))))))))),?_⟩
 have hlen:ts.length=Ms.length:=by rw[tl.length,zsk]
 let jv1:Nat->L2.St->Hp->Prop:=fun i σ H'=>H'=H/\(∃ v1 v2 v3,σ=[some (.ref b),v1,v2,v3])/\∀ m∈Ms.take i,¬ badM m
 refine⟨_,rfl,b,rfl,⟨_,hs⟩,Xv (K:=K) (a:=b) (xs:=ts) jv1 ⟨rfl,⟨_,_,_,rfl⟩,by simp⟩ (fun i σ H' _ ⟨e,_⟩=>e▸hs) ?_ ?_⟩
 ·rintro i x σ H' hx ⟨rfl,⟨v1,v2,v3,rfl⟩,hi⟩;obtain⟨t,m,rfl,hm,ht⟩:=K1 tl hx;have hmem:=zsy hm;obtain⟨s1,s2,s3⟩:=sm m hmem;have bad:badM m->E (.ref a.zkp) none H':=fun hb=>h1 ⟨m,hmem,hb⟩;refine⟨t,_,rfl,SqT.of ht,rfl,_,_,rfl,_,_,rfl,_,_,rfl,rfl,?_⟩;refine⟨_,rfl,_,1,99,rfl,s1,Yh ⋯,Yh ⋯,?_⟩;refine E6 (fun b1=>bad (by unfold badM;omega)) (fun b1=>?_);refine⟨_,rfl,_,1,99,rfl,s2,Yh ⋯,Yh ⋯,?_⟩;refine E6 (fun b2=>bad (by unfold badM;omega)) (fun b2=>?_);refine⟨_,rfl,_,1,9,rfl,s3,Yh ⋯,Yh ⋯,?_⟩;refine E6 (fun b3=>bad (by unfold badM;omega)) (fun b3=>?_);exact⟨rfl,⟨_,_,_,rfl⟩,G4 hm hi (by unfold badM;omega)⟩
 ·rintro σ H' ⟨rfl,⟨v1,v2,v3,rfl⟩,hi⟩;rw[hlen,zs7] at hi;exact h2 fun ⟨m,hm,hb⟩=>hi m hm hb
abbrev Tz:Stmt:=top 37
theorem Vk:Zl ["matches","home","guest","grade"] ["matches"] (Zj Tz):=fnS
theorem Ju(F:Fun K "check_clubs" "check_clubs" Tz f fd)(T:Tx K mg a):FnOk P w K mg base (CX1 P w) 1 f fd ["matches"] (D5 K (ca a)):=by
 refine F.okX Vk ⋯ fun _ _ _ _ H _ Q E hr h=>?_;obtain⟨b,ts,Ms,rfl,hs,tl,sm,h1,h2⟩:=h;refine⟨_,(Ze (Yy PassesOwn.leaving rfl (Yj (K:=K) rfl (pv 0)) (Wm (K:=K) (n:=3) rfl rfl (Zy (pN 1 Vk.nd) (Zy (pN 2 Vk.nd) (Zy (pN 3 Vk.nd) Wl))))
  (Ze (Z6 (Zo Vt (pv 1) (pv 2) (Zw _))
   (Ze (Xa Y9 rfl T.zqf rfl (Za (Wz (Zx (Xk ⋯) (Zx (Wr (pv 1)) (Zx (Xk ⋯) Wy))) ⋯) Zd)))
   Zs)))),?_⟩
 have hlen:ts.length=Ms.length:=by rw[tl.length,zsk]
 let jv2:Nat->L2.St->Hp->Prop:=fun i σ H'=>H'=H/\(∃ v1 v2 v3,σ=[some (.ref b),v1,v2,v3])/\∀ m∈Ms.take i,¬ (m.1=m.2.1)
 refine⟨_,rfl,b,rfl,⟨_,hs⟩,Xv (K:=K) (a:=b) (xs:=ts) jv2 ⟨rfl,⟨_,_,_,rfl⟩,by simp⟩ (fun i σ H' _ ⟨e,_⟩=>e▸hs) ?_ ?_⟩
 ·rintro i x σ H' hx ⟨rfl,⟨v1,v2,v3,rfl⟩,hi⟩;obtain⟨t,m,rfl,hm,ht⟩:=K1 tl hx;have hmem:=zsy hm;obtain⟨s1,s2,s3⟩:=sm m hmem;refine⟨t,_,rfl,SqT.of ht,rfl,_,_,rfl,_,_,rfl,_,_,rfl,rfl,?_⟩;refine⟨_,rfl,_,rfl,rfl,_,rfl,?_⟩;refine itV (fun he=>?_) (fun he=>?_)
  ·exact⟨_,rfl,.inl ⟨_,rfl,s1⟩,fun z=>⟨sz1,h1 ⟨m,hmem,he⟩⟩⟩
  ·exact⟨rfl,⟨_,_,_,rfl⟩,G4 (p:=fun m=>m.1=m.2.1) hm hi he⟩
 ·rintro σ H' ⟨rfl,⟨v1,v2,v3,rfl⟩,hi⟩;rw[hlen,zs7] at hi;exact h2 fun ⟨m,hm,hb⟩=>hi m hm hb
abbrev Mc:Stmt:=top 38
theorem Ae:Zl ["matches"] ["matches"] (Zj Mc):=fnS
theorem Af(F:Fun K "checked" "checked" Mc f fd)(T:Tx K mg a)(zns:Z4 P w K mg base "check_count" 1 ["matches"] (D4 K (ca a)))(zm9:Z4 P w K mg base "check_ranges" 2 ["matches"] (G5 K (ca a)))(znk:Z4 P w K mg base "check_clubs" 1 ["matches"] (D5 K (ca a))):FnOk P w K mg base (CX1 P w) 3 f fd ["matches"] (K8 K (ca a)):=by
 refine F.okX Ae ⋯ fun _ _ _ _ H _ Q E hr h=>?_;obtain⟨b,ts,Ms,rfl,hs,tl,sm,hl,h1,h2,h3,h4⟩:=h;refine⟨_,(Zc (Z2 (pF zns hr (Za (pv 0) Zd)))
 (Zc (Z2 (pF zm9 hr (Za (pv 0) Zd)))
 (Zc (Z2 (pF znk hr (Za (pv 0) Zd)))
 (Ze (Zm (Xw (Xc (K:=K) rfl) (by rfl) T.zlw PyProof.Rows.boot_list (Za (pv 0) Zd))))))),?_⟩
 have hlen:ts.length=Ms.length:=by rw[tl.length,zsk]
 refine⟨_,rfl,b,ts,rfl,hs,by omega,fun hc=>h1 ⋯,fun hc=>?_⟩;refine⟨_,rfl,b,ts,Ms,rfl,hs,tl,sm,fun hb=>h2 ⋯ hb,fun hb=>?_⟩;refine⟨_,rfl,b,ts,Ms,rfl,hs,tl,sm,fun hb2=>h3 ⋯ hb hb2,fun hb2=>?_⟩;exact⟨_,rfl,b,ts,rfl,.inl hs,h4 ⋯ hb hb2⟩
abbrev Vl:Stmt:=Z3 (top 40) 0
theorem Oi:Zl ["self"] ["self"] (Zj Vl):=fnS
theorem Oj(F:Fun K "__init__" "Roster.__init__" Vl f fd)(T:Tx K mg a):FnOk P w K mg base (CX1 P w) 1 f fd ["self"] (zaf (ca a)):=by
 refine F.okX Oi ⋯ fun _ _ _ _ H _ Q E hr h=>?_;obtain⟨p,dx,rfl,hp,h⟩:=h;refine⟨_,(Ze (Y1 (K:=K) rfl (pv 0) O1 rfl)),?_⟩;intro d hd;exact⟨_,rfl,p,a.zj5,dx,[],rfl,(by rw[Zh (Zg hp hd)];exact hp),T.zkr,T.zk3,⋯,h d hd⟩
abbrev W6:Stmt:=Z3 (top 40) 1
theorem Pa:Zl ["self","number","grade","club"] ["self","number","grade","club"] (Zj W6):=fnS
theorem Pb(F:Fun K "check_new" "Roster.check_new" W6 f fd)(T:Tx K mg a)(zkc:Z4 P w K mg base "check_range" 1 ["value","least","most"] (O9 a.zkp)):FnOk P w K mg base (CX1 P w) 2 f fd ["self","number","grade","club"] (P5 (ca a)):=by
 refine F.okX Pa ⋯ fun _ _ _ _ H _ Q E hr h=>?_;obtain⟨p,d,R,n,g,c,rfl,RA,sm,h⟩:=h;have hu:=Wa hr;refine⟨_,(Zc (Z2 (pF zkc hr (Za (pv 1) (Za Zi (Za (Wb rfl T.zlz) Zd)))))
 (Zc (Z2 (pF zkc hr (Za (pv 2) (Za Zi (Za (Wb rfl T.zlq) Zd)))))
 (Zc (Z2 (pF zkc hr (Za (pv 3) (Za Zi (Za (Wb rfl T.zlo) Zd)))))
 (Zc (Z6 (Uq (Pt hu (pv 1) (Zn (K:=K) rfl (pv 0) rfl)))
  (Ze (Xa Y9 rfl T.zpq rfl (Za (Wz (Zx (Xk ⋯) (Zx (Wr (pv 1)) (Zx (Xk ⋯) Wy))) ⋯) Zd)))
  Zs)
 (Ze (Z6 (Zo zfv (Zt za7 (by rfl) T.zkj PySem.boot_len (Za (Zn (K:=K) rfl (pv 0) rfl) Zd)) (Wb rfl T.zk4) (Zw _))
  (Ze (Xa Y9 rfl T.zot rfl (Za (Wz (Zx (Xk ⋯) (Zx (Wr (Wb rfl T.zk4)) (Zx (Xk ⋯) Wy))) ⋯) Zd)))
  Zs)))))),?_⟩
 obtain⟨sn,sg,sc⟩:=sm;obtain⟨⟨dx,kvs,hp,hd,en⟩,nd⟩:=id RA;have bad:∀ {A B:Prop},(badI n g c->(if badI n g c then A else B)->A):=fun hb z=>by rw[if_pos hb] at z;exact z
 refine⟨_,rfl,n,1,999,rfl,sn,Yh ⋯,Yh ⋯,?_⟩;refine E6 (fun b1=>bad (by unfold badI;omega) h) (fun b1=>?_);refine⟨_,rfl,g,1,9,rfl,sg,Yh ⋯,Yh ⋯,?_⟩;refine E6 (fun b2=>bad (by unfold badI;omega) h) (fun b2=>?_);refine⟨_,rfl,c,1,99,rfl,sc,Yh ⋯,Yh ⋯,?_⟩;refine E6 (fun b3=>bad (by unfold badI;omega) h) (fun b3=>?_);rw[if_neg (by unfold badI;omega)] at h;refine⟨_,rfl,_,rfl,p,a.zj5,dx,_,_,rfl,hp,T.zkr,T.zk3,W5,d,_,rfl,DGet.k (k:=inl n) hd,_,rfl,?_⟩;rw[en.isSome nd];refine itD (fun hn=>?_) (fun hn=>?_)
 ·rw[if_pos hn] at h;exact⟨_,rfl,.inl ⟨_,rfl,sn⟩,fun z=>⟨sz1,h⟩⟩
 rw[if_neg hn] at h;refine⟨_,rfl,p,a.zj5,dx,_,_,rfl,hp,T.zkr,T.zk3,W5,d,_,rfl,hd,_,_,rfl,rfl,_,rfl,?_⟩;rw[en.length];refine itD (fun hz=>?_) (fun hz=>?_)
 ·rw[if_pos ⋯] at h;exact⟨.inl ⟨_,rfl,Yh ⋯⟩,fun z=>⟨sz1,h⟩⟩
 rw[if_neg ⋯] at h;exact h
abbrev Wj:Stmt:=Z3 (top 40) 2
theorem Rp:Zl ["self","number"] ["self","number"] (Zj Wj):=fnS
theorem Rq(F:Fun K "check_known" "Roster.check_known" Wj f fd)(T:Tx K mg a):FnOk P w K mg base (CX1 P w) 1 f fd ["self","number"] (Sx (ca a)):=by
 refine F.okX Rp ⋯ fun _ _ _ _ H _ Q E hr h=>?_;obtain⟨p,d,R,n,rfl,RA,sn,h⟩:=h;have hu:=Wa hr;refine⟨_,(Ze (Z6 (Uq (Qu hu (pv 1) (Zn (K:=K) rfl (pv 0) rfl)))
  (Ze (Xa Y9 rfl T.zo4 rfl (Za (Wz (Zx (Xk ⋯) (Zx (Wr (pv 1)) (Zx (Xk ⋯) Wy))) ⋯) Zd)))
  Zs)),?_⟩
 obtain⟨⟨dx,kvs,hp,hd,en⟩,nd⟩:=id RA;refine⟨_,rfl,_,rfl,p,a.zj5,dx,_,_,rfl,hp,T.zkr,T.zk3,W5,d,_,rfl,DGet.k (k:=inl n) hd,_,rfl,?_⟩;rw[en.isSome nd];by_cases hn:n∈R.map (·.1)
 ·rw[zss hn];rw[if_pos hn] at h;exact iteF h
 ·rw[zsw hn];rw[if_neg hn] at h;exact iteT ⟨_,rfl,.inl ⟨_,rfl,sn⟩,fun z=>⟨sz1,h⟩⟩
abbrev S8:Stmt:=Z3 (top 40) 3
theorem Hc:Zl ["self","number","grade","club"] ["self","number","grade","club"] (Zj S8):=fnS
theorem He(F:Fun K "add" "Roster.add" S8 f fd)(T:Tx K mg a)(zku:Zu P w K mg base a.zj5 "check_new" 2 ["self","number","grade","club"] (P5 (ca a))):FnOk P w K mg base (CX1 P w) 3 f fd ["self","number","grade","club"] (zdx (ca a)):=by
 refine F.okX Hc ⋯ fun _ _ _ _ H _ Q E hr h=>?_;obtain⟨p,d,R,n,g,c,rfl,RA,sm,hl,h⟩:=h;have hu:=Wa hr;refine⟨_,(Zc (Z2 (Xd (pv 0) T.zkr zku (hr.mono ⋯) Zk (Za (pv 1) (Za (pv 2) (Za (pv 3) Zd)))))
 (Ze (Yq hu (Zn (K:=K) rfl (pv 0) rfl) (pv 1) (Yc (Za (pv 2) (Za (pv 3) Zd))) rfl))),?_⟩
 obtain⟨⟨dx,kvs,hp,hd,en⟩,nd⟩:=id RA;refine⟨_,rfl,p,dx,_,rfl,hp,Xf.no ⋯,_,rfl,_,rfl,_,rfl,p,d,R,n,g,c,rfl,RA,sm,?_⟩;refine it2 h (fun _ z=>z) fun hb h=>it2 h (fun _ z=>z) fun hn h=>it2 h (fun _ z=>z) fun hz h=>?_;refine⟨_,rfl,_,rfl,sz2,fun t ht=>?_⟩;have ntp:p≠t:=Zg hp ht;have ntd:d≠t:=Zg hd ht;have npd:p≠d:=Yp hp hd (by intro z;cases z);refine⟨_,rfl,p,a.zj5,dx,_,_,rfl,(by rw[Zh ntp];exact hp),T.zkr,T.zk3,W5,_,rfl,d,_,rfl,DPut.k (k:=inl n) (by rw[Zh ntd];exact hd) (Vy (by rw[en.length];exact hl)),?_⟩;rw[zbr (en.val_none hn)];refine h _ ⟨⟨dx,_,(by rw[Zh npd,Zh ntp];exact hp),Zb,?_⟩,?_⟩ fun b o e hb=>(by rw[Zh hb,Zh (Zg e ht)];exact e)
 ·refine W4.snoc (by rw[Zh (Ne.symm ntd)];exact Zb) (en.mono fun b xs e=>?_);rw[Zh (Yp e hd (by intro z;cases z)),Zh (Zg e ht)];exact e
 ·rw[zsq];exact Kj nd hn
abbrev Uc:Stmt:=Z3 (top 40) 4
theorem Md:Zl ["self","number"] ["self","number"] (Zj Uc):=fnS
theorem Me(F:Fun K "strike" "Roster.strike" Uc f fd)(T:Tx K mg a):FnOk P w K mg base (CX1 P w) 1 f fd ["self","number"] (Dr (ca a)):=by
 refine F.okX Md ⋯ fun _ _ _ _ H _ Q E hr h=>?_;obtain⟨p,d,R,n,g,c,rfl,RA,h⟩:=h;refine⟨_,(Ze (Z2 (zcx (Zn (K:=K) rfl (pv 0) rfl) (pv 1) ⟨rfl,rfl,rfl,rfl⟩))),?_⟩;obtain⟨⟨dx,kvs,hp,hd,en⟩,nd⟩:=id RA;have npd:p≠d:=Yp hp hd (by intro z;cases z);obtain⟨t,e1,e2⟩:=en.val_some nd (show (n,g,c)∈R++[(n,g,c)] by simp);have hn:n∉R.map (·.1):=by
  rw[zsq,List.nodup_append] at nd;exact fun z=>nd.2.2 n z n (by simp) rfl
 refine⟨_,rfl,p,a.zj5,dx,_,_,rfl,hp,T.zkr,T.zk3,W5,d,rfl,.inl ⟨kvs,.inl hd⟩,_,rfl,kvs,inl n,_,hd,rfl,e1,?_⟩;refine h _ ⟨⟨dx,_,(by rw[Zh npd];exact hp),Zb,(en.unsnoc hn).mono fun b xs e=>?_⟩,?_⟩ fun b o e hb=>(by rw[Zh hb];exact e)
 ·rw[Zh (Yp e hd (by intro z;cases z))];exact e
 ·rw[zsq,List.nodup_append] at nd;exact nd.1
abbrev V1:Stmt:=Z3 (top 40) 6
theorem Ng:Zl ["self"] ["self"] (Zj V1):=fnS
theorem Nh(F:Fun K "numbers" "Roster.numbers" V1 f fd)(T:Tx K mg a):FnOk P w K mg base (CX1 P w) 1 f fd ["self"] (K3 (ca a)):=by
 refine F.okX Ng ⋯ fun _ _ _ _ H _ Q E hr h=>?_;obtain⟨p,d,R,rfl,RA,h⟩:=h;refine⟨_,(Ze (Zm (Xw (Bn rfl) (by rfl) T.zlw PyProof.Rows.boot_list (Za (Zn (K:=K) rfl (pv 0) rfl) Zd)))),?_⟩;obtain⟨⟨dx,kvs,hp,hd,en⟩,nd⟩:=id RA;refine⟨_,rfl,p,a.zj5,dx,_,_,rfl,hp,T.zkr,T.zk3,W5,d,kvs,rfl,.inl hd,fun l hl=>?_⟩;rw[en.keys];exact h l hl
abbrev U1:Stmt:=Z3 (top 40) 7
theorem Lr:Zl ["self","number"] ["self","number"] (Zj U1):=fnS
theorem Ls(F:Fun K "entry" "Roster.entry" U1 f fd)(T:Tx K mg a)(zkl:Zu P w K mg base a.zj5 "check_known" 1 ["self","number"] (Sx (ca a))):FnOk P w K mg base (CX1 P w) 2 f fd ["self","number"] (Du (ca a)):=by
 refine F.okX Lr ⋯ fun _ _ _ _ H _ Q E hr h=>?_;obtain⟨p,d,R,n,rfl,RA,sn,h1,h2⟩:=h;have hu:=Wa hr;refine⟨_,(Zc (Z2 (Xd (pv 0) T.zkr zkl (hr.mono ⋯) Zk (Za (pv 1) Zd)))
 (Ze (Zm (pD hu (Zn (K:=K) rfl (pv 0) rfl) (pv 1))))),?_⟩
 obtain⟨⟨dx,kvs,hp,hd,en⟩,nd⟩:=id RA;refine⟨_,rfl,p,dx,_,rfl,hp,Xf.no ⋯,_,rfl,p,d,R,n,rfl,RA,sn,?_⟩;refine E6 (fun hn=>?_) (fun hn=>h1 hn);obtain⟨⟨m,g,c⟩,q,rfl⟩:=zsu.mp hn;obtain⟨t,e1,e2⟩:=en.val_some nd q;exact⟨_,rfl,p,a.zj5,dx,_,_,rfl,hp,T.zkr,T.zk3,W5,_,rfl,d,_,rfl,(by rw[<- e1];exact DGet.k (k:=inl m) hd),h2 g c t q e2⟩
abbrev Ud:Stmt:=Z3 (top 40) 10
theorem Mf:Zl ["self","number"] ["self","number"] (Zj Ud):=fnS
theorem Mg(F:Fun K "person" "Roster.person" Ud f fd)(T:Tx K mg a)(zm0:Zu P w K mg base a.zj5 "entry" 2 ["self","number"] (Du (ca a))):FnOk P w K mg base (CX1 P w) 3 f fd ["self","number"] (Dv (ca a)):=by
 refine F.okX Mf ⋯ fun _ _ _ _ H _ Q E hr h=>?_;obtain⟨p,d,R,n,rfl,RA,sn,h1,h2⟩:=h;refine⟨_,(Ze (Zm (Zq (Dw (K:=K) rfl) (Yc (Za (pv 1) Zd)) (Xd (pv 0) T.zkr zm0 (hr.mono ⋯) Zk (Za (pv 1) Zd))))),?_⟩;obtain⟨⟨dx,kvs,hp,hd,en⟩,nd⟩:=id RA;refine⟨_,rfl,sz1,fun t1 ht1=>?_⟩;have s1:=Zf (o:=.tup [.int n]) ht1;have q1:upd H t1 (.tup [.int n]) t1=some (.tup [.int n]):=Zb;generalize upd H t1 (.tup [.int n])=H1 at s1 q1;refine⟨_,rfl,p,dx,_,rfl,s1 _ _ hp,Xf.no ⋯,_,rfl,p,d,R,n,rfl,RA.same s1,sn,fun hn=>h1 hn H1 s1,fun g c t q ht=>?_⟩;refine⟨t1,t,_,_,rfl,rfl,SqT.of q1,SqT.of ht,by simp,by show 1+2<=sizeLine;exact sz3,fun z=>absurd z (by simp),fun _ t2 ht2=>?_⟩;exact h2 g c t2 _ q Zb (s1.trans (Zf ht2)) (s1.free ht2)
abbrev Jv:Stmt:=top 4
theorem zb7:Zl ["people","match","out","ledger","rest"] ["people","match","out","ledger","rest"] (Zj Jv):=fnS
theorem zb8(F:Fun K "takers" "takers" Jv f fd)(T:Tx K mg a)(zox:Z4 P w K mg base "reasons" 3 ["referee","match","out","ledger","rest"] (Gv K a.zj4)):FnOk P w K mg base (CX1 P w) 4 f fd ["people","match","out","ledger","rest"] (Dk K a.zj4):=by
 refine F.okX zb7 ⋯ fun _ _ _ _ H _ Q E hr h=>?_;obtain⟨lp,lo,tm,p,lr,ld,Rs,ts,Ms,os,h,gu,d,rest,rfl,hp,tl,ho,hoo,ht,LA,hl,hq⟩:=h;refine⟨_,(Ze (Zm (V9 rfl (cT ["match","ledger","rest","out"] [1,3,4,2]) (Yj (K:=K) rfl (pv 0)) (fun _ _ _ _ _=>Kk (Vd (Gn (K:=K) rfl (Dd zox (hr.mono ⋯) Dc rfl (Za (pv 0) (Za (pv 1) (Za (Oy (Ky (K:=K) rfl) (pI (iU K) (pv 0) Zi) (pv 4) (by with_unfolding_all rfl)) (Za (pv 2) (Za (pv 3) Zd)))))) (fun _=>rfl)))) (fun _ _ _ _ _=>(pI (iU K) (pv 0) Zi))))),?_⟩;have hlen:ts.length=Ms.length:=by rw[tl.length,zsk]
 refine⟨_,rfl,lp,rfl,⟨_,SqL.of hp⟩,?_⟩;refine Vc (K:=K) (a:=lp) (xs:=ts) (fun i ys H'=>Same H H'/\ys=((Ms.take i).filter (R9 Rs h gu d os rest)).map fun m=>V.int m.1) ⟨Same.refl _,rfl⟩ (fun i ys H' _ ⟨s,_⟩=>SqL.of (s _ _ hp)) (by rw[hlen];exact szN hl) (fun i ys H' ⟨_,e⟩=>by rw[e,zsk];exact zs2 (ztt _ _) (zua _ _)) ?_ ?_
 ·rintro i x ys H' hx ⟨sm,rfl⟩;obtain⟨t,m,rfl,hm,htt⟩:=K1 tl hx;have htt':=sm _ _ htt;refine⟨_,rfl,_,rfl,_,rfl,t,_,_,_,rfl,rfl,SqT.of htt',(show atI (pV m) 0=some _ from rfl),_,rfl,lo,os,rfl,.inl (SqL.of (sm _ _ ho)),rfl,zui.mpr (fun y hy=>zdf (hoo y hy)),_,rfl,_,rfl,t,tm,p,lr,ld,Rs,m.1,m.2.1,m.2.2,h,gu,d,rest,inV (.int m.1) os,rfl,htt',sm _ _ ht,LA.same sm,fun l H2 hl2 s2 _=>?_⟩;refine⟨_,.inl ⟨_,SqL.of hl2,rfl⟩,?_⟩;have e:((whyS Rs m.1 m.2.1 m.2.2 h gu d (inV (.int m.1) os) rest).map V.str).isEmpty=R9 Rs h gu d os rest m:=by unfold R9;rw[List.isEmpty_map]
  have hys:∀ ys',((Ms.take (i+1)).filter (R9 Rs h gu d os rest)).map (fun m=>V.int m.1)=((Ms.take i).filter (R9 Rs h gu d os rest)).map (fun m=>V.int m.1)++ys'↔ys'=if R9 Rs h gu d os rest m then [V.int m.1] else []:=fun ys'=>by
   rw[ztv,hm,zuq,zsq,List.append_cancel_left_eq];cases q:R9 Rs h gu d os rest m<;>simp[q,eq_comm]
  dsimp only;rw[e];refine itB (fun hb=>?_) (fun hb=>?_)
  ·rw[Bool.not_not] at hb;refine⟨_,rfl,t,_,_,_,rfl,rfl,SqT.of (s2 _ _ htt'),(show atI (pV m) 0=some _ from rfl),sm.trans s2,?_⟩;exact((hys [V.int m.1]).mpr (by rw[hb];rfl)).symm
  ·rw[Bool.not_not] at hb;refine⟨sm.trans s2,?_⟩;have:=(hys []).mpr (by rw[hb];rfl);rw[zup] at this;exact this.symm
 ·rintro ys H' ⟨sm,rfl⟩ l hl';rw[hlen,zs7];exact hq l _ Zb (sm.trans (Zf hl')) (sm.free hl')
abbrev U2:Stmt:=top 42
theorem W2:Zl ["given","taken","place","number"] ["given"] (Zj U2):=fnS
theorem Lu(F:Fun K "places_taken" "places_taken" U2 f fd)(T:Tx K mg a):FnOk P w K mg base (CX1 P w) 1 f fd ["given"] (zad K):=by
 refine F.okX W2 ⋯ fun _ _ _ _ H _ Q E hr h=>?_;obtain⟨b,gs,rfl,hb,ho,hinj,hl,h⟩:=h;have hu:=Wa hr;refine⟨_,(Zc (pS 1 W2.nd O1)
 (Zc (Yy PassesOwn.leaving rfl (zfb (K:=K) rfl rfl T.zmp (Za (pv 0) Zd)) (Wm (K:=K) (n:=2) rfl rfl (Zy (pN 2 W2.nd) (Zy (pN 3 W2.nd) Wl)))
  (Ze (Z6 (Zo Te (pv 3) Y6 (Zw _))
   (Ze (Yq hu (pv 1) (pv 3) (pv 2) rfl))
   Zs)))
 (Ze (Zm (pv 1))))),?_⟩
 have line:100<sizeLine:=by rw[sizeLine_eq];decide
 intro d hd
 let jv1:Nat->L2.St->Hp->Prop:=fun i σ' H'=>(∃ u v,σ'=[some (.ref b),some (.ref d),u,v])/\Same H H'/\∃ kvs,H' d=some (.dK kvs)/\kvs.length<=i/\(∀ (n:Int) (j:Nat),j<i->gs[j]?=some (.int n)->valV kvs (inl n:Key)=some (.int (j:Nat)))/\(∀ n:Int,(∀ j:Nat,j<i->gs[j]?≠some (.int n))->valV kvs (inl n:Key)=none)
 refine⟨_,rfl,b,rfl,⟨gs,SqL.of (Zf hd _ _ hb)⟩,zdn (xs:=gs) jv1
  ⟨⟨none,none,rfl⟩,Zf hd,[],Zb,zst _,fun n j hj=>absurd hj (zue _),fun n _=>rfl⟩ (fun i σ' H' hi p=>SqL.of (p.2.1 _ _ hb)) (fun i x t σ' H' hx p htn=>?_) (fun σ' H' p=>?_)⟩
 ·obtain⟨⟨u,v,rfl⟩,hs,kvs,hk,hkl,h1,h2⟩:=p;have s2:=hs.trans (Zf (o:=.tup [.int (i:Nat),x]) htn);have hk2:=Zf (o:=.tup [.int (i:Nat),x]) htn _ _ hk;refine⟨t,_,rfl,SqT.of Zb,rfl,_,_,rfl,_,_,rfl,rfl,?_⟩;generalize upd H' t (.tup [.int (i:Nat),x])=H2 at s2 hk2;have hi:i<gs.length:=(zsm.mp hx).1;refine Ss (b:=!decide (x=.non)) (fun Q k=>⟨_,rfl,rfl,_,rfl,k⟩) ?_;rcases ho x (zsy hx) with rfl|⟨n,rfl⟩
  ·refine iteF (Z1 ⟨⟨_,_,rfl⟩,s2,kvs,hk2,by omega,fun n j hj hg=>?_,fun n hn=>h2 n fun j hj=>hn j ⋯⟩);by_cases e:j=i
   ·subst e;rw[hx] at hg;cases hg
   ·exact h1 n j ⋯ hg
  ·refine iteT ⟨_,rfl,_,rfl,_,rfl,d,_,rfl,DPut.k (k:=inl n) hk2 ⋯,⟨_,_,rfl⟩,?_,_,Zb,?_,fun m j hj hg=>?_,fun m hm=>?_⟩
   ·exact Ya hd s2
   ·exact zs2 (Y3 kvs _ _) ⋯
   ·rw[Ww];by_cases e:j=i
    ·subst e;rw[hx] at hg;cases hg;rw[if_pos rfl]
    ·have hne:¬ ((inl m:Key)=inl n):=fun z=>by
      rw[inl.inj z] at hg;exact e (hinj j i n hg hx)
     rw[if_neg hne];exact h1 m j ⋯ hg
   ·have hne:¬ ((inl m:Key)=inl n):=fun z=>by
     rw[inl.inj z] at hm;exact hm i ⋯ hx
    rw[Ww,if_neg hne];exact h2 m fun j hj=>hm j ⋯
 ·obtain⟨⟨u,v,rfl⟩,hs,kvs,hk,hkl,h1,h2⟩:=p;exact⟨_,rfl,h d kvs H' hk ⟨fun n j hj=>h1 n j (zsm.mp hj).1 hj,fun n hn=>h2 n fun j _=>hn j⟩ hs hd⟩
abbrev S9:Stmt:=top 43
theorem Xs:Zl ["may","taken","start","into","waiting","done","place","number"] ["may","taken","start"] (Zj S9):=fnS
theorem Hf(F:Fun K "steps_into" "steps_into" S9 f fd)(T:Tx K mg a):FnOk P w K mg base (CX1 P w) 1 f fd ["may","taken","start"] (zdt K):=by
 refine F.okX Xs ⋯ fun _ _ _ _ H _ Q E hr h=>?_;obtain⟨l,d,ls,rows,kvs,gs,p,rfl,hl,il,hrl,hd,tk,FP,hp,h⟩:=h;have hu:=Wa hr;refine⟨_,(Zc (pS 3 Xs.nd (Ar (Ur (pv 2) Y6 Aq) rfl rfl (by simp) ⋯))
 (Zc (pS 4 Xs.nd (Z8 (Za (pv 2) Zd)))
 (Zc (pS 5 Xs.nd Zi)
 (Zc (Kp PassesOwn.leaving (Zo Ga (pv 5) (Zt (cL K) (by rfl) T.zkj PySem.boot_len (Za (pv 4) Zd)) (Zw _))
  (Zc (pS 6 Xs.nd (pI (iL K) (pv 4) (pv 5)))
  (Zc (pS 5 Xs.nd (Zq Yg (pv 5) Zi))
  (Ze (Yy PassesOwn.leaving rfl (Yj (K:=K) rfl (pI (iL K) (pv 0) (pv 6))) (pN 7 Xs.nd)
   (Ze (Z6 (PW.pt (Fe (Uq (Pt hu (pv 7) (pv 1))) (Fd (Uq (Qu hu (pD hu (pv 1) (pv 7)) (pv 3))))))
    (Zc (Yq hu (pv 3) (pD hu (pv 1) (pv 7)) (Yc (Za (pv 6) (Za (pv 7) Zd))) rfl)
    (Ze (Yk (pv 4) (pD hu (pv 1) (pv 7)))))
    Zs)))))))
 (Ze (Zm (pv 3))))))),?_⟩
 show let y1:TS:=_;let y2:TS:=Z0 _ y1;let y3:TS:=_;let y4:TS:=Z0 (C3 _ (Z0 _ y2)) y3;let y5:TS:=Z0 _ y4;let y6:TS:=Z0 _ y5;Z0 _ y6 _ _ _;intro y1 y2 y3 y4 y5 y6;have line0:200<sizeLine:=by rw[sizeLine_eq];decide
 intro ld hld;refine⟨_,rfl,Zb,[(inl (p:Int),.non)],rfl,(by show 1<=15;decide),?_⟩;have s0:Same H (upd (upd H ld (.dK [])) ld (.dK (Sr [] [(inl (p:Int),.non)]))):=Ya hld (Zf hld);have q0:upd (upd H ld (.dK [])) ld (.dK (Sr [] [(inl (p:Int),.non)])) ld=some (.dK [((inl (p:Int):Key),V.non)]):=Zb;generalize upd (upd H ld (.dK [])) ld (.dK (Sr [] [(inl (p:Int),.non)]))=H1 at s0 q0;refine⟨_,rfl,sz1,fun ln hln=>?_⟩;have s1:=Zf (o:=.lst [.int p]) hln;have e1:upd H1 ln (.lst [.int p]) ln=some (.lst (Rk [p])):=Zb;have q1:=s1 _ _ q0;have s01:=s0.trans s1;have nln:ld≠ln:=Zg q0 hln;have fln:H ln=none:=s0.free hln;generalize upd H1 ln (.lst [.int p])=H2 at s1 e1 q1 s01;have hbound:∀ line:List Nat,line.Nodup->(∀ c∈line,c<rows.length)->line.length<=rows.length:=fun line nd hc=>by
  have:=nd.length_le_of_subset (l₂:=List.range rows.length) fun c hcc=>ztq.mpr (hc c hcc);rw[ztu] at this;exact this
 refine⟨fun m σ' H'=>∃ (line:List Nat) (dep:Nat->Nat) (fr:Nat->Option (Nat×Int)) (into:List (Key×V)) (dn:Nat) (v6 v7:Option V),m=rows.length-dn/\dn<=line.length/\σ'=[some (.ref l),some (.ref d),some (.int p),some (.ref ld),some (.ref ln),some (.int (dn:Nat)),v6,v7]/\Same H H'/\H' ld=some (.dK into)/\H' ln=some (.lst (Rk line))/\Xq H' into line fr/\Bfs rows gs p line dep/\Done rows gs line dep dn/\Ut rows gs p line dep fr/\(∀ q∈line,q<rows.length)/\∀ here,line[dn]?=some here->∀ x∈line,dep x<=dep here+1,
  ⟨_,[p],fun _=>0,fun _=>none,_,0,_,_,rfl,zs9 _,rfl,s01,q1,e1,Bs _ _,zbm rows gs p,fun i q hi=>absurd hi (zue _),Bt,by simpa using hp,fun here _ x _=>zs9 _⟩,?_⟩
 rintro m σ Ha ⟨line,dep,fr,into,dn,v6,v7,rfl,hdn,rfl,sa,hda,hna,io,B,Dn,fo,hlt,near⟩;have hll:=hbound _ B.nodup hlt;have hnl:(Rk line).length=line.length:=by unfold Rk;rw[zsk]
 refine⟨_,rfl,_,rfl,ln,_,rfl,.inl (SqL.of hna),_,_,rfl,rfl,_,rfl,?_⟩;rw[hnl];by_cases hlt2:dn<line.length
 ·rw[zss (show ((dn:Nat):Int)<(line.length:Nat) by omega)];refine iteT ?_;obtain⟨here,hh⟩:∃ here,line[dn]?=some here:=⟨_,zsl hlt2⟩;have hhm:=zsy hh;have hhere:=hlt here hhm;have hhv:(Rk line)[dn]?=some (.int (here:Nat)):=by unfold Rk;rw[zsr,hh];rfl
  refine⟨fun σ' H'=>∃ (line:List Nat) (dep:Nat->Nat) (fr:Nat->Option (Nat×Int)) (into:List (Key×V)) (v6 v7:Option V),dn+1<=line.length/\σ'=[some (.ref l),some (.ref d),some (.int p),some (.ref ld),some (.ref ln),some (.int ((dn+1:Nat):Int)),v6,v7]/\Same H H'/\H' ld=some (.dK into)/\H' ln=some (.lst (Rk line))/\Xq H' into line fr/\Bfs rows gs p line dep/\Done rows gs line dep (dn+1)/\Ut rows gs p line dep fr/\(∀ q∈line,q<rows.length)/\∀ here,line[dn+1]?=some here->∀ x∈line,dep x<=dep here+1,
   fun σ' H' ⟨line,dep,fr,into,v6,v7,a1,a2,a3,a4,a5,a6,a7,a8,a9,a10,a11⟩=>⟨rows.length-(dn+1),by omega,line,dep,fr,into,dn+1,v6,v7,rfl,a1,a2,a3,a4,a5,a6,a7,a8,a9,a10,a11⟩,?_⟩
  have hr':rows[here]?=some (rows[here]'hhere):=zsl hhere;generalize (rows[here]'hhere)=r at hr';obtain⟨lr,e2,e3⟩:=il.getR hr';have hl':(ls.map V.ref)[here]?=some (.ref lr):=by rw[zsr,e2];rfl
  refine⟨_,rfl,_,rfl,ln,_,_,_,rfl,rfl,SqL.of hna,Z9 hhv,?_⟩;refine⟨_,rfl,_,_,rfl,rfl,?_⟩;refine⟨_,rfl,_,rfl,l,_,_,_,rfl,rfl,SqL.of (sa _ _ hl),Z9 hl',lr,rfl,⟨_,SqL.of (sa _ _ e3)⟩,?_⟩
  let jv2:Nat->L2.St->Hp->Prop:=fun j σ' H'=>∃ (line:List Nat) (dep:Nat->Nat) (fr:Nat->Option (Nat×Int)) (into:List (Key×V)) (v7:Option V),σ'=[some (.ref l),some (.ref d),some (.int p),some (.ref ld),some (.ref ln),some (.int ((dn+1:Nat):Int)),some (.int (here:Nat)),v7]/\Same H H'/\H' ld=some (.dK into)/\H' ln=some (.lst (Rk line))/\Xq H' into line fr/\Bfs rows gs p line dep/\Done rows gs line dep dn/\Ut rows gs p line dep fr/\(∀ q∈line,q<rows.length)/\line[dn]?=some here/\(∀ x∈line,dep x<=dep here+1)/\∀ n∈r.take j,∀ q':Nat,gs[q']?=some (.int n)->q'∈line
  refine Xv (K:=K) (a:=lr) (xs:=r.map V.int) jv2
   ⟨line,dep,fr,into,_,rfl,sa,hda,hna,io,B,Dn,fo,hlt,hh,near here hh,by simp⟩ (fun j σ' H' _ ⟨_,_,_,_,_,_,z,_⟩=>SqL.of (z _ _ e3)) ?_ ?_
  ·rintro j y σ' Hx hy ⟨line,dep,fr,into,w7,rfl,sx,hdx,hnx,io,B,Dn,fo,hlt,hh,near,pr⟩;have hj:j<r.length:=by have:=(zsm.mp hy).1;rw[zsk] at this;exact this
   have hhm:=zsy hh;have hrj:r[j]?=some (r[j]'hj):=zsl hj;have etk:r.take (j+1)=r.take j++[r[j]'hj]:=ztg hj;generalize (r[j]'hj)=n at hrj etk;have ey:y=.int n:=by rw[zsr,hrj] at hy;exact(Option.some.inj hy).symm
   subst ey;have hnr:=zsy hrj;have hll:=hbound _ B.nodup hlt;have prev:(∀ q':Nat,gs[q']?=some (.int n)->q'∈line)->∀ m∈r.take (j+1),∀ q':Nat,gs[q']?=some (.int m)->q'∈line:=fun k m hm=>by
    rw[etk] at hm;rcases zsv.mp hm with z|z
    ·exact pr m z
    ·rw[zsp.mp z];exact k
   rcases tk.iff n with ⟨q',hq',hv⟩|⟨hno,hv⟩
   ·by_cases hin:q'∈line
    ·refine Ss (b:=false) (fun Q k=>?_) (iteF (Z1 ⟨line,dep,fr,into,_,rfl,sx,hdx,hnx,io,B,Dn,fo,hlt,hh,near,prev fun q2 h2=>by rw[FP.inj q2 q' n h2 hq'];exact hin⟩));refine⟨_,rfl,_,rfl,d,_,rfl,DGet.k (k:=inl n) (sx _ _ hd),_,rfl,?_⟩;rw[hv];refine iteT ⟨_,rfl,_,rfl,d,_,rfl,hv▸DGet.k (k:=inl n) (sx _ _ hd),_,rfl,ld,_,rfl,DGet.k (k:=inl (q':Int)) hdx,_,rfl,?_⟩;rw[(io.has q').mpr hin];exact k
    ·have hnin:(valV into (inl (q':Int):Key)).isSome=false:=by
      rw[Bool.eq_false_iff];exact fun z=>hin ((io.has q').mp z)
     have hq'l:q' < rows.length:=by
      have:=(zsm.mp hq').1;rw[FP.len] at this;exact this
     have ha:adjN rows gs here n q':=⟨⟨r,hr',hnr⟩,hq'⟩;obtain⟨B',old,all⟩:=B.app (dn:=dn) hh near ha hin;refine Ss (b:=true) (fun Q k=>?_) (iteT ?_)
     ·refine⟨_,rfl,_,rfl,d,_,rfl,DGet.k (k:=inl n) (sx _ _ hd),_,rfl,?_⟩;rw[hv];refine iteT ⟨_,rfl,_,rfl,d,_,rfl,hv▸DGet.k (k:=inl n) (sx _ _ hd),_,rfl,ld,_,rfl,DGet.k (k:=inl (q':Int)) hdx,_,rfl,?_⟩;rw[hnin];exact k
     ·refine⟨_,rfl,_,rfl,sz2,fun t ht=>?_⟩;have t1:=Zf (o:=.tup [.int (here:Nat),.int n]) ht;have st:=sx.trans t1;have hdt:=t1 _ _ hdx;have hnt:=t1 _ _ hnx;have et:upd Hx t (.tup [.int (here:Nat),.int n]) t=some (.tup [.int (here:Nat),.int n]):=Zb;have iot:=io.same t1;generalize upd Hx t (.tup [.int (here:Nat),.int n])=Ht at t1 st hdt hnt et iot;refine⟨_,rfl,_,rfl,_,rfl,d,_,rfl,hv▸DGet.k (k:=inl n) (st _ _ hd),ld,_,rfl,DPut.k (k:=inl (q':Int)) hdt ?_,?_⟩
      ·have:=io.len;omega
      have sd:Same H (upd Ht ld (.dK (putK into (inl (q':Int)) (.ref t)))):=Ya hld st;have ed:upd Ht ld (.dK (putK into (inl (q':Int)) (.ref t))) ld=some (.dK (putK into (inl (q':Int)) (.ref t))):=Zb;have en:upd Ht ld (.dK (putK into (inl (q':Int)) (.ref t))) ln=some (.lst (Rk line)):=by rw[Zh (Ne.symm nln)];exact hnt
      have iod:Xq (upd Ht ld (.dK (putK into (inl (q':Int)) (.ref t)))) (putK into (inl (q':Int)) (.ref t)) (line++[q']) (M5 fr q' (here,n)) :=
       (iot.app hin et).mono fun c xs e=>by rw[Zh (Yp e hdt (fun z=>nomatch z))];exact e
      generalize upd Ht ld (.dK (putK into (inl (q':Int)) (.ref t)))=Hd at sd ed en iod;have hsz:(Rk line).length<sizeLine:=by unfold Rk;rw[zsk];omega
      refine⟨_,rfl,ln,_,rfl,en,_,rfl,_,rfl,d,_,rfl,hv▸DGet.k (k:=inl n) (sd _ _ hd),_,en,hsz,line++[q'],Vf dep q' (dep here+1),M5 fr q' (here,n),putK into (inl (q':Int)) (.ref t),_,rfl,Ya fln sd,?_,?_,?_,B',Dn.app ?_ ⟨_,rfl⟩ old,fo.app hin B.memp hhm ha,?_,?_,?_,?_⟩
      ·rw[Zh nln];exact ed
      ·rw[Zb];unfold Rk;rw[zsq];rfl
      ·exact iod.mono fun c xs e=>by rw[Zh (Yp e en (fun z=>nomatch z))];exact e
      ·have:=(zsm.mp hh).1;omega
      ·intro q hq;rcases zsv.mp hq with z|z
       ·exact hlt q z
       ·rw[zsp.mp z];exact hq'l
      ·rw[zti (zsm.mp hh).1];exact hh
      ·intro x hx;rw[old here hhm];exact all x hx
      ·intro m hm q2 h2;rw[etk] at hm;rcases zsv.mp hm with z|z
       ·exact zta _ (pr m z q2 h2)
       ·rw[zsp.mp z] at h2;rw[FP.inj q2 q' n h2 hq'];exact zs6 _ (zsp.mpr rfl)
   ·refine Ss (b:=false) (fun Q k=>?_) (iteF (Z1 ⟨line,dep,fr,into,_,rfl,sx,hdx,hnx,io,B,Dn,fo,hlt,hh,near,prev fun q2 h2=>absurd h2 (hno q2)⟩));refine⟨_,rfl,_,rfl,d,_,rfl,DGet.k (k:=inl n) (sx _ _ hd),_,rfl,?_⟩;rw[hv];exact iteF k
  ·rintro σ' Hx ⟨line,dep,fr,into,w7,rfl,sx,hdx,hnx,io,B,Dn,fo,hlt,hh,near,pr⟩;rw[zsk,zs7] at pr;have hlt3:=(zsm.mp hh).1;refine⟨line,dep,fr,into,_,_,by omega,rfl,sx,hdx,hnx,io,B,fun i q hi hq n q' ha=>?_,fo,hlt,fun here2 hh2 x hx=>?_⟩
   ·by_cases e:i=dn
    ·rw[e,hh] at hq;cases hq;obtain⟨⟨r2,h1,h2⟩,h3⟩:=ha;rw[hr'] at h1;cases h1;have hm:=pr n h2 q' h3;exact⟨hm,near q' hm⟩
    ·exact Dn i q ⋯ hq n q' ha
   ·have:=B.sorted dn (dn+1) here here2 ⋯ hh hh2;have:=near x hx;omega
 ·rw[zsw (show ¬ (((dn:Nat):Int)<(line.length:Nat)) by omega)];refine iteF ⟨_,rfl,?_⟩;have e:dn=line.length:=by omega
  subst e;exact h ld into line dep fr Ha hda io B Dn fo hlt sa hld
abbrev U3:Stmt:=top 44
theorem Rl:Zl ["numbers","taken","number"] ["numbers","taken"] (Zj U3):=fnS
theorem Lv(F:Fun K "free_referee" "free_referee" U3 f fd)(T:Tx K mg a):FnOk P w K mg base (CX1 P w) 1 f fd ["numbers","taken"] (Gz K):=by
 refine F.okX Rl ⋯ fun _ _ _ _ H _ Q E hr h=>?_;obtain⟨l,d,r,kvs,rfl,hl,hd,h⟩:=h;have hu:=Wa hr;refine⟨_,(Zc (Yy PassesOwn.leaving rfl (Yj (K:=K) rfl (pv 0)) (pN 2 Rl.nd)
  (Ze (Z6 (Uq (Qu hu (pv 2) (pv 1)))
   (Ze (Zm (pv 2)))
   Zs)))
 (Ze (Zm Y6))),?_⟩
 let jv3:Nat->L2.St->Hp->Prop:=fun i σ' H'=>(∃ u,σ'=[some (.ref l),some (.ref d),u])/\H'=H/\∀ n∈r.take i,(valV kvs (inl n:Key)).isSome=true
 refine⟨_,rfl,l,rfl,⟨_,SqL.of hl⟩,Xv (xs:=r.map V.int) jv3
  ⟨⟨none,rfl⟩,rfl,by simp⟩ (fun i σ' H' hi p=>by rw[p.2.1];exact SqL.of hl) (fun i x σ' H' hx p=>?_) (fun σ' H' p=>?_)⟩
 ·obtain⟨⟨u,rfl⟩,rfl,hp⟩:=p;have hi:i<r.length:=by have:=(zsm.mp hx).1;rw[zsk] at this;exact this
  have e:x=.int (r[i]'hi):=by
   rw[zsr,zsl hi] at hx;exact(Option.some.inj hx).symm
  subst e;refine Ss (b:=!(valV kvs (inl (r[i]'hi):Key)).isSome) (fun Q k=>⟨_,rfl,_,rfl,d,_,rfl,DGet.k (k:=inl (r[i]'hi)) hd,_,rfl,k⟩) ?_;cases hv:valV kvs (inl (r[i]'hi):Key) with
  | none=>exact iteT ⟨_,rfl,h (some (r[i]'hi)) (fun n hn=>by cases hn;exact⟨ztf hi,hv⟩) (fun z=>nomatch z)⟩
  | some y =>
    refine iteF (Z1 ⟨⟨_,rfl⟩,rfl,fun n hn=>?_⟩);rw[ztg hi] at hn;rcases zsv.mp hn with z|z
    ·exact hp n z
    ·rw[zsp.mp z,hv];rfl
 ·obtain⟨⟨u,rfl⟩,rfl,hp⟩:=p;rw[zsk,zs7] at hp;exact h none (fun n z=>nomatch z) fun _=>hp
abbrev Jw:Stmt:=top 45
theorem Q6:Zl ["into","place","number","steps","step"] ["into","place","number"] (Zj Jw):=fnS
theorem zb9(F:Fun K "traced" "traced" Jw f fd)(T:Tx K mg a):FnOk P w K mg base (CX1 P w) 1 f fd ["into","place","number"] (Dp K):=by
 refine F.okX Q6 ⋯ fun _ _ _ _ H _ Q E hr h=>?_;obtain⟨t,q,p,w,rows,gs,into,line,dep,fr,rfl,ht,io,fo,d0,hp,hq,hdq,h⟩:=h;have hu:=Wa hr;refine⟨_,(Zc (pS 3 Q6.nd (Z8 (Za (Yc (Za (pv 1) (Za (pv 2) Zd))) Zd)))
 (Zc (pS 4 Q6.nd (pD hu (pv 0) (pv 1)))
 (Zc (Kp PassesOwn.leaving (Zo Te (pv 4) Y6 (Zw _))
  (Zc (Yk (pv 3) (pv 4))
  (Ze (pS 4 Q6.nd (pD hu (pv 0) (pI (iU K) (pv 4) Zi))))))
 (Zc (Z2 (zc0 PySem.F.plainAttrs_list PySem.F.slot_list_reverse PySem.F.type_list_reverse Bl (pv 3)))
 (Ze (Zm (pv 3))))))),?_⟩
 have line0:200<sizeLine:=by rw[sizeLine_eq];decide
 have get:∀ {H':Hp},Same H H'->∀ k:Nat,DGet H' t (.int (k:Nat)) (valV into (inl (k:Int):Key)):=fun {H'} hs k=>.inl ⟨into,inl (k:Int),ht.imp (hs _ _) (fun ⟨o,e⟩=>⟨o,hs _ _ e⟩),rfl,rfl⟩;have fr0:∀ c∈line,fr c=none->c=p:=fun c hc hf=>by
  by_cases e:c=p
  ·exact e
  ·obtain⟨par,n,h1,_⟩:=fo.2 c hc e;rw[hf] at h1;cases h1
 have some_of:∀ c∈line,∃ v,valV into (inl (c:Int):Key)=some v:=fun c hc=>ztz.mp ((io.has c).mpr hc);refine⟨_,rfl,_,rfl,sz2,fun m hm=>⟨sz1,fun lt hlt=>?_⟩⟩;have s1:=Zf (o:=.tup [.int (q:Nat),oV w]) hm;have e1:upd H m (.tup [.int (q:Nat),oV w]) m=some (.tup (Vv (q,w))):=Zb;generalize upd H m (.tup [.int (q:Nat),oV w])=H1 at s1 e1 hlt;have s2:=Zf (o:=.lst [V.ref m]) hlt;have e2:upd H1 lt (.lst [V.ref m]) lt=some (.lst [V.ref m]):=Zb;have e3:=s2 _ _ e1;have s3:=s1.trans s2;have hltn:H lt=none:=s1.free hlt;generalize upd H1 lt (.lst [V.ref m])=H2 at s2 e2 e3 s3;obtain⟨v0,hv0⟩:=some_of q hq;refine⟨_,rfl,_,rfl,t,v0,rfl,hv0▸get s3 q,?_⟩;refine⟨fun mm σ' H'=>∃ (cur:Nat) (st:List (Nat×Option Int)) (ts:List V) (v:V),mm=dep cur/\cur∈line/\valV into (inl (cur:Int):Key)=some v/\σ'=[some (.ref t),some (.int (q:Nat)),some (oV w),some (.ref lt),some v]/\Same H H'/\H' lt=some (.lst ts)/\Yb H' ts (st.reverse.map Vv)/\Ch rows gs cur st q w/\st.length+dep cur=dep q+1,
  ⟨_,q,[(q,w)],_,v0,rfl,hq,hv0,rfl,s3,e2,.cons e3 .nil,.one q w,by show 1+dep q=_;omega⟩,?_⟩
 rintro mm σ' Ha ⟨cur,st,ts,v,rfl,hc,hv,rfl,sa,hta,htl,hch,hlen⟩;have htsl:ts.length=st.length:=by have:=htl.length;rw[zsk,List.length_reverse] at this;exact this
 refine⟨_,rfl,rfl,_,rfl,?_⟩;cases hf:fr cur with
 | none =>
   have hcp:=fr0 cur hc hf;subst hcp;have hvn:=io.none cur hc hf;rw[hv] at hvn;cases hvn;refine iteF ?_;refine⟨_,rfl,.inl ⟨rfl,_,SqL.of hta⟩,lt,ts,rfl,rfl,hta,_,rfl,?_⟩;refine h lt ts.reverse st _ Zb ?_ hch ⋯ (Ya hltn sa) hltn;have hr:=htl.reverse;rw[<- List.map_reverse,List.reverse_reverse] at hr;exact hr.mono fun c xs e=>by rw[Zh (Yp e hta (fun z=>nomatch z))];exact e
 | some x =>
   obtain⟨par,n⟩:=x;obtain⟨tt,h1,h2⟩:=io.some cur hc par n hf;rw[hv] at h1;cases h1;have hcp:cur≠p:=fun z=>by rw[z,fo.1] at hf;cases hf
   obtain⟨par',n',h3,h4,h5,h6⟩:=fo.2 cur hc hcp;rw[hf] at h3;cases h3;obtain⟨v',hv'⟩:=some_of par h4;refine iteT ?_;refine⟨fun σ' H'=>∃ (st:List (Nat×Option Int)) (ts:List V),σ'=[some (.ref t),some (.int (q:Nat)),some (oV w),some (.ref lt),some v']/\Same H H'/\H' lt=some (.lst ts)/\Yb H' ts (st.reverse.map Vv)/\Ch rows gs par st q w/\st.length+dep par=dep q+1,
    fun σ' H' ⟨st,ts,a1,a2,a3,a4,a5,a6⟩=>⟨dep par,by omega,par,st,ts,v',rfl,h4,hv',a1,a2,a3,a4,a5,a6⟩,?_⟩
   have s4:Same H (upd Ha lt (.lst (ts++[V.ref tt]))):=Ya hltn sa;refine⟨_,rfl,lt,_,rfl,hta,_,rfl,_,hta,by omega,?_⟩;refine⟨_,rfl,_,rfl,tt,_,_,_,rfl,rfl,SqT.of (s4 _ _ h2),rfl,t,v',rfl,hv'▸get s4 par,(par,some n) :: st,ts++[V.ref tt],rfl,s4,Zb,?_,.step h5 hch,?_⟩
   ·rw[zug,zsq];exact(htl.mono fun c xs e=>by rw[Zh (Yp e hta (fun z=>nomatch z))];exact e).snoc (s4 _ _ h2)
   ·rw[zs8];omega
abbrev Ee:Stmt:=top 46
theorem Qf:Zl ["may","given","place","taken","into","reached","number"] ["may","given","place"] (Zj Ee):=fnS
theorem zef(F:Fun K "chain" "chain" Ee f fd)(T:Tx K mg a)(znc:Z4 P w K mg base "places_taken" 1 ["given"] (zad K))(zn0:Z4 P w K mg base "steps_into" 1 ["may","taken","start"] (zdt K))(znd:Z4 P w K mg base "free_referee" 1 ["numbers","taken"] (Gz K))(zou:Z4 P w K mg base "traced" 1 ["into","place","number"] (Dp K)):FnOk P w K mg base (CX1 P w) 2 f fd ["may","given","place"] (Fx K):=by
 refine F.okX Qf ⋯ fun _ _ _ _ H _ Q E hr h=>?_;obtain⟨l,lg,ls,rows,nu,gs,p,rfl,hl,il,mo,hg,FP,hp,hgp,h⟩:=h;refine⟨_,(Zc (pS 3 Qf.nd (pF znc hr (Za (pv 1) Zd)))
 (Zc (pS 4 Qf.nd (pF zn0 hr (Za (pv 0) (Za (pv 3) (Za (pv 2) Zd)))))
 (Zc (Yy PassesOwn.leaving rfl (zfc (pv 4)) (pN 5 Qf.nd)
  (Zc (pS 6 Qf.nd (pF znd hr (Za (pI (iL K) (pv 0) (pv 5)) (Za (pv 3) Zd))))
  (Ze (Z6 (Zo Te (pv 6) Y6 (Zw _))
   (Ze (Zm (pF zou hr (Za (pv 4) (Za (pv 5) (Za (pv 6) Zd))))))
   Zs))))
 (Ze (Zm (pF zou hr (Za (pv 4) (Za (Zt (zbp rfl) (by rfl) T.zpz PyProof.Rows.boot_max (Za (pv 4) Zd)) (Za Y6 Zd))))))))),?_⟩
 have hrl:rows.length<=100:=zs2 mo.few ⋯;refine⟨_,rfl,lg,gs,rfl,hg,FP.one,FP.inj,by rw[FP.len];exact hrl,fun d kvs H1 hd1 tk s1 hdn=>?_⟩;refine⟨_,rfl,_,rfl,_,rfl,l,d,ls,rows,kvs,gs,p,rfl,s1 _ _ hl,il.same s1,hrl,hd1,tk,FP,hp,fun t into line dep fr H2 ht io B Dn fo hlt s2 htn=>?_⟩;have hbound:line.length<=rows.length:=by
  have:=B.nodup.length_le_of_subset (l₂:=List.range rows.length) fun c hcc=>ztq.mpr (hlt c hcc);rw[ztu] at this;exact this
 have hd2:=s2 _ _ hd1;have s02:=s1.trans s2;have hfree:∀ q n,(∃ r,rows[q]?=some r/\n∈r)->valV kvs (inl n:Key)=none->Px rows gs q n:=fun q n hr hv=>⟨hr,fun j hj=>by rw[tk.has n j hj] at hv;cases hv⟩
 have hdep:∀ q∈line,dep q<=100:=fun q hq=>by
  obtain⟨pre,hc,hlp⟩:=fo.back B.d0 (dep q) q q none [(q,none)] rfl hq (.one q none);have nd:=hc.nodup fun k hk=>by
   rw[zsn,hlp];have:=(B.full Dn hk).2;show dep q+1<=k+1;omega
  have hlt':=hc.lt FP hp;have:=nd.length_le_of_subset (l₂:=List.range rows.length) fun x hx=>by
   obtain⟨s,hs,rfl⟩:=zsu.mp hx;exact ztq.mpr (hlt' s hs)
  rw[zsk,ztu,zsn,hlp] at this;omega
 have htH:H t=none:=s1.free htn;refine⟨_,rfl,t,into,rfl,ht,fun o=>?_⟩;have e0:upd H2 t (.frz o (.dK into)) t=some (.frz o (.dK into)):=Zb;have s3:Same H (upd H2 t (.frz o (.dK into))):=Ya htH s02;have hd3:upd H2 t (.frz o (.dK into)) d=some (.dK kvs):=by rw[Zh (Zg hd1 htn)];exact hd2
 have io3:Xq (upd H2 t (.frz o (.dK into))) into line fr:=io.mono fun c xs e=>by rw[Zh (Yp e ht (fun z=>nomatch z))];exact e
 generalize upd H2 t (.frz o (.dK into))=H3 at e0 s3 hd3 io3;have hil:into.length=line.length:=io.len;have key:∀ (i:Nat) (k:Key) (v:V),into[i]?=some (k,v)->∃ q:Nat,line[i]?=some q/\k=inl (q:Int):=fun i k v e=>by
  have:=congrArg (·[i]?) io.keys;simp only[zsr,e,ztr] at this;cases hq:line[i]? with
  | none=>rw[hq] at this;cases this
  | some q=>rw[hq] at this;exact⟨q,rfl,Option.some.inj this⟩
 let jv4:Nat->L2.St->Hp->Prop:=fun i σ' H'=>(∃ u v,σ'=[some (.ref l),some (.ref lg),some (.int p),some (.ref d),some (.ref t),u,v])/\H'=H3/\∀ (j q:Nat),j<i->line[j]?=some q->¬ Uj rows gs q
 refine zdq (a:=t) (o:=o) (kvs:=into) jv4 ⟨⟨none,none,rfl⟩,rfl,fun j q hj=>absurd hj (zue _)⟩ (fun i σ' H' _ p=>by rw[p.2.1];exact e0) (fun i k v σ' H' hk hP=>?_) (fun σ' H' hP=>?_)
 ·obtain⟨⟨u,v',rfl⟩,rfl,hno⟩:=hP;obtain⟨q,hq,rfl⟩:=key i k v hk;have hqm:=zsy hq;have hqr:rows[q]?=some (rows[q]'(hlt q hqm)):=zsl (hlt q hqm);generalize (rows[q]'(hlt q hqm))=r at hqr;obtain⟨lr,e2,e3⟩:=il.getR hqr;have hl':(ls.map V.ref)[q]?=some (.ref lr):=by rw[zsr,e2];rfl
  refine⟨_,rfl,_,rfl,l,_,_,_,rfl,rfl,SqL.of (s3 _ _ hl),Z9 hl',_,rfl,lr,d,r,kvs,rfl,s3 _ _ e3,hd3,fun w hw1 hw2=>?_⟩;walk_at "if";refine Ss (b:=!decide (oV w=.non)) (fun Q k=>⟨_,rfl,rfl,_,rfl,k⟩) ?_;cases w with
  | none =>
    refine iteF (Z1 ⟨⟨_,_,rfl⟩,rfl,fun j q2 hj hq2=>?_⟩);by_cases e:j=i
    ·rw[e,hq] at hq2;cases hq2;rintro⟨n,⟨r2,h1,h2⟩,h3⟩;rw[hqr] at h1;cases h1;have:=hw2 rfl n h2;rw[tk.not n h3] at this;cases this
    ·exact hno j q2 ⋯ hq2
  | some n =>
    obtain⟨hn1,hn2⟩:=hw1 n rfl;refine iteT ⟨_,rfl,_,rfl,_,rfl,t,q,p,some n,rows,gs,into,line,dep,fr,rfl,.inr ⟨o,e0⟩,io3,fo,B.d0,B.memp,hqm,hdep q hqm,fun lt ts st H4 h1 h2 h3 h4 s4 hltn=>?_⟩;have hf:=hfree q n ⟨r,hqr,hn1⟩ hn2;have Di:Done rows gs line dep i:=fun j x hj=>Dn j x (Nat.lt_trans hj (zsm.mp hq).1);exact h lt ts st q (some n) H4 h1 h2 (Bp B Di hq hno hf h3 h4) (s3.trans s4) (s3.free hltn)
 ·obtain⟨⟨u,v',rfl⟩,rfl,hno⟩:=hP;have hpos:0<line.length:=List.length_pos_of_mem B.memp;refine⟨_,rfl,⟨_,rfl,t,into,line.map fun q:Nat=>(q:Int),rfl,.inr ⟨o,e0⟩,by rw[io.keys,zt7];rfl,by rw[zsk];exact hpos,fun M hM hmax=>?_⟩⟩;obtain⟨e,he,rfl⟩:=zsu.mp hM;refine⟨t,e,p,none,rows,gs,into,line,dep,fr,rfl,.inr ⟨o,e0⟩,io3,fo,B.d0,B.memp,he,hdep e he,fun lt ts st H4 h1 h2 h3 h4 s4 hltn=>?_⟩;refine h lt ts st e none H4 h1 h2 (Bq B Dn (fun q hq=>?_) (fun q hq=>?_) h3 h4) (s3.trans s4) (s3.free hltn)
  ·obtain⟨j,hj,e2⟩:=ztn hq;exact hno j q ⋯ (by rw[zsl hj,e2])
  ·have:=hmax _ (zsu.mpr ⟨q,hq,rfl⟩);omega
abbrev Mh:Stmt:=top 47
theorem Ra:Zl ["given","steps","behind","place","number"] ["given","steps"] (Zj Mh):=fnS
theorem Ag(F:Fun K "stepped" "stepped" Mh f fd)(T:Tx K mg a):FnOk P w K mg base (CX1 P w) 1 f fd ["given","steps"] (N4 K):=by
 refine F.okX Ra ⋯ fun _ _ _ _ H _ Q E hr h=>?_;obtain⟨b,c,xs,ts,st,rfl,hb,hc,ht,hst,ho,hl,hls,h⟩:=h;refine⟨_,(Zc (pS 2 Ra.nd (Xw (Xc (K:=K) rfl) (by rfl) T.zlw PyProof.Rows.boot_list (Za (pv 0) Zd)))
 (Zc (Yy PassesOwn.leaving rfl (Yj (K:=K) rfl (pv 1)) (Wm (K:=K) (n:=2) rfl rfl (Zy (pN 3 Ra.nd) (Zy (pN 4 Ra.nd) Wl)))
  (Ze (Ko (pv 4) (zgi (pv 2) (pv 3) zcz))))
 (Ze (Zm (pv 2))))),?_⟩
 have htl:ts.length=st.length:=by have:=ht.length;rw[zsk] at this;exact this
 refine⟨_,rfl,b,_,rfl,.inl (SqL.of hb),fun l hln=>?_⟩
 let jv5:Nat->L2.St->Hp->Prop:=fun i σ' H'=>(∃ u v,σ'=[some (.ref b),some (.ref c),some (.ref l),u,v])/\H' l=some (.lst (Ys (st.take i) xs))/\(∀ a o,H a=some o->H' a=some o)
 refine⟨_,rfl,c,rfl,⟨ts,SqL.of (Zf hln _ _ hc)⟩,Xv (xs:=ts) jv5 ⟨⟨none,none,rfl⟩,Zb,Zf hln⟩ (fun i σ' H' hi p=>SqL.of (p.2.2 _ _ hc)) (fun i x σ' H' hx p=>?_) (fun σ' H' p=>?_)⟩
 ·obtain⟨⟨u,v,rfl⟩,hl2,hs⟩:=p;have hi:i<st.length:=by rw[<- htl];exact(zsm.mp hx).1
  obtain⟨t,e1,e2⟩:=ziy ht (zsl hi);rw[hx] at e1;cases e1;refine⟨t,_,rfl,SqT.of (hs _ _ e2),rfl,_,_,rfl,_,_,rfl,rfl,?_⟩;have hlen:(Ys (st.take i) xs).length=xs.length:=X1 _ _;have hp:(st[i]'hi).1<xs.length:=hst _ (ztf hi);have e3:Ys (st.take (i+1)) xs=(Ys (st.take i) xs).set (st[i]'hi).1 (oV (st[i]'hi).2):=by
   rw[ztg hi,Gy];rfl
  refine⟨_,rfl,_,rfl,_,rfl,l,_,_,(st[i]'hi).1,rfl,rfl,hl2,(show ixN _ (((st[i]'hi).1:Nat):Int)=some _ by unfold ixN;rw[if_pos ⋯,if_pos ⋯,zs0]),⟨_,_,rfl⟩,?_,fun a o q=>?_⟩
  ·rw[e3];exact Zb
  ·rw[Zh (Zg q hln)];exact hs a o q
 ·obtain⟨⟨u,v,rfl⟩,hl2,hs⟩:=p;rw[htl,zs7] at hl2;exact⟨_,rfl,h l H' hl2 hs hln⟩
abbrev Ah:Stmt:=top 49
theorem Kn:Zl ["may","given","place"] ["may"] (Zj Ah):=fnS
theorem zft(F:Fun K "fill" "fill" Ah f fd)(T:Tx K mg a)(zmg:Z4 P w K mg base "stepped" 1 ["given","steps"] (N4 K))(zog:Z4 P w K mg base "chain" 2 ["may","given","place"] (Fx K)):FnOk P w K mg base (CX1 P w) 3 f fd ["may"] (zdh K):=by
 refine F.okX Kn ⋯ fun _ _ _ _ H _ Q E hr h=>?_;obtain⟨l,ls,rows,nu,rfl,hl,il,mo,h⟩:=h;refine⟨_,(Zc (Tp (i:=1) Kn.nd rfl rfl rfl (cT [] []) (Yj (K:=K) rfl (pv 0)) (fun _ _ _ _ _=>V7) (fun _ _ _ _ _=>Y6))
 (Zc (Yy PassesOwn.leaving rfl (Y5 rfl T.zk0 (Za (Zt (cL K) (by rfl) T.zkj PySem.boot_len (Za (pv 0) Zd)) Zd)) (pN 2 Kn.nd)
  (Ze (pS 1 Kn.nd (pF zmg hr (Za (pv 1) (Za (pF zog hr (Za (pv 0) (Za (pv 1) (Za (pv 2) Zd)))) Zd))))))
 (Ze (Zm (pv 1))))),?_⟩
 have hlen:=il.length;have hrl:rows.length<=100:=zs2 mo.few ⋯;refine⟨_,rfl,l,rfl,⟨_,SqL.of hl⟩,?_⟩;refine Vc (K:=K) (a:=l) (xs:=ls.map V.ref) (fun i ys H'=>H'=H/\ys=(rows.take i).map fun _=>V.non) ⟨rfl,by simp⟩ (fun i ys H' _ z=>by rw[z.1];exact SqL.of hl) (szN (by rw[zsk];omega)) (fun i ys H' z=>by rw[z.2,zsk,zub];omega) ?_ ?_
 ·rintro i x ys H' hx ⟨rfl,rfl⟩;have hi:i<rows.length:=by
   have:=(zsm.mp hx).1;rw[zsk] at this;omega
  unfold tYes;dsimp only;rw[if_pos rfl];refine⟨rfl,?_⟩;rw[ztg hi,zsq];rfl
 ·rintro ys H' ⟨rfl,rfl⟩ lg hlg;rw[zsk,hlen,zs7];have s1:=Zf (o:=.lst (rows.map fun _=>V.non)) hlg;have e1:upd H' lg (.lst (rows.map fun _=>V.non)) lg=some (.lst (rows.map fun _=>V.non)):=Zb;generalize upd H' lg (.lst (rows.map fun _=>V.non))=H1 at s1 e1;refine⟨_,rfl,l,_,rfl,.inl (SqL.of (s1 _ _ hl)),_,rfl,by omega,by rw[zsk];omega,?_⟩;rw[zsk,hlen,zs0]
  let jv6:Nat->L2.St->Hp->Prop:=fun i σ' Hx=>∃ (lg:Addr) (gs:List V) (v2:Option V),σ'=[some (.ref l),some (.ref lg),v2]/\Same H' Hx/\Hx lg=some (.lst gs)/\Uk rows gs i/\H' lg=none
  refine Xl jv6 ⟨lg,_,_,rfl,s1,e1,Iu rows,hlg⟩ ?_ ?_
  ·rintro i σ' Hx hi ⟨lg,gs,v2,rfl,sx,hgx,F,hn⟩;rw[ztx];refine⟨_,rfl,⟨_,rfl,_,rfl,_,rfl,l,lg,ls,rows,nu,gs,i,rfl,sx _ _ hl,il.same sx,mo,hgx,F.fill,hi,F.non (zst _) hi,fun lt ts st e w H2 h1 h2 c s2 hltn=>?_⟩⟩;refine⟨lg,lt,gs,ts,st,rfl,s2 _ _ hgx,h1,h2,fun s hs=>?_,F.fill.one,by rw[F.fill.len];omega,?_,fun l' H3 h3 s3 hl'=>?_⟩
   ·rw[F.fill.len];exact c.ch.lt F.fill hi s hs
   ·have:=c.len F.fill hi;omega
   ·exact⟨l',_,_,rfl,(sx.trans s2).trans s3,h3,F.step hi c,(sx.trans s2).free hl'⟩
  ·rintro σ' Hx ⟨lg,gs,v2,rfl,sx,hgx,F,hn⟩;exact⟨_,rfl,h lg gs Hx hgx F.fill F.last sx hn⟩
abbrev Ol:Stmt:=top 50
theorem Cs:Zl ["given","number"] ["given","number"] (Zj Ol):=fnS
theorem Ct(F:Fun K "place_of" "place_of" Ol f fd)(T:Tx K mg a):FnOk P w K mg base (CX1 P w) 1 f fd ["given","number"] (Gw K):=by
 refine F.okX Cs ⋯ fun _ _ _ _ H _ Q E hr h=>?_;obtain⟨b,xs,n,rfl,hb,ho,hl,h⟩:=h;refine⟨_,(Ze (Zm (Es (Zo (Ky (K:=K) rfl) (pv 1) (pv 0) (by with_unfolding_all rfl)) (zim PySem.F.plainAttrs_list PySem.F.slot_list_index PySem.F.type_list_index zdk (pv 0) (Za (pv 1) Zd)) Y6))),?_⟩;have fl:xs.all Tf=true:=zui.mpr fun x hx=>by rcases ho x hx with rfl|⟨_,rfl⟩<;>rfl
 refine⟨_,rfl,_,rfl,b,xs,rfl,.inl (SqL.of hb),rfl,fl,_,rfl,?_⟩;have key:=@zdl xs n ho;show if inV (V.int n) xs=true then _ else _
 cases hp:Wf xs n with
 | none =>
   rw[hp] at h;have hno:¬ inV (V.int n) xs=true:=fun z=>by
    obtain⟨j,hj⟩:=key.mp z;have:=List.find?_eq_none.mp hp j (ztq.mpr (zsm.mp hj).1);exact this (zss hj)
   rw[if_neg hno];exact h H (Same.refl H)
 | some j =>
   rw[hp] at h;obtain⟨h1,h2,h3⟩:=List.find?_range_eq_some.mp hp;have hj:xs[j]?=some (.int n):=of_decide_eq_true h1;rw[if_pos (key.mpr ⟨j,hj⟩)];refine⟨_,rfl,?_,_,rfl,b,xs,.int n,j,rfl,rfl,hb,rfl,fl,⟨_,hj,(Kl (.inr ⟨_,rfl⟩)).mpr rfl⟩,fun m z hm hz=>?_,h H (Same.refl H)⟩
   ·exact .inl ⟨rfl,xs,SqL.of hb⟩
   ·have:=h3 m hm;have hne:¬ z=.int n:=fun q=>by
     rw[q] at hz;rw[zss hz] at this;cases this
    cases hb2:eqV z (.int n) with
    | false=>rfl
    | true=>exact absurd ((Kl (ho z (zsy hz))).mp hb2) hne
abbrev V2:Stmt:=Z3 (top 52) 0
theorem Ni:Zl ["self","listed","lists","given","gaps"] ["self","listed","lists","given","gaps"] (Zj V2):=fnS
theorem Nj(F:Fun K "__init__" "Sheet.__init__" V2 f fd)(T:Tx K mg a):FnOk P w K mg base (CX1 P w) 1 f fd ["self","listed","lists","given","gaps"] (Na (ca a)):=by
 refine F.okX Ni ⋯ fun _ _ _ _ H _ Q E hr h=>?_;obtain⟨q,dx,l1,l2,l3,l4,rfl,hq,h⟩:=h;refine⟨_,(Zc (Y1 (K:=K) rfl (pv 0) (pv 1) rfl)
 (Zc (Y1 (K:=K) rfl (pv 0) (pv 2) rfl)
 (Zc (Y1 (K:=K) rfl (pv 0) (pv 3) rfl)
 (Ze (Y1 (K:=K) rfl (pv 0) (pv 4) rfl))))),?_⟩
 refine⟨_,rfl,_,rfl,q,a.zj6,dx,[],rfl,hq,T.zkk,T.zma,⋯,?_⟩;refine⟨_,rfl,_,rfl,q,a.zj6,dx,[("listed",.ref l1)],rfl,Zb,T.zkk,T.zov,(by show 1<1000;decide),?_⟩;rw[zjp];refine⟨_,rfl,_,rfl,q,a.zj6,dx,_,rfl,Zb,T.zkk,T.zml,(by show 2<1000;decide),?_⟩;rw[zjq];refine⟨_,rfl,_,rfl,q,a.zj6,dx,_,rfl,Zb,T.zkk,T.zob,(by show 3<1000;decide),?_⟩;rw[zjr];refine h _ ?_;rw[Kh,Kh,Kh];rfl
abbrev U4:Stmt:=Z3 (top 52) 1
theorem Lw:Zl ["self","lists"] ["self","lists"] (Zj U4):=fnS
theorem Ly(F:Fun K "barred" "Sheet.barred" U4 f fd)(T:Tx K mg a)(zmx:Tt P w K mg base "Sheet" a.zj6 1 ["self","listed","lists","given","gaps"] (Na (ca a))):FnOk P w K mg base (CX1 P w) 3 f fd ["self","lists"] (Dy (ca a)):=by
 refine F.okX Lw ⋯ fun _ _ _ _ H _ Q E hr h=>?_;obtain⟨ok,q,l2,ls,rows,s,rfl,SA,hl2,il,ok2,okl,no,h⟩:=h;refine⟨_,(Ze (Zm (Fp zmx (hr.mono ⋯) Zk rfl (Za (Zn (K:=K) rfl (pv 0) rfl) (Za (pv 1) (Za (Zn (K:=K) rfl (pv 0) rfl) (Za (Zn (K:=K) rfl (pv 0) rfl) Zd))))))),?_⟩;obtain⟨dx,m1,m2,m3,m4,ts,ms,gts,a1,a2,a3,a4,a5,a6,a7,a8,o1,o2,o3,o4,o5,o6⟩:=id SA;refine⟨_,rfl,q,a.zj6,dx,_,_,rfl,a1,T.zkk,T.zma,Qz,_,rfl,_,rfl,q,a.zj6,dx,_,_,rfl,a1,T.zkk,T.zml,Qb,_,rfl,q,a.zj6,dx,_,_,rfl,a1,T.zkk,T.zob,Fz,?_⟩;intro q' dx' hq' hdx' ne;refine⟨q',dx',m1,l2,m3,m4,rfl,Zb,fun H' e=>⟨rfl,?_⟩⟩;obtain⟨s1,q1⟩:=P6 (C:=a.zj6) (l1:=m1) (l2:=l2) (l3:=m3) (l4:=m4) hq' hdx' ne;rw[<- e] at s1 q1;exact h q' H' ⟨dx',m1,l2,m3,m4,ts,ls,gts,q1,s1 _ _ a2,a3.same s1,s1 _ _ hl2,il.same s1,s1 _ _ a6,s1 _ _ a7,a8.keep (fun _ _ _ z=>s1 _ _ z) (fun _ _ z=>s1 _ _ z),no _ hq',o2,ok2,o4,o5,okl⟩ s1 hq'
abbrev W7:Stmt:=Z3 (top 52) 2
theorem Xt:Zl ["self","number","lists","place","gap","steps"] ["self","number","lists"] (Zj W7):=fnS
theorem Pc(F:Fun K "fallen_out" "Sheet.fallen_out" W7 f fd)(T:Tx K mg a)(zlh:Zu P w K mg base a.zj6 "where" 2 ["self","number"] (N5 (ca a)))(zmg:Z4 P w K mg base "stepped" 1 ["given","steps"] (N4 K))(zog:Z4 P w K mg base "chain" 2 ["may","given","place"] (Fx K))(zmx:Tt P w K mg base "Sheet" a.zj6 1 ["self","listed","lists","given","gaps"] (Na (ca a))):FnOk P w K mg base (CX1 P w) 3 f fd ["self","number","lists"] (Dz (ca a)):=by
 refine F.okX Xt ⋯ fun _ _ _ _ H _ Q E hr h=>?_;obtain⟨ok,q,l2,ls,rows,nu,s,n,p,rfl,SA,hl2,il,ok2,okl,no,mo,ho,hgp,hun,FP,hgz,h⟩:=h;refine⟨_,(Zc (pS 3 Xt.nd (Xd (pv 0) T.zkk zlh (hr.mono ⋯) Zk (Za (pv 1) Zd)))
 (Zc (pS 4 Xt.nd (pF zmg hr (Za (Zn (K:=K) rfl (pv 0) rfl) (Za (Z8 (Za (Yc (Za (pv 3) (Za Y6 Zd))) Zd)) Zd))))
 (Zc (pS 5 Xt.nd (pF zog hr (Za (pv 2) (Za (pv 4) (Za (pv 3) Zd)))))
 (Ze (Zm (Fp zmx (hr.mono ⋯) Zk rfl (Za (Zn (K:=K) rfl (pv 0) rfl) (Za (pv 2) (Za (pF zmg hr (Za (pv 4) (Za (pv 5) Zd))) (Za (Zq Kw (Zn (K:=K) rfl (pv 0) rfl) (Z8 (Za (Yc (Za (pv 1) (Za (pv 5) Zd))) Zd))) Zd)))))))))),?_⟩
 obtain⟨dx,m1,m2,m3,m4,ts,ms,gts,a1,a2,a3,a4,a5,a6,a7,a8,o1,o2,o3,o4,o5,o6⟩:=id SA;have hrl:rows.length<=100:=zs2 mo.few ⋯;have hgl:s.gv.length<=100:=by have:=FP.len;rw[zt4] at this;omega
 have hpl:p<s.gv.length:=(zsm.mp hgp).1;have hpr:p<rows.length:=by have:=FP.len;rw[zt4] at this;omega
 have hplace:Wf s.gv n=some p:=by
  unfold Wf;rw[List.find?_eq_some_iff_getElem];refine⟨zss hgp,p,by rw[ztu];exact hpl,by rw[List.getElem_range],fun j hj=>?_⟩;rw[List.getElem_range,Bool.not_eq_true',decide_eq_false_iff_not];exact fun z=>absurd (hun j z) ⋯
 refine⟨_,rfl,q,dx,_,rfl,a1,Sy ⋯ ⋯ ⋯ ⋯,_,rfl,ok,q,s,n,rfl,SA,ho,hgl,fun H1 s1=>?_⟩;rw[hplace,show oN (some p)=V.int (p:Nat) from rfl];have SA1:=SA.same s1;refine⟨_,rfl,q,a.zj6,dx,_,_,rfl,s1 _ _ a1,T.zkk,T.zml,Qb,_,rfl,sz2,fun t1 ht1=>⟨sz1,fun lx hlx=>?_⟩⟩;have s2:=Zf (o:=.tup [.int (p:Nat),.non]) ht1;have q2:upd H1 t1 (.tup [.int (p:Nat),.non]) t1=some (.tup (Vv (p,none))):=Zb;generalize upd H1 t1 (.tup [.int (p:Nat),.non])=H2 at s2 q2 hlx;have s3:=Zf (o:=.lst [V.ref t1]) hlx;have q3:upd H2 lx (.lst [V.ref t1]) lx=some (.lst [V.ref t1]):=Zb;have q23:=s3 _ _ q2;generalize upd H2 lx (.lst [V.ref t1])=H3 at s3 q3 q23;have s13:=s1.trans (s2.trans s3);refine⟨m3,lx,s.gv,[V.ref t1],[(p,none)],rfl,s13 _ _ a6,q3,.cons q23 .nil,fun st hst=>by rw[zsp.mp hst];exact hpl,ho,hgl,by show 1<=100;decide,fun lg H4 hg4 s4 f4=>?_⟩;have s14:=s13.trans s4;have hg4:H4 lg=some (.lst (s.gv.set p .non)):=hg4;refine⟨_,rfl,_,rfl,_,rfl,l2,lg,ls,rows,nu,s.gv.set p .non,p,rfl,s14 _ _ hl2,il.same s14,mo,hg4,FP,hpr,by rw[ztm hpl],fun lt us st e w H5 hlt tl CR s5 f5=>?_⟩;have s15:=s14.trans s5;have hst100:st.length<=100:=zs2 (CR.len FP hpr) hrl;refine⟨_,rfl,q,a.zj6,dx,_,_,rfl,s15 _ _ a1,T.zkk,T.zma,Qz,_,rfl,_,rfl,_,rfl,lg,lt,s.gv.set p .non,us,st,rfl,s5 _ _ hg4,hlt,tl,fun x hx=>?_,FP.one,by rw[FP.len];exact hrl,hst100,fun l3 H6 h6 s6 f6=>?_⟩
 ·rw[FP.len];exact CR.ch.lt FP hpr x hx
 have s16:=s15.trans s6;refine⟨_,rfl,q,a.zj6,dx,_,_,rfl,s16 _ _ a1,T.zkk,T.zob,Fz,_,rfl,_,rfl,sz2,fun t2 ht2=>⟨sz1,fun ly hly=>?_⟩⟩;have s7:=Zf (o:=.tup [.int n,.ref lt]) ht2;have q7:upd H6 t2 (.tup [.int n,.ref lt]) t2=some (.tup [.int n,.ref lt]):=Zb;generalize upd H6 t2 (.tup [.int n,.ref lt])=H7 at s7 q7 hly;have s8:=Zf (o:=.lst [V.ref t2]) hly;have q8:upd H7 ly (.lst [V.ref t2]) ly=some (.lst [V.ref t2]):=Zb;have q78:=s8 _ _ q7;generalize upd H7 ly (.lst [V.ref t2])=H8 at s8 q8 q78;have s18:=s16.trans (s7.trans s8);refine⟨m4,ly,gts,[V.ref t2],rfl,rfl,s18 _ _ a7,q8,by have:=a8.length;show gts.length+1<=sizeLine;have:=Uu;omega,fun l4 hl4=>?_⟩;have s9:=Zf (o:=.lst (gts++[V.ref t2])) hl4;have q9:upd H8 l4 (.lst (gts++[V.ref t2])) l4=some (.lst (gts++[V.ref t2])):=Zb;generalize upd H8 l4 (.lst (gts++[V.ref t2]))=H9 at s9 q9;have s19:=s18.trans s9;intro q' dx' hq' hdx' ne;refine⟨q',dx',m1,l2,l3,l4,rfl,Zb,fun H' e'=>⟨rfl,?_⟩⟩;obtain⟨s10,q10⟩:=P6 (C:=a.zj6) (l1:=m1) (l2:=l2) (l3:=l3) (l4:=l4) hq' hdx' ne;rw[<- e'] at s10 q10;have s:=s19.trans s10;have s6x:=s7.trans (s8.trans (s9.trans s10));have s5x:=s6.trans s6x;refine h q' st e w H' ⟨dx',m1,l2,l3,l4,ts,ls,gts++[V.ref t2],q10,s _ _ a2,a3.same s,s _ _ hl2,il.same s,s6x _ _ h6,s10 _ _ q9,?_,no _ (s19.free hq'),o2,ok2,no _ (s15.free f6),no _ (s18.free hl4),okl⟩ CR s (s19.free hq');exact(a8.keep (fun _ _ _ z=>s _ _ z) (fun _ _ z=>s _ _ z)).snoc ((s9.trans s10) _ _ q78) (s5x _ _ hlt) (tl.same s5x) (no _ (s14.free f5))
abbrev Ue:Stmt:=Z3 (top 52) 3
theorem Mi:Zl ["self"] ["self"] (Zj Ue):=fnS
theorem Mj(F:Fun K "matches" "Sheet.matches" Ue f fd)(T:Tx K mg a):FnOk P w K mg base (CX1 P w) 1 f fd ["self"] (M6 (ca a)):=by
 refine F.okX Mi ⋯ fun _ _ _ _ H _ Q E hr h=>?_;obtain⟨ok,q,s,rfl,SA,h⟩:=h;refine⟨_,(Ze (Zm (Xw (Xc (K:=K) rfl) (by rfl) T.zlw PyProof.Rows.boot_list (Za (Zn (K:=K) rfl (pv 0) rfl) Zd)))),?_⟩;obtain⟨dx,m1,m2,m3,m4,ts,ms,gts,a1,a2,a3,a4,a5,a6,a7,a8,o1,o2,o3,o4,o5,o6⟩:=id SA;refine⟨_,rfl,q,a.zj6,dx,_,_,rfl,a1,T.zkk,T.zma,Qz,m1,_,rfl,.inl (SqL.of a2),fun l hl=>?_⟩;exact h l ts _ Zb (a3.same (Zf hl)) (Zf hl) hl
abbrev Rb:Stmt:=Z3 (top 52) 7
theorem Hg:Zl ["self"] ["self"] (Zj Rb):=fnS
theorem Hh(F:Fun K "goes" "Sheet.goes" Rb f fd)(T:Tx K mg a):FnOk P w K mg base (CX1 P w) 1 f fd ["self"] (K4 (ca a)):=by
 refine F.okX Hg ⋯ fun _ _ _ _ H _ Q E hr h=>?_;obtain⟨ok,q,s,rfl,SA,h⟩:=h;refine⟨_,(Ze (Zm (Xw (Xc (K:=K) rfl) (by rfl) T.zlw PyProof.Rows.boot_list (Za (Zn (K:=K) rfl (pv 0) rfl) Zd)))),?_⟩;obtain⟨dx,m1,m2,m3,m4,ts,ms,gts,a1,a2,a3,a4,a5,a6,a7,a8,o1,o2,o3,o4,o5,o6⟩:=id SA;refine⟨_,rfl,q,a.zj6,dx,_,_,rfl,a1,T.zkk,T.zml,Qb,m3,_,rfl,.inl (SqL.of a6),fun l hl=>?_⟩;exact h l _ Zb (Zf hl) hl
abbrev T1:Stmt:=Z3 (top 52) 8
theorem Jx:Zl ["self","number"] ["self","number"] (Zj T1):=fnS
theorem Jy(F:Fun K "where" "Sheet.where" T1 f fd)(T:Tx K mg a)(zoq:Z4 P w K mg base "place_of" 1 ["given","number"] (Gw K)):FnOk P w K mg base (CX1 P w) 2 f fd ["self","number"] (N5 (ca a)):=by
 refine F.okX Jx ⋯ fun _ _ _ _ H _ Q E hr h=>?_;obtain⟨ok,q,s,n,rfl,SA,ho,hgl,h⟩:=h;refine⟨_,(Ze (Zm (pF zoq hr (Za (Zn (K:=K) rfl (pv 0) rfl) (Za (pv 1) Zd))))),?_⟩;obtain⟨dx,m1,m2,m3,m4,ts,ms,gts,a1,a2,a3,a4,a5,a6,a7,a8,o1,o2,o3,o4,o5,o6⟩:=id SA;exact⟨_,rfl,q,a.zj6,dx,_,_,rfl,a1,T.zkk,T.zml,Qb,_,rfl,m3,s.gv,n,rfl,a6,ho,hgl,fun H' s'=>h H' s'⟩
abbrev U5:Stmt:=Z3 (top 52) 11
theorem Lz:Zl ["self"] ["self"] (Zj U5):=fnS
theorem L6(F:Fun K "chains" "Sheet.chains" U5 f fd)(T:Tx K mg a):FnOk P w K mg base (CX1 P w) 1 f fd ["self"] (K6 (ca a)):=by
 refine F.okX Lz ⋯ fun _ _ _ _ H _ Q E hr h=>?_;obtain⟨ok,q,s,rfl,SA,hgz,h⟩:=h;refine⟨_,(Ze (Zm (Dm rfl (M4.mk (xo:=["number","steps"]) (ys:=[]) (js:=[]) rfl rfl ⋯ ⋯ rfl (by repeat' (first|exact True.intro|apply And.intro|rfl)) (by repeat' (first|exact True.intro|apply And.intro|rfl)) ⋯) (Yj (K:=K) rfl (Zn (K:=K) rfl (pv 0) rfl)) (fun _ _ _ _ _=>V7) (fun _ _ _ _ _=>(Wm (K:=K) (n:=2) rfl rfl (Zy (Sn (i:=0) (show List.Nodup [("number":Str),("steps":Str)] by decide +kernel) rfl (by first|exact Or.inl rfl|exact Or.inr rfl)) (Zy (Sn (i:=1) (show List.Nodup [("number":Str),("steps":Str)] by decide +kernel) rfl (by first|exact Or.inl rfl|exact Or.inr rfl)) Wl)))) (fun _ _ _ _ _=>(Yc (Za (pv 0) (Za (Xw (Xc (K:=K) rfl) (by rfl) T.zlw PyProof.Rows.boot_list (Za (pv 1) Zd)) Zd))))))),?_⟩;obtain⟨dx,m1,m2,m3,m4,ts,ms,gts,a1,a2,a3,a4,a5,a6,a7,a8,o1,o2,o3,o4,o5,o6⟩:=id SA;have hgts:=a8.length;refine⟨_,rfl,q,a.zj6,dx,_,_,rfl,a1,T.zkk,T.zob,Fz,m4,rfl,⟨_,SqL.of a7⟩,?_⟩;refine Bu (K:=K) (xs:=gts) (fun i ys H'=>Same H H'/\Wc (fun x=>H x=none) H' ys (s.gaps.take i)/\ys.length=i) ⟨Same.refl _,.nil,rfl⟩ (fun i ys H' _ ⟨s',_⟩=>SqL.of (s' _ _ a7)) (szN ⋯) (fun i ys H' ⟨_,_,e⟩=>by omega) ?_ ?_
 ·rintro i x ys H' hx ⟨s1,gl,hyl⟩;obtain⟨t,l,n,us,st,rfl,hgi,ht,hl,tl,_⟩:=a8.get hx;have ht1:=s1 _ _ ht;have hl1:=s1 _ _ hl;refine⟨t,_,rfl,SqT.of ht1,rfl,_,_,rfl,_,_,rfl,rfl,⟨[some (.int n),some (.ref l)],rfl,rfl⟩,?_⟩;unfold tYes;dsimp only;rw[if_pos rfl];refine⟨_,rfl,_,rfl,l,_,rfl,.inl (SqL.of hl1),fun l2 hl2=>?_⟩;have s2:=Zf (o:=.lst us) hl2;have q2:upd H' l2 (.lst us) l2=some (.lst us):=Zb;have f2:H l2=none:=s1.free hl2;generalize upd H' l2 (.lst us)=H2 at s2 q2;refine⟨sz2,fun t2 ht2=>?_⟩;have s3:=Zf (o:=.tup [.int n,.ref l2]) ht2;have s23:=s2.trans s3;refine⟨s1.trans s23,?_,by rw[zsn,hyl];rfl⟩;have e:s.gaps.take (i+1)=s.gaps.take i++[(n,st)]:=by rw[ztv,hgi];rfl
  rw[e];exact(gl.keep (fun _ _ _ z=>s23 _ _ z) (fun _ _ z=>s23 _ _ z)).snoc Zb (s3 _ _ q2) (tl.same (s1.trans s23)) f2
 ·rintro ys H' ⟨s1,gl,hyl⟩ l hl;rw[hgts,zs7] at gl;refine h l ys _ Zb ?_ (s1.trans (Zf hl)) (s1.free hl);exact(gl.imp (ok':=fun x=>H x=none/\x≠l) fun x ⟨o,e⟩ z=>⟨z,Zg e hl⟩).keep (fun _ _ _ z=>Zf hl _ _ z) (fun _ _ z=>Zf hl _ _ z)
abbrev Rc:Stmt:=Z3 (top 52) 12
theorem Hi:Zl ["self"] ["self"] (Zj Rc):=fnS
theorem Hj(F:Fun K "rows" "Sheet.rows" Rc f fd)(T:Tx K mg a):FnOk P w K mg base (CX1 P w) 1 f fd ["self"] (D1 (ca a)):=by
 refine F.okX Hi ⋯ fun _ _ _ _ H _ Q E hr h=>?_;obtain⟨ok,q,s,rfl,SA,ho,hgl,hml,h⟩:=h;refine⟨_,(Ze (Zm (Dm rfl (M4.mk (xo:=["match","number"]) (ys:=[]) (js:=[]) rfl rfl ⋯ ⋯ rfl (by repeat' (first|exact True.intro|apply And.intro|rfl)) (by repeat' (first|exact True.intro|apply And.intro|rfl)) ⋯) (zhg (K:=K) rfl rfl T.zqd (Za (Zn (K:=K) rfl (pv 0) rfl) (Za (Zn (K:=K) rfl (pv 0) rfl) Zd))) (fun _ _ _ _ _=>V7) (fun _ _ _ _ _=>(Wm (K:=K) (n:=2) rfl rfl (Zy (Sn (i:=0) (show List.Nodup [("match":Str),("number":Str)] by decide +kernel) rfl (by first|exact Or.inl rfl|exact Or.inr rfl)) (Zy (Sn (i:=1) (show List.Nodup [("match":Str),("number":Str)] by decide +kernel) rfl (by first|exact Or.inl rfl|exact Or.inr rfl)) Wl)))) (fun _ _ _ _ _=>(Zq (Dw (K:=K) rfl) (pv 0) (Yc (Za (pv 1) Zd))))))),?_⟩;obtain⟨dx,m1,m2,m3,m4,ts,ms,gts,a1,a2,a3,a4,a5,a6,a7,a8,o1,o2,o3,o4,o5,o6⟩:=id SA;have hts:ts.length=s.ms.length:=by rw[a3.length,zsk]
 refine⟨_,rfl,q,a.zj6,dx,_,_,rfl,a1,T.zkk,T.zma,Qz,_,rfl,q,a.zj6,dx,_,_,rfl,a1,T.zkk,T.zml,Qb,m1,m3,rfl,⟨_,SqL.of a2⟩,⟨_,SqL.of a6⟩,?_⟩;refine zbs (K:=K) (xs:=ts) (zs:=s.gv) (fun i ys H'=>Same H H'/\Yb H' ys (((Z5 s).take i).map row4)/\ys.length=i) ⟨Same.refl _,.nil,rfl⟩ ⋯ (fun i ys H' _ ⟨s',_⟩=>⟨SqL.of (s' _ _ a2),SqL.of (s' _ _ a6)⟩) (szN ⋯) (fun i ys H' ⟨_,_,e⟩=>by omega) ?_ ?_
 ·rintro i x z t ys H' hx hz ⟨s1,tl,hyl⟩ ht;obtain⟨tm,m,rfl,hm,htm⟩:=K1 a3 hx;have oz:=ho z (zsy hz);have s2:=s1.trans (Zf (o:=.tup [.ref tm,z]) ht);have tl2:=tl.same (Zf (o:=.tup [.ref tm,z]) ht);have q2:upd H' t (.tup [.ref tm,z]) t=some (.tup [.ref tm,z]):=Zb;generalize upd H' t (.tup [.ref tm,z])=H2 at s2 tl2 q2;refine⟨t,_,rfl,SqT.of q2,rfl,_,_,rfl,_,_,rfl,rfl,⟨[some (.ref tm),some z],rfl,rfl⟩,?_⟩;unfold tYes;dsimp only;rw[if_pos rfl];refine⟨_,rfl,_,rfl,sz1,fun t1 ht1=>?_⟩;have s3:=Zf (o:=.tup [z]) ht1;have q3:upd H2 t1 (.tup [z]) t1=some (.tup [z]):=Zb;generalize upd H2 t1 (.tup [z])=H3 at s3 q3;refine⟨tm,t1,_,_,rfl,rfl,SqT.of ((s2.trans s3) _ _ htm),SqT.of q3,by unfold pV;simp,by show 3+1<=sizeLine;exact sz4,fun z=>absurd z (by simp),fun _ t2 ht2=>?_⟩;have s4:=Zf (o:=.tup (pV m++[z])) ht2;refine⟨s2.trans (s3.trans s4),?_,by rw[zsn,hyl];rfl⟩;rw[zbt hm hz,zsq];refine((tl2.same s3).same s4).snoc ?_;rw[Zb,zhl m oz];rfl
 ·rintro ys H' ⟨s1,tl,hyl⟩ l hl;rw[hts,<- D2 hgl,zs7] at tl;exact h l ys _ Zb (tl.same (Zf hl)) (s1.trans (Zf hl)) (s1.free hl)
abbrev T2:Stmt:=top 53
theorem Jz:Zl ["listed","lists"] ["listed","lists"] (Zj T2):=fnS
theorem J0(F:Fun K "drawn_sheet" "drawn_sheet" T2 f fd)(T:Tx K mg a)(zmx:Tt P w K mg base "Sheet" a.zj6 1 ["self","listed","lists","given","gaps"] (Na (ca a)))(zqg:Z4 P w K mg base "fill" 3 ["may"] (zdh K)):FnOk P w K mg base (CX1 P w) 4 f fd ["listed","lists"] (zah (ca a)):=by
 refine F.okX Jz ⋯ fun _ _ _ _ H _ Q E hr h=>?_;obtain⟨ok,l1,l2,ts,ls,ms,rows,nu,rfl,hl1,tl,hl2,il,ok1,ok2,okl,no,mo,h⟩:=h;refine⟨_,(Ze (Zm (Fp zmx (hr.mono ⋯) Zk rfl (Za (pv 0) (Za (pv 1) (Za (pF zqg hr (Za (pv 1) Zd)) (Za (Z8 Zd) Zd))))))),?_⟩;refine⟨_,rfl,_,rfl,_,rfl,l2,ls,rows,nu,rfl,hl2,il,mo,fun l3 gv H1 h3 FP SP s1 f3=>?_⟩;refine⟨by show 0<=sizeLine;decide,fun l4 hl4=>?_⟩;have s2:=Zf (o:=.lst []) hl4;have q2:upd H1 l4 (.lst []) l4=some (.lst []):=Zb;generalize upd H1 l4 (.lst [])=H2 at s2 q2;have s12:=s1.trans s2;intro q dx hq hdx ne;refine⟨q,dx,l1,l2,l3,l4,rfl,Zb,fun H' e=>⟨rfl,?_⟩⟩;obtain⟨s3,q3⟩:=P6 (C:=a.zj6) (l1:=l1) (l2:=l2) (l3:=l3) (l4:=l4) hq hdx ne;rw[<- e] at s3 q3;have s:=s12.trans s3;exact h q gv H' ⟨dx,l1,l2,l3,l4,ts,ls,[],q3,s _ _ hl1,tl.same s,s _ _ hl2,il.same s,s3 _ _ (s2 _ _ h3),s3 _ _ q2,.nil,no _ (s12.free hq),ok1,ok2,no _ f3,no _ (s1.free hl4),okl⟩ FP SP s (s12.free hq)
abbrev Vm:Stmt:=Z3 (top 55) 0
theorem Om:Zl ["self","rounds","rest"] ["self","rounds","rest"] (Zj Vm):=fnS
theorem Oo(F:Fun K "__init__" "Season.__init__" Vm f fd)(T:Tx K mg a)(zkc:Z4 P w K mg base "check_range" 1 ["value","least","most"] (O9 a.zkp))(zpo:Tt P w K mg base "Roster" a.zj5 1 ["self"] (zaf (ca a)))(zpp:Tt P w K mg base "Ledger" a.zj4 1 ["self"] (A8 a.zj4)):FnOk P w K mg base (CX1 P w) 3 f fd ["self","rounds","rest"] (zai (ca a)):=by
 refine F.okX Om ⋯ fun _ _ _ _ H _ Q E hr h=>?_;obtain⟨p,dx,r,q,rfl,hp,sr,sq,h⟩:=h;refine⟨_,(Zc (Z2 (pF zkc hr (Za (pv 1) (Za Zi (Za (Wb rfl T.zl0) Zd)))))
 (Zc (Z2 (pF zkc hr (Za (pv 2) (Za Zi (Za (Wb rfl T.zmq) Zd)))))
 (Zc (Y1 (K:=K) rfl (pv 0) (pv 1) rfl)
 (Zc (Y1 (K:=K) rfl (pv 0) (pv 2) rfl)
 (Zc (Y1 (K:=K) rfl (pv 0) (A0 zpo (hr.mono ⋯) Zk rfl) rfl)
 (Zc (Y1 (K:=K) rfl (pv 0) (A0 zpp (hr.mono ⋯) Zk rfl) rfl)
 (Zc (Y1 (K:=K) rfl (pv 0) Ku rfl)
 (Zc (Y1 (K:=K) rfl (pv 0) (Z8 Zd) rfl)
 (Zc (Y1 (K:=K) rfl (pv 0) Y6 rfl)
 (Ze (Y1 (K:=K) rfl (pv 0) (Z8 Zd) rfl))))))))))),?_⟩
 show let y1:TS:=_;let y2:TS:=Z0 _ y1;let y3:TS:=Z0 _ y2;let y4:TS:=Z0 _ y3;let y5:TS:=Z0 _ y4;let y6:TS:=Z0 _ y5;let y7:TS:=Z0 _ y6;let y8:TS:=Z0 _ y7;let y9:TS:=Z0 _ y8;Z0 _ y9 _ _ _;intro y1 y2 y3 y4 y5 y6 y7 y8 y9;refine⟨_,rfl,r,0,60,rfl,sr,Yh ⋯,Yh ⋯,?_⟩;refine it2 h (fun _ z=>z) fun h1 h=>?_;refine⟨_,rfl,q,0,10,rfl,sq,Yh ⋯,Yh ⋯,?_⟩;refine it2 h (fun _ z=>z) fun h2 hF=>?_;have er:r=((r.toNat:Nat):Int):=by omega
 have eq':q=((q.toNat:Nat):Int):=by omega
 generalize r.toNat=rn at hF er;generalize q.toNat=qn at hF eq';subst er eq';refine⟨_,rfl,_,rfl,p,a.zj1,dx,_,rfl,hp,T.zj2,T.zm2,(by show 0<1000;decide),?_⟩;rw[pF1];refine⟨_,rfl,_,rfl,p,a.zj1,dx,_,rfl,Zb,T.zj2,T.zo5,(by show 1<1000;decide),?_⟩;rw[pF2,Kh];have b1:Vi p H (upd H p (.ins a.zj1 dx (sF2 (.int rn) (.int qn)))):=.put;have q1:upd H p (.ins a.zj1 dx (sF2 (.int rn) (.int qn))) p=some (.ins a.zj1 dx (sF2 (.int rn) (.int qn))):=Zb;generalize upd H p (.ins a.zj1 dx (sF2 (.int rn) (.int qn)))=H1 at b1 q1;intro pr dxr hpr hdxr ne;refine⟨pr,dxr,rfl,Zb,fun dr hdr=>⟨rfl,?_⟩⟩;have ndp:dr≠pr:=fun z=>by rw[z,Zb] at hdr;cases hdr
 have ndx:dr≠dxr:=fun z=>by rw[z,Zh ne,Zb] at hdr;cases hdr
 have hdr1:H1 dr=none:=by rw[Zh ndp,Zh ndx] at hdr;exact hdr
 have s2:Same H1 (upd (upd (upd (upd H1 dxr (.own pr)) pr (.ins a.zj5 dxr [])) dr (.dK [])) pr (.ins a.zj5 dxr [("entries",.ref dr)])):=fun b o e=>by
  rw[Zh (Zg e hpr),Zh (Zg e hdr1),Zh (Zg e hpr),Zh (Zg e hdxr)];exact e
 have R2:Xf a.zj5 (upd (upd (upd (upd H1 dxr (.own pr)) pr (.ins a.zj5 dxr [])) dr (.dK [])) pr (.ins a.zj5 dxr [("entries",.ref dr)])) pr dr []:=⟨⟨dxr,[],Zb,by rw[Zh ndp,Zb],.nil⟩,List.nodup_nil⟩;generalize upd (upd (upd (upd H1 dxr (.own pr)) pr (.ins a.zj5 dxr [])) dr (.dK [])) pr (.ins a.zj5 dxr [("entries",.ref dr)])=H2 at s2 R2;refine⟨_,rfl,p,a.zj1,dx,_,rfl,s2 _ _ q1,T.zj2,T.zlf,(by show 2<1000;decide),?_⟩;rw[pF3];have np2:pr≠p/\dr≠p:=⟨Ne.symm (Zg q1 hpr),Ne.symm (Zg q1 hdr1)⟩;have b3:Vi p H (upd H2 p (.ins a.zj1 dx (sF3 (.int rn) (.int qn) (.ref pr)))):=b1.trans ((Vi.of s2).trans .put);have q3:upd H2 p (.ins a.zj1 dx (sF3 (.int rn) (.int qn) (.ref pr))) p=some (.ins a.zj1 dx (sF3 (.int rn) (.int qn) (.ref pr))):=Zb;have kt3:∀ t xs,H2 t=some (.tup xs)->upd H2 p (.ins a.zj1 dx (sF3 (.int rn) (.int qn) (.ref pr))) t=some (.tup xs):=fun t xs e=>by rw[Zh (Yp e (s2 _ _ q1) (fun z=>nomatch z))];exact e
 have R3:=R2.keep (H':=upd H2 p (.ins a.zj1 dx (sF3 (.int rn) (.int qn) (.ref pr)))) (fun o e=>by rw[Zh np2.1];exact e) (fun o e=>by rw[Zh np2.2];exact e) kt3;have fdr:H dr=none:=Vi.free b1 ⟨_,q1⟩ hdr1;have hr2:H2 dr=some (.dK [])/\∃ o,H2 pr=some o:=by
  obtain⟨⟨x,kv,z1,z2,z3⟩,_⟩:=R2;cases z3;exact⟨z2,_,z1⟩
 generalize upd H2 p (.ins a.zj1 dx (sF3 (.int rn) (.int qn) (.ref pr)))=H3 at b3 q3 R3;intro pl dxl hpl hdxl nel;refine⟨pl,dxl,rfl,Zb,fun lr ld H4 L0 k0 f0 g0 n0=>⟨rfl,?_⟩⟩;obtain⟨s4,fr0,fd0⟩:=zde hpl hdxl nel k0 f0 g0;refine⟨_,rfl,p,a.zj1,dx,_,rfl,s4 _ _ q3,T.zj2,T.zlg,(by show 3<1000;decide),?_⟩;rw[pF4];have q4:=s4 _ _ q3;have np4:pl≠p/\lr≠p/\ld≠p:=⟨Ne.symm (Zg q3 hpl),Ne.symm (Zg q3 fr0),Ne.symm (Zg q3 fd0)⟩;have b5:Vi p H (upd H4 p (.ins a.zj1 dx (sF4 (.int rn) (.int qn) (.ref pr) (.ref pl)))):=b3.trans ((Vi.of s4).trans .put);have q5:upd H4 p (.ins a.zj1 dx (sF4 (.int rn) (.int qn) (.ref pr) (.ref pl))) p=some (.ins a.zj1 dx (sF4 (.int rn) (.int qn) (.ref pr) (.ref pl))):=Zb;have kt5:∀ t xs,H4 t=some (.tup xs)->upd H4 p (.ins a.zj1 dx (sF4 (.int rn) (.int qn) (.ref pr) (.ref pl))) t=some (.tup xs):=fun t xs e=>by rw[Zh (Yp e q4 (fun z=>nomatch z))];exact e
 have R5:=(R3.same s4).keep (H':=upd H4 p (.ins a.zj1 dx (sF4 (.int rn) (.int qn) (.ref pr) (.ref pl)))) (fun o e=>by rw[Zh np2.1];exact e) (fun o e=>by rw[Zh np2.2];exact e) kt5;have L5:=L0.keep (H':=upd H4 p (.ins a.zj1 dx (sF4 (.int rn) (.int qn) (.ref pr) (.ref pl)))) (fun o e=>by rw[Zh np4.1];exact e) (fun o e=>by rw[Zh np4.2.1];exact e) (fun o e=>by rw[Zh np4.2.2];exact e) kt5;have flr:H lr=none:=Vi.free b3 ⟨_,q3⟩ fr0;have fld:H ld=none:=Vi.free b3 ⟨_,q3⟩ fd0;have nrp:pr≠pl/\dr≠pl/\pr≠lr/\dr≠lr/\pr≠ld/\dr≠ld:=by
  obtain⟨⟨x,kv,z1,z2,_⟩,_⟩:=R3;exact⟨Zg z1 hpl,Zg z2 hpl,Zg z1 fr0,Zg z2 fr0,Zg z1 fd0,Zg z2 fd0⟩
 generalize upd H4 p (.ins a.zj1 dx (sF4 (.int rn) (.int qn) (.ref pr) (.ref pl)))=H5 at b5 q5 R5 L5;intro da hda;have npa:da≠p:=Ne.symm (Zg q5 hda);refine⟨_,rfl,p,a.zj1,dx,_,rfl,Zf (o:=.dT []) hda _ _ q5,T.zj2,T.zl4,(by show 4<1000;decide),?_⟩;rw[pF5];have b7:Vi p H5 (upd (upd H5 da (.dT [])) p (.ins a.zj1 dx (sF5 (.int rn) (.int qn) (.ref pr) (.ref pl) (.ref da)))):=(Vi.of (Zf hda)).trans .put;have q7:upd (upd H5 da (.dT [])) p (.ins a.zj1 dx (sF5 (.int rn) (.int qn) (.ref pr) (.ref pl) (.ref da))) p=some (.ins a.zj1 dx (sF5 (.int rn) (.int qn) (.ref pr) (.ref pl) (.ref da))):=Zb;have d7:upd (upd H5 da (.dT [])) p (.ins a.zj1 dx (sF5 (.int rn) (.int qn) (.ref pr) (.ref pl) (.ref da))) da=some (.dT []):=by rw[Zh npa,Zb]
 generalize upd (upd H5 da (.dT [])) p (.ins a.zj1 dx (sF5 (.int rn) (.int qn) (.ref pr) (.ref pl) (.ref da)))=H7 at b7 q7 d7;refine⟨by show 0<=sizeLine;decide,fun ls hls=>?_⟩;have nps:ls≠p:=Ne.symm (Zg q7 hls);refine⟨_,rfl,p,a.zj1,dx,_,rfl,Zf (o:=.lst []) hls _ _ q7,T.zj2,T.zm1,(by show 5<1000;decide),?_⟩;rw[pF6];have b9:Vi p H7 (upd (upd H7 ls (.lst [])) p (.ins a.zj1 dx (sF6 (.int rn) (.int qn) (.ref pr) (.ref pl) (.ref da) (.ref ls)))):=(Vi.of (Zf hls)).trans .put;have q9:upd (upd H7 ls (.lst [])) p (.ins a.zj1 dx (sF6 (.int rn) (.int qn) (.ref pr) (.ref pl) (.ref da) (.ref ls))) p=some (.ins a.zj1 dx (sF6 (.int rn) (.int qn) (.ref pr) (.ref pl) (.ref da) (.ref ls))):=Zb;have l9:upd (upd H7 ls (.lst [])) p (.ins a.zj1 dx (sF6 (.int rn) (.int qn) (.ref pr) (.ref pl) (.ref da) (.ref ls))) ls=some (.lst []):=by rw[Zh nps,Zb]
 generalize upd (upd H7 ls (.lst [])) p (.ins a.zj1 dx (sF6 (.int rn) (.int qn) (.ref pr) (.ref pl) (.ref da) (.ref ls)))=H9 at b9 q9 l9;refine⟨_,rfl,p,a.zj1,dx,_,rfl,q9,T.zj2,T.zkx,(by show 6<1000;decide),?_⟩;rw[pF7];have b10:Vi p H9 (upd H9 p (.ins a.zj1 dx (sF7 (.int rn) (.int qn) (.ref pr) (.ref pl) (.ref da) (.ref ls) .non))):=.put;have q10:upd H9 p (.ins a.zj1 dx (sF7 (.int rn) (.int qn) (.ref pr) (.ref pl) (.ref da) (.ref ls) .non)) p=some (.ins a.zj1 dx (sF7 (.int rn) (.int qn) (.ref pr) (.ref pl) (.ref da) (.ref ls) .non)):=Zb;generalize upd H9 p (.ins a.zj1 dx (sF7 (.int rn) (.int qn) (.ref pr) (.ref pl) (.ref da) (.ref ls) .non))=H10 at b10 q10;refine⟨by show 0<=sizeLine;decide,fun lt hlt=>?_⟩;have npt:lt≠p:=Ne.symm (Zg q10 hlt);refine⟨_,rfl,p,a.zj1,dx,_,rfl,Zf (o:=.lst []) hlt _ _ q10,T.zj2,T.zk8,(by show 7<1000;decide),?_⟩;rw[pF8];have b12:Vi p H10 (upd (upd H10 lt (.lst [])) p (.ins a.zj1 dx (sF8 (.int rn) (.int qn) (.ref pr) (.ref pl) (.ref da) (.ref ls) .non (.ref lt)))):=(Vi.of (Zf hlt)).trans .put;have q12:upd (upd H10 lt (.lst [])) p (.ins a.zj1 dx (sF8 (.int rn) (.int qn) (.ref pr) (.ref pl) (.ref da) (.ref ls) .non (.ref lt))) p=some (.ins a.zj1 dx (sF8 (.int rn) (.int qn) (.ref pr) (.ref pl) (.ref da) (.ref ls) .non (.ref lt))):=Zb;have l12:upd (upd H10 lt (.lst [])) p (.ins a.zj1 dx (sF8 (.int rn) (.int qn) (.ref pr) (.ref pl) (.ref da) (.ref ls) .non (.ref lt))) lt=some (.lst []):=by rw[Zh npt,Zb]
 generalize upd (upd H10 lt (.lst [])) p (.ins a.zj1 dx (sF8 (.int rn) (.int qn) (.ref pr) (.ref pl) (.ref da) (.ref ls) .non (.ref lt)))=H12 at b12 q12 l12;have b912:=b10.trans b12;have b712:=b9.trans b912;have b512:=b7.trans b712;have bb:=b5.trans b512;have kt:∀ t xs,H5 t=some (.tup xs)->H12 t=some (.tup xs):=fun t xs e=>b512 t _ e (Yp e q5 (fun z=>nomatch z));have R12:=R5.keep (fun o e=>b512 _ o e np2.1) (fun o e=>b512 _ o e np2.2) kt;have L12:=L5.keep (fun o e=>b512 _ o e np4.1) (fun o e=>b512 _ o e np4.2.1) (fun o e=>b512 _ o e np4.2.2) kt;have d12:=b712 _ _ d7 npa;have l912:=b912 _ _ l9 nps;have fda:H da=none:=Vi.free b5 ⟨_,q5⟩ hda;have fls:H ls=none:=Vi.free (b5.trans b7) ⟨_,q7⟩ hls;have flt:H lt=none:=Vi.free (b5.trans (b7.trans (b9.trans b10))) ⟨_,q10⟩ hlt;have ex5:(∃ o,H5 pr=some o)/\(∃ o,H5 dr=some o)/\(∃ o,H5 pl=some o)/\(∃ o,H5 lr=some o)/\(∃ o,H5 ld=some o):=by
  obtain⟨⟨x,kv,z1,z2,_⟩,_⟩:=id R5;obtain⟨⟨y,w1⟩,⟨rs,w2,_⟩,⟨ks,w3,_⟩⟩:=id L5;exact⟨⟨_,z1⟩,⟨_,z2⟩,⟨_,w1⟩,⟨_,w2⟩,⟨_,w3⟩⟩
 have n5:∀ {x y:Addr},(∃ o,H5 x=some o)->H5 y=none->x≠y:=fun ⟨o,e⟩ hy=>Zg e hy;have fls5:H5 ls=none:=Vi.free b7 ⟨_,q7⟩ hls;have flt5:H5 lt=none:=Vi.free (b7.trans (b9.trans b10)) ⟨_,q10⟩ hlt;have ndas:da≠ls:=Zg d7 hls;have ndat:da≠lt:=Zg (b10 _ _ (b9 _ _ d7 npa) npa) hlt;have nst:ls≠lt:=Zg (b10 _ _ l9 nps) hlt;obtain⟨e1,e2,e3,e4,e5⟩:=ex5;have nrl:lr≠ld:=n0;refine hF ⟨p,pr,dr,pl,lr,ld,da,ls,lt⟩ H12 rfl ⟨⟨dx,.non,q12,rfl⟩,R12,L12,⟨[],d12,fun i n=>rfl,zst _⟩,⟨[],l912,.nil⟩,⟨[],l12,.nil⟩,?_,?_⟩ bb ?_
 ·show [p,dr,lr,ld,da,ls,lt].Nodup;simp only[ztd,zso,zto,or_false,not_or];exact⟨⟨Ne.symm np2.2,Ne.symm np4.2.1,Ne.symm np4.2.2,Ne.symm npa,Ne.symm nps,Ne.symm npt⟩,⟨nrp.2.2.2.1,nrp.2.2.2.2.2,n5 e2 hda,n5 e2 fls5,n5 e2 flt5⟩,⟨nrl,n5 e4 hda,n5 e4 fls5,n5 e4 flt5⟩,⟨n5 e5 hda,n5 e5 fls5,n5 e5 flt5⟩,⟨ndas,ndat⟩,nst,by simp,List.nodup_nil⟩
 ·have hpr5:∃ x fs,H5 pr=some (.ins a.zj5 x fs):=by obtain⟨⟨x,kv,z1,_⟩,_⟩:=R5;exact⟨_,_,z1⟩
  have hdr5:∃ kv,H5 dr=some (.dK kv):=by obtain⟨⟨x,kv,_,z2,_⟩,_⟩:=R5;exact⟨_,z2⟩
  have hpl5:∃ x fs,H5 pl=some (.ins a.zj4 x fs):=by obtain⟨⟨y,w1⟩,_⟩:=L5;exact⟨_,_,w1⟩
  obtain⟨x1,y1,z1⟩:=hpr5;obtain⟨y2,z2⟩:=hdr5;obtain⟨x3,y3,z3⟩:=hpl5;obtain⟨_,⟨rs,w2,_⟩,⟨ks,w3,_⟩⟩:=id L5;have nm:∀ m,m∈([p,dr,lr,ld,da,ls,lt]:List Addr)↔m=p\/m=dr\/m=lr\/m=ld\/m=da\/m=ls\/m=lt:=fun m=>by simp
  refine⟨fun hm=>?_,fun hm=>?_⟩
  ·rcases(nm _).mp hm with q|q|q|q|q|q|q
   ·exact np2.1 q
   ·exact Yp z1 z2 (fun z=>nomatch z) q
   ·exact nrp.2.2.1 q
   ·exact nrp.2.2.2.2.1 q
   ·exact n5 e1 hda q
   ·exact n5 e1 fls5 q
   ·exact n5 e1 flt5 q
  ·rcases(nm _).mp hm with q|q|q|q|q|q|q
   ·exact np4.1 q
   ·exact nrp.2.1 q.symm
   ·exact Yp z3 w2 (fun z=>nomatch z) q
   ·exact Yp z3 w3 (fun z=>nomatch z) q
   ·exact n5 e3 hda q
   ·exact n5 e3 fls5 q
   ·exact n5 e3 flt5 q
 ·intro x hx hxp;simp only[SAd.fp,zso,zto,or_false] at hx;rcases hx with q|q|q|q|q|q|q
  ·exact absurd q hxp
  ·rw[q];exact fdr
  ·rw[q];exact flr
  ·rw[q];exact fld
  ·rw[q];exact fda
  ·rw[q];exact fls
  ·rw[q];exact flt
abbrev Xy:Stmt:=Z3 (top 55) 1
theorem T3:Zl ["self"] ["self"] (Zj Xy):=fnS
theorem T4(F:Fun K "check_not_over" "Season.check_not_over" Xy f fd)(T:Tx K mg a)(zj3:Zu P w K mg base a.zj1 "at_hand" 2 ["self"] (Vg (ca a))):FnOk P w K mg base (CX1 P w) 3 f fd ["self"] (N6 (ca a)):=by
 refine F.okX T3 ⋯ fun _ _ _ _ H _ Q E hr h=>?_;obtain⟨A',S,rfl,SA,h⟩:=h;refine⟨_,(Ze (Z6 (Zo Rw (Yi (pv 0) T.zj2 zj3 (hr.mono ⋯) Zk) (Zn (K:=K) rfl (pv 0) rfl) (Zw _))
  (Ze (Xa Y9 rfl T.zp9 rfl (Za Zr Zd)))
  Zs)),?_⟩
 obtain⟨⟨dx,v,a1,a2⟩,b,c,_⟩:=id SA;refine⟨_,rfl,A'.p,dx,_,rfl,a1,Ye ⋯,A',S,rfl,SA,_,rfl,A'.p,a.zj1,dx,_,_,rfl,a1,T.zj2,T.zm2,G1,_,_,rfl,rfl,_,rfl,?_⟩;refine itD (fun hc=>?_) (fun hc=>?_)
 ·rw[if_pos (by unfold atV at hc;omega)] at h;exact⟨sz1,h⟩
 ·rw[if_neg (by unfold atV at hc;omega)] at h;exact h
abbrev X3:Stmt:=Z3 (top 55) 2
theorem Sj:Zl ["self"] ["self"] (Zj X3):=fnS
theorem Sk(F:Fun K "check_undrawn" "Season.check_undrawn" X3 f fd)(T:Tx K mg a)(zkd:Zu P w K mg base a.zj1 "check_not_over" 3 ["self"] (N6 (ca a))):FnOk P w K mg base (CX1 P w) 4 f fd ["self"] (N7 (ca a)):=by
 refine F.okX Sj ⋯ fun _ _ _ _ H _ Q E hr h=>?_;obtain⟨A',S,rfl,SA,h⟩:=h;refine⟨_,(Zc (Z2 (Yi (pv 0) T.zj2 zkd (hr.mono ⋯) Zk))
 (Ze (Z6 (Zo Te (Zn (K:=K) rfl (pv 0) rfl) Y6 (Zw _))
  (Ze (Xa Y9 rfl T.zqh rfl (Za Zr Zd)))
  Zs))),?_⟩
 obtain⟨⟨dx,v,a1,a2⟩,b,c,_⟩:=id SA;refine⟨_,rfl,A'.p,dx,_,rfl,a1,Ye ⋯,A',S,rfl,SA,?_⟩;refine it2 h (fun _ z=>z) fun hn h=>?_;refine⟨_,rfl,A'.p,a.zj1,dx,_,_,rfl,a1,T.zj2,T.zkx,Wh,rfl,_,rfl,?_⟩;cases hc:S.cur with
 | none =>
   rw[hc] at a2 h;have a2:v=.non:=a2;rw[a2];exact iteF h
 | some s =>
   rw[hc] at a2 h;obtain⟨q,rfl,_⟩:=a2;exact iteT ⟨sz1,h⟩
abbrev Wk:Stmt:=Z3 (top 55) 3
theorem Rr:Zl ["self","at"] ["self","at"] (Zj Wk):=fnS
theorem Rt(F:Fun K "check_round" "Season.check_round" Wk f fd)(T:Tx K mg a):FnOk P w K mg base (CX1 P w) 1 f fd ["self","at"] (F3 (ca a)):=by
 refine F.okX Rr ⋯ fun _ _ _ _ H _ Q E hr h=>?_;obtain⟨A',S,i,rfl,SA,si,h⟩:=h;refine⟨_,(Ze (Z6 (PW.pt (Td (Zo Ga (pv 1) Zi (Zw _)) (Vx (Zo Rw (pv 1) (Zn (K:=K) rfl (pv 0) rfl) (Zw _)))))
  (Ze (Xa Y9 rfl T.zok rfl (Za (Wz (Zx (Wr (pv 1)) (Zx (Xk ⋯) Wy)) ⋯) Zd)))
  Zs)),?_⟩
 obtain⟨⟨dx,v,a1,a2⟩,b,c,_⟩:=id SA;refine⟨_,rfl,_,_,rfl,rfl,_,rfl,?_⟩;refine itD (fun hc=>?_) (fun hc=>?_)
 ·rw[if_pos (.inl hc)] at h;refine iteT ?_;exact⟨_,rfl,.inl ⟨_,rfl,si⟩,fun z=>⟨sz1,h⟩⟩
 refine⟨_,rfl,_,rfl,A'.p,a.zj1,dx,_,_,rfl,a1,T.zj2,T.zm2,G1,_,_,rfl,rfl,_,rfl,?_⟩;refine itD (fun hc2=>?_) (fun hc2=>?_)
 ·rw[if_pos (.inr hc2)] at h;exact⟨_,rfl,.inl ⟨_,rfl,si⟩,fun z=>⟨sz1,h⟩⟩
 ·rw[if_neg (fun z=>z.elim hc hc2)] at h;exact h
abbrev Wt:Stmt:=Z3 (top 55) 4
theorem Qg:Zl ["self"] ["self"] (Zj Wt):=fnS
theorem Qh(F:Fun K "check_room" "Season.check_room" Wt f fd)(T:Tx K mg a):FnOk P w K mg base (CX1 P w) 1 f fd ["self"] (F4 (ca a)):=by
 refine F.okX Qg ⋯ fun _ _ _ _ H _ Q E hr h=>?_;obtain⟨A',S,rfl,SA,h⟩:=h;refine⟨_,(Ze (Z6 (Zo zfv (Zt (cL K) (by rfl) T.zkj PySem.boot_len (Za (Zn (K:=K) rfl (pv 0) rfl) Zd)) (Wb rfl T.zlu) (Zw _))
  (Ze (Xa Y9 rfl T.zpu rfl (Za (Wz (Zx (Wr (Wb rfl T.zlu)) (Zx (Xk ⋯) Wy)) ⋯) Zd)))
  Zs)),?_⟩
 obtain⟨⟨dx,v,a1,a2⟩,b,c,d,f,⟨us,g1,g2⟩,nd,np⟩:=id SA;refine⟨_,rfl,A'.p,a.zj1,dx,_,_,rfl,a1,T.zj2,T.zk8,Tj,A'.lt,_,rfl,.inl (SqL.of g1),_,_,rfl,rfl,_,rfl,?_⟩;rw[g2.length];refine itD (fun hc=>?_) (fun hc=>?_)
 ·rw[if_pos ⋯] at h;exact⟨.inl ⟨_,rfl,Yh ⋯⟩,fun z=>⟨sz1,h⟩⟩
 ·rw[if_neg ⋯] at h;exact h
abbrev T5:Stmt:=Z3 (top 55) 5
theorem J1:Zl ["self","word","number","at"] ["self","word","number","at"] (Zj T5):=fnS
theorem J2(F:Fun K "note" "Season.note" T5 f fd)(T:Tx K mg a):FnOk P w K mg base (CX1 P w) 1 f fd ["self","word","number","at"] (F5 (ca a)):=by
 refine F.okX J1 ⋯ fun _ _ _ _ H _ Q E hr h=>?_;obtain⟨A',S,w',n,i,rfl,SA,hz,h⟩:=h;refine⟨_,(Ze (Yk (Zn (K:=K) rfl (pv 0) rfl) (Yc (Za (Yc (Za (pv 1) (Za (pv 2) (Za (pv 3) Zd)))) (Za (Zn (K:=K) rfl (pv 0) rfl) Zd))))),?_⟩;obtain⟨⟨dx,v,a1,a2⟩,b,c,⟨kvs,d1,d2⟩,⟨vs,f1,f2⟩,⟨us,g1,g2⟩,nd,np⟩:=id SA;refine⟨_,rfl,A'.p,a.zj1,dx,_,_,rfl,a1,T.zj2,T.zk8,Tj,A'.lt,us,rfl,g1,?_⟩;refine⟨_,rfl,_,rfl,_,rfl,sz3,fun t1 ht1=>?_⟩;have s1:=Zf (o:=.tup [.str w',.int n,.int i]) ht1;have q1:upd H t1 (.tup [.str w',.int n,.int i]) t1=some (.tup (Pk (w',n,i))):=Zb;generalize upd H t1 (.tup [.str w',.int n,.int i])=H1 at s1 q1;refine⟨_,rfl,A'.p,a.zj1,dx,_,_,rfl,s1 _ _ a1,T.zj2,T.zkx,Wh,sz2,fun t2 ht2=>?_⟩;have s2:=Zf (o:=.tup [.ref t1,v]) ht2;have q2:upd H1 t2 (.tup [.ref t1,v]) t2=some (.tup [.ref t1,v]):=Zb;have q12:=s2 _ _ q1;have s12:=s1.trans s2;generalize upd H1 t2 (.tup [.ref t1,v])=H2 at s2 q2 q12 s12;refine⟨us,s12 _ _ g1,by have:=g2.length;have:=Uu;omega,?_⟩;have fr:FrS A' H (upd H2 A'.lt (.lst (us++[.ref t2]))):=fun b o e hb=>by
  rw[Zh (fun z=>hb (by rw[z];simp[SAd.fp]))];exact s12 _ _ e
 have kt:=SA.tups fr;have kp:∀ x o,x≠A'.lt->H x=some o->upd H2 A'.lt (.lst (us++[.ref t2])) x=some o:=fun x o hx e=>by rw[Zh hx];exact s12 _ _ e
 have kt2:∀ t xs,H2 t=some (.tup xs)->upd H2 A'.lt (.lst (us++[.ref t2])) t=some (.tup xs):=fun t xs e=>by
  rw[Zh (Yp e (s12 _ _ g1) (fun z=>nomatch z))];exact e
 have ko:∀ x o,x∉A'.fp->H x=some o->upd H2 A'.lt (.lst (us++[.ref t2])) x=some o:=fun x o hx e=>fr x o e hx;have nd':=nd;simp only[SAd.fp,ztd,zso,zto,or_false,not_or] at nd';obtain⟨⟨n1,n2,n3,n4,n5,n6⟩,⟨n7,n8,n9,n10,n11⟩,⟨n12,n13,n14,n15⟩,⟨n16,n17,n18⟩,⟨n19,n20⟩,n21,_⟩:=nd';have npt:A'.pr≠A'.lt/\A'.pl≠A'.lt:=⟨fun z=>np.1 (by rw[z];simp[SAd.fp]),fun z=>np.2 (by rw[z];simp[SAd.fp])⟩;refine h _ ⟨⟨dx,v,kp _ _ n6 a1,a2.keep ko kt⟩,b.keep (fun o e=>kp _ o npt.1 e) (fun o e=>kp _ o n11 e) kt,c.keep (fun o e=>kp _ o npt.2 e) (fun o e=>kp _ o n15 e) (fun o e=>kp _ o n18 e) kt,⟨kvs,kp _ _ n20 d1,d2⟩,⟨vs,kp _ _ n21 f1,f2.keep ko kt⟩,⟨us++[.ref t2],Zb,?_⟩,nd,np⟩ fr;exact(g2.keep ko kt).snoc (kt2 _ _ q2) (kt2 _ _ q12) (a2.keep ko kt)
abbrev X4:Stmt:=Z3 (top 55) 6
theorem Sl:Zl ["self"] ["self"] (Zj X4):=fnS
theorem Sm(F:Fun K "sheet_at_hand" "Season.sheet_at_hand" X4 f fd)(T:Tx K mg a):FnOk P w K mg base (CX1 P w) 1 f fd ["self"] (P7 (ca a)):=by
 refine F.okX Sl ⋯ fun _ _ _ _ H _ Q E hr h=>?_;obtain⟨A',S,rfl,SA,h1,h2⟩:=h;refine⟨_,(Zc (Z6 (Zo Nv (Zn (K:=K) rfl (pv 0) rfl) Y6 (Zw _))
  (Ze (Xa Y9 rfl T.zps rfl (Za Zr Zd)))
  Zs)
 (Ze (Zm (Zn (K:=K) rfl (pv 0) rfl)))),?_⟩
 obtain⟨⟨dx,v,a1,a2⟩,b,c,_⟩:=id SA;refine⟨_,rfl,A'.p,a.zj1,dx,_,_,rfl,a1,T.zj2,T.zkx,Wh,rfl,_,rfl,?_⟩;cases hc:S.cur with
 | none =>
   rw[hc] at a2;have a2:v=.non:=a2;rw[a2];exact iteT ⟨sz1,h1 hc⟩
 | some s =>
   rw[hc] at a2;obtain⟨q,rfl,hs⟩:=a2;refine iteF ?_;exact⟨_,rfl,A'.p,a.zj1,dx,_,_,rfl,a1,T.zj2,T.zkx,Wh,h2 s q hc hs⟩
abbrev Vn:Stmt:=Z3 (top 55) 7
theorem Oq:Zl ["self","at"] ["self","at"] (Zj Vn):=fnS
theorem Ot(F:Fun K "sheet_of" "Season.sheet_of" Vn f fd)(T:Tx K mg a)(zkn:Zu P w K mg base a.zj1 "check_round" 1 ["self","at"] (F3 (ca a)))(zj9:Zu P w K mg base a.zj4 "over" 1 ["self"] (N1 a.zj4))(zj3:Zu P w K mg base a.zj1 "at_hand" 2 ["self"] (Vg (ca a)))(zkg:Zu P w K mg base a.zj1 "sheet_at_hand" 1 ["self"] (P7 (ca a))):FnOk P w K mg base (CX1 P w) 3 f fd ["self","at"] (G3 (ca a)):=by
 refine F.okX Oq ⋯ fun _ _ _ _ H _ Q E hr h=>?_;obtain⟨A',S,i,rfl,SA,si,hol,h⟩:=h;refine⟨_,(Zc (Z2 (Xd (pv 0) T.zj2 zkn (hr.mono ⋯) Zk (Za (pv 1) Zd)))
 (Zc (Z6 (Zo zcj (pv 1) (Yi (Zn (K:=K) rfl (pv 0) rfl) T.zks zj9 (hr.mono ⋯) Zk) (Zw _))
  (Ze (Zm (pI (iL K) (Zn (K:=K) rfl (pv 0) rfl) (Zq Ru (pv 1) Zi))))
  Zs)
 (Zc (Z6 (Zo Rw (pv 1) (Yi (pv 0) T.zj2 zj3 (hr.mono ⋯) Zk) (Zw _))
  (Ze (Xa Y9 rfl T.zps rfl (Za (Wz (Zx (Xk ⋯) (Zx (Wr (pv 1)) (Zx (Xk ⋯) Wy))) ⋯) Zd)))
  Zs)
 (Ze (Zm (Yi (pv 0) T.zj2 zkg (hr.mono ⋯) Zk)))))),?_⟩
 obtain⟨⟨dx,v,a1,a2⟩,b,c,d,⟨vs,f1,f2⟩,_⟩:=id SA;obtain⟨⟨dxl,hpl⟩,_⟩:=id c;refine⟨_,rfl,A'.p,dx,_,rfl,a1,Ye ⋯,_,rfl,A',S,i,rfl,SA,si,?_⟩;refine it2 h (fun _ z=>z) fun hn h=>?_;refine⟨_,rfl,_,rfl,A'.p,a.zj1,dx,_,_,rfl,a1,T.zj2,T.zlg,V0,A'.pl,dxl,_,rfl,hpl,Mz ⋯ ⋯,A'.pl,A'.lr,A'.ld,S.led,rfl,c,_,_,rfl,rfl,_,rfl,?_⟩;refine itD (fun hc=>?_) (fun hc=>?_)
 ·have hk:(i-1).toNat<S.old.length:=by omega
  have hs:Vh S i=some (S.old[(i-1).toNat]'hk):=by unfold Vh;rw[if_pos hc];exact zsl hk
  obtain⟨q,e1,e2⟩:=f2.getR (zsl hk);exact⟨_,rfl,A'.p,a.zj1,dx,_,_,rfl,a1,T.zj2,T.zm1,G2,_,rfl,_,_,rfl,rfl,A'.ls,_,_,_,rfl,rfl,SqL.of f1,(show atI vs (i-1)=some (.ref q) by rw[show i-1=(((i-1).toNat:Nat):Int) by omega];exact Z9 e1),h.2 _ q hs e2⟩
 ·refine Z1 ?_;refine⟨_,rfl,_,rfl,A'.p,dx,_,rfl,a1,Ye ⋯,A',S,rfl,SA,_,_,rfl,rfl,_,rfl,?_⟩;refine itD (fun hc2=>?_) (fun hc2=>?_)
  ·exact⟨_,rfl,.inl ⟨_,rfl,si⟩,fun z=>⟨sz1,h.1 (by unfold Vh;rw[if_neg hc,if_pos (by unfold atV at hc2;omega)])⟩⟩
  ·have hs:Vh S i=S.cur:=by unfold Vh;rw[if_neg hc,if_neg (by unfold atV at hc2;omega)]
   exact⟨_,rfl,A'.p,dx,_,rfl,a1,Ye ⋯,A',S,rfl,SA,fun hz=>h.1 (by rw[hs];exact hz),fun s q hz hq=>h.2 s q (by rw[hs];exact hz) hq⟩
abbrev W8:Stmt:=Z3 (top 55) 8
theorem Xu:Zl ["self","listed","people","at","out"] ["self","listed"] (Zj W8):=fnS
theorem Pd(F:Fun K "takers_of" "Season.takers_of" W8 f fd)(T:Tx K mg a)(zlv:Zu P w K mg base a.zj5 "numbers" 1 ["self"] (K3 (ca a)))(zmt:Zu P w K mg base a.zj5 "person" 3 ["self","number"] (Dv (ca a)))(zj3:Zu P w K mg base a.zj1 "at_hand" 2 ["self"] (Vg (ca a)))(zpx:Z4 P w K mg base "takers" 4 ["people","match","out","ledger","rest"] (Dk K a.zj4)):FnOk P w K mg base (CX1 P w) 5 f fd ["self","listed"] (P8 (ca a)):=by
 refine F.okX Xu ⋯ fun _ _ _ _ H _ Q E hr h=>?_;obtain⟨A',S,l,ts,ms,rfl,SA,hl,tl,hml,hpl,hsm,h⟩:=h;have hu:=Wa hr;refine⟨_,(Zc (pS 2 Xu.nd (V9 rfl (cT ["self"] [0]) (Yj (K:=K) rfl (Yi (Zn (K:=K) rfl (pv 0) rfl) T.zkr zlv (hr.mono ⋯) Zk)) (fun _ _ _ _ _=>V7) (fun _ _ _ _ _=>(Xd (Zn (K:=K) rfl (pv 1) rfl) T.zkr zmt (hr.mono ⋯) Dc (Za (pv 0) Zd)))))
 (Zc (pS 3 Xu.nd (Yi (pv 0) T.zj2 zj3 (hr.mono ⋯) Zk))
 (Zc (pS 4 Xu.nd (V9 rfl (cT ["at","self"] [3,0]) (Yj (K:=K) rfl (Yi (Zn (K:=K) rfl (pv 0) rfl) T.zkr zlv (hr.mono ⋯) Zk)) (fun _ _ _ _ _=>Kk (Uq (Pt hu (Yc (Za (pv 1) (Za (pv 0) Zd))) (Zn (K:=K) rfl (pv 2) rfl)))) (fun _ _ _ _ _=>(pv 0))))
 (Ze (Zm (V9 rfl (cT ["people","out","self"] [2,4,0]) (Yj (K:=K) rfl (pv 1)) (fun _ _ _ _ _=>V7) (fun _ _ _ _ _=>(Dd zpx (hr.mono ⋯) Dc rfl (Za (pv 1) (Za (pv 0) (Za (pv 2) (Za (Zn (K:=K) rfl (pv 3) rfl) (Za (Zn (K:=K) rfl (pv 3) rfl) Zd))))))))))))),?_⟩
 obtain⟨⟨dx,v,a1,a2⟩,b,c,⟨kvs,d1,d2⟩,_⟩:=id SA;obtain⟨⟨dxr,kvr,hpr,hdr,en⟩,ndr⟩:=id b;refine⟨_,rfl,A'.p,a.zj1,dx,_,_,rfl,a1,T.zj2,T.zlf,Vz,A'.pr,dxr,_,rfl,hpr,Xf.no ⋯,A'.pr,A'.dr,S.ppl,rfl,b,fun ln hln=>?_⟩;have s1:=Zf (o:=.lst (S.ppl.map fun x=>V.int x.1)) hln;have q1:upd H ln (.lst (S.ppl.map fun x=>V.int x.1)) ln=some (.lst (S.ppl.map fun x=>V.int x.1)):=Zb;generalize upd H ln (.lst (S.ppl.map fun x=>V.int x.1))=H1 at s1 q1;have hnl:(S.ppl.map fun x=>V.int x.1).length=S.ppl.length:=by rw[zsk]
 refine⟨ln,rfl,⟨_,SqL.of q1⟩,Vc (K:=K) (xs:=S.ppl.map fun x=>V.int x.1) (fun i ys H'=>Same H H'/\Same H1 H'/\Yb H' ys ((S.ppl.take i).map pV)/\ys.length=i) ⟨s1,Same.refl _,.nil,rfl⟩ (fun i ys H' _ ⟨_,z,_⟩=>SqL.of (z _ _ q1)) (szN ⋯) (fun i ys H' ⟨_,_,_,e⟩=>by omega) ?_ ?_⟩
 ·rintro i x ys H' hx ⟨sh,s1',tl',hyl⟩;have hi:i<S.ppl.length:=by have:=(zsm.mp hx).1;omega
  have hpi:S.ppl[i]?=some (S.ppl[i]'hi):=zsl hi;have etk:S.ppl.take (i+1)=S.ppl.take i++[S.ppl[i]'hi]:=ztg hi;have hmem:S.ppl[i]'hi∈S.ppl:=ztf hi;have ex:x=.int (S.ppl[i]'hi).1:=by rw[zsr,hpi] at hx;exact(Option.some.inj hx).symm
  generalize (S.ppl[i]'hi)=pp at hpi etk hmem ex;subst ex;unfold tYes;dsimp only;rw[if_pos rfl];refine⟨_,rfl,A'.p,a.zj1,dx,_,_,rfl,sh _ _ a1,T.zj2,T.zlf,Vz,A'.pr,dxr,_,rfl,sh _ _ hpr,Xf.no ⋯,_,rfl,A'.pr,A'.dr,S.ppl,pp.1,rfl,b.same sh,hsm pp hmem,fun z=>absurd (zsu.mpr ⟨pp,hmem,rfl⟩) z,fun g c' t H2 hm ht s2 _=>?_⟩;have epp:=zfg b.nd hm hmem rfl;rw[epp] at ht;refine⟨sh.trans s2,s1'.trans s2,?_,by rw[zsn,hyl];rfl⟩;rw[etk,zsq];exact(tl'.same s2).snoc ht
 rintro ys H2 ⟨sh2,s12,tl2,hyl⟩ lp hlp;rw[hnl,zs7] at tl2;have s3:=sh2.trans (Zf (o:=.lst ys) hlp);have q3:upd H2 lp (.lst ys) lp=some (.lst ys):=Zb;have tl3:=tl2.same (Zf (o:=.lst ys) hlp);generalize upd H2 lp (.lst ys)=H3 at s3 q3 tl3;have SA3:=SA.same s3;refine⟨_,rfl,A'.p,dx,_,rfl,s3 _ _ a1,Ye ⋯,A',S,rfl,SA3,?_⟩;refine⟨_,rfl,A'.p,a.zj1,dx,_,_,rfl,s3 _ _ a1,T.zj2,T.zlf,Vz,A'.pr,dxr,_,rfl,s3 _ _ hpr,Xf.no ⋯,A'.pr,A'.dr,S.ppl,rfl,b.same s3,fun ln4 hln4=>?_⟩;have s4:=Zf (o:=.lst (S.ppl.map fun x=>V.int x.1)) hln4;have q4:upd H3 ln4 (.lst (S.ppl.map fun x=>V.int x.1)) ln4=some (.lst (S.ppl.map fun x=>V.int x.1)):=Zb;generalize upd H3 ln4 (.lst (S.ppl.map fun x=>V.int x.1))=H4 at s4 q4;refine⟨ln4,rfl,⟨_,SqL.of q4⟩,Vc (K:=K) (xs:=S.ppl.map fun x=>V.int x.1) (fun i ys H'=>Same H4 H'/\ys=((S.ppl.take i).filter (pIn S.out (atV S))).map fun x=>V.int x.1) ⟨Same.refl _,rfl⟩ (fun i ys H' _ ⟨z,_⟩=>SqL.of (z _ _ q4)) (szN ⋯) (fun i ys H' ⟨_,e⟩=>by rw[e,zsk];exact zs2 (ztt _ _) (zua _ _)) ?_ ?_⟩
 ·rintro i x zs H' hx ⟨s4',rfl⟩;have hi:i<S.ppl.length:=by have:=(zsm.mp hx).1;omega
  have hpi:S.ppl[i]?=some (S.ppl[i]'hi):=zsl hi;have etk:S.ppl.take (i+1)=S.ppl.take i++[S.ppl[i]'hi]:=ztg hi;have ex:x=.int (S.ppl[i]'hi).1:=by rw[zsr,hpi] at hx;exact(Option.some.inj hx).symm
  generalize (S.ppl[i]'hi)=pp at hpi etk ex;subst ex;refine⟨_,rfl,_,rfl,sz2,fun t ht=>?_⟩;have s5:=Zf (o:=.tup [.int (atV S),.int pp.1]) ht;have q5:upd H' t (.tup [.int (atV S),.int pp.1]) t=some (.tup (([inl (atV S),inl pp.1]:List Key).map kV)):=Zb;generalize upd H' t (.tup [.int (atV S),.int pp.1])=H5 at s5 q5;have sh5:=s3.trans (s4.trans (s4'.trans s5));refine⟨_,rfl,A'.p,a.zj1,dx,_,_,rfl,sh5 _ _ a1,T.zj2,T.zl4,Q0,A'.da,_,rfl,DGet.t (k:=[inl (atV S),inl pp.1]) (sh5 _ _ d1) q5,_,rfl,?_⟩;rw[d2.isSome];have e2:∀ ws,((S.ppl.take (i+1)).filter (pIn S.out (atV S))).map (fun x=>V.int x.1)=((S.ppl.take i).filter (pIn S.out (atV S))).map (fun x=>V.int x.1)++ws↔ws=if pIn S.out (atV S) pp then [V.int pp.1] else []:=fun ws=>by
   rw[etk,zuq,zsq,List.append_cancel_left_eq];cases q:pIn S.out (atV S) pp<;>simp[q,eq_comm]
  refine itB (fun hb=>?_) (fun hb=>?_)
  ·exact⟨_,rfl,s4'.trans s5,((e2 [V.int pp.1]).mpr (by rw[show pIn S.out (atV S) pp=true from hb];rfl)).symm⟩
  ·refine⟨s4'.trans s5,?_⟩;have:=(e2 []).mpr (by rw[show pIn S.out (atV S) pp=false from hb];rfl);rw[zup] at this;exact this.symm
 rintro zs H5 ⟨s45,rfl⟩ lo hlo;rw[hnl,zs7];have s6:=s45.trans (Zf (o:=.lst (outV S)) hlo);have q6:upd H5 lo (.lst (outV S)) lo=some (.lst (outV S)):=Zb;show Vb 4 (V.ref lo) _ (upd H5 lo (.lst (outV S))) _;generalize upd H5 lo (.lst (outV S))=H6 at s6 q6;have s36:=s4.trans s6;have s06:=s3.trans s36;have hl6:=s06 _ _ hl;have hts:ts.length=ms.length:=by rw[tl.length,zsk]
 refine⟨_,rfl,l,rfl,⟨_,SqL.of hl6⟩,Vc (K:=K) (xs:=ts) (fun i ys H'=>Same H6 H'/\∃ ls,ys=ls.map V.ref/\ILs H' ls ((mayS S ms).take i)/\ls.length=i/\∀ x∈ls,H x=none) ⟨Same.refl _,[],rfl,.nil,rfl,by simp⟩ (fun i ys H' _ ⟨z,_⟩=>SqL.of (z _ _ hl6)) (szN ⋯) (fun i ys H' ⟨_,ls,e1,_,e2,_⟩=>by rw[e1,zsk];omega) ?_ ?_⟩
 ·rintro i x ys' H' hx ⟨s6',ls,rfl,il,hll,hfr⟩;obtain⟨tm,m,rfl,hm,htm⟩:=K1 tl hx;have s0:=s06.trans s6';unfold tYes;dsimp only;rw[if_pos rfl];refine⟨_,rfl,_,rfl,_,rfl,_,rfl,A'.p,a.zj1,dx,_,_,rfl,s0 _ _ a1,T.zj2,T.zlg,V0,_,rfl,A'.p,a.zj1,dx,_,_,rfl,s0 _ _ a1,T.zj2,T.zo5,zff,lp,lo,tm,A'.pl,A'.lr,A'.ld,S.led,ys,S.ppl,outV S,m.1,m.2.1,m.2.2,S.rest,rfl,(s36.trans s6') _ _ q3,tl3.same (s36.trans s6'),s6' _ _ q6,zdy S,s0 _ _ htm,c.same s0,by omega,fun l2 H2 hl2 s2 f2=>?_⟩;rw[zhm] at hl2;refine⟨s6'.trans s2,ls++[l2],by rw[zsq];rfl,?_,by rw[zsn,hll];rfl,fun y hy=>?_⟩
  ·have e:(mayS S ms).take (i+1)=(mayS S ms).take i++[Iv S m]:=by
    unfold mayS;rw[ztv,zsr,hm];rfl
   rw[e];exact(il.same s2).snoc hl2
  ·rcases zsv.mp hy with z|z
   ·exact hfr y z
   ·rw[zsp.mp z];exact s0.free f2
 ·rintro ys' H' ⟨s6',ls,rfl,il,hll,hfr⟩ l' hl';have hmy:(mayS S ms).length=ms.length:=by unfold mayS;rw[zsk]
  rw[hts,<- hmy,zs7] at il;have s0:=s06.trans s6';exact h l' ls _ Zb (il.same (Zf hl')) (s0.trans (Zf hl')) (s0.free hl') hfr
abbrev U6:Stmt:=Z3 (top 55) 9
theorem L7:Zl ["self","number","grade","club"] ["self","number","grade","club"] (Zj U6):=fnS
theorem L8(F:Fun K "enrol" "Season.enrol" U6 f fd)(T:Tx K mg a)(zkf:Zu P w K mg base a.zj1 "check_undrawn" 4 ["self"] (N7 (ca a)))(zku:Zu P w K mg base a.zj5 "check_new" 2 ["self","number","grade","club"] (P5 (ca a)))(zkb:Zu P w K mg base a.zj1 "check_room" 1 ["self"] (F4 (ca a)))(zkz:Zu P w K mg base a.zj1 "note" 1 ["self","word","number","at"] (F5 (ca a)))(zj3:Zu P w K mg base a.zj1 "at_hand" 2 ["self"] (Vg (ca a)))(zny:Zu P w K mg base a.zj5 "add" 3 ["self","number","grade","club"] (zdx (ca a))):FnOk P w K mg base (CX1 P w) 5 f fd ["self","number","grade","club"] (zaj (ca a)):=by
 refine F.okX L7 ⋯ fun _ _ _ _ H _ Q E hr h=>?_;obtain⟨A',S,n,g,c0,rfl,SA,sm,hz,hz2,h⟩:=h;refine⟨_,(Zc (Z2 (Yi (pv 0) T.zj2 zkf (hr.mono ⋯) Zk))
 (Zc (Z2 (Xd (Zn (K:=K) rfl (pv 0) rfl) T.zkr zku (hr.mono ⋯) Zk (Za (pv 1) (Za (pv 2) (Za (pv 3) Zd)))))
 (Zc (Z2 (Yi (pv 0) T.zj2 zkb (hr.mono ⋯) Zk))
 (Zc (Z2 (Xd (pv 0) T.zj2 zkz (hr.mono ⋯) Zk (Za Zr (Za (pv 1) (Za (Yi (pv 0) T.zj2 zj3 (hr.mono ⋯) Zk) Zd)))))
 (Ze (Z2 (Xd (Zn (K:=K) rfl (pv 0) rfl) T.zkr zny (hr.mono ⋯) Zk (Za (pv 1) (Za (pv 2) (Za (pv 3) Zd)))))))))),?_⟩
 obtain⟨⟨dx,v,a1,a2⟩,b,c,_⟩:=id SA;obtain⟨⟨dxr,kvr,hpr,hdr,en⟩,ndr⟩:=id b;refine⟨_,rfl,A'.p,dx,_,rfl,a1,Ye ⋯,A',S,rfl,SA,?_⟩;refine it2 h (fun _ z=>z) fun h1 h=>it2 h (fun _ z=>z) fun h2 h=>?_;refine⟨_,rfl,A'.p,a.zj1,dx,_,_,rfl,a1,T.zj2,T.zlf,Vz,A'.pr,dxr,_,rfl,hpr,Xf.no ⋯,_,rfl,_,rfl,_,rfl,A'.pr,A'.dr,S.ppl,n,g,c0,rfl,b,sm,?_⟩;refine it2 h (fun _ z=>z) fun h3 h=>it2 h (fun _ z=>z) fun h4 h=>it2 h (fun _ z=>z) fun h5 h=>?_;refine⟨_,rfl,A'.p,dx,_,rfl,a1,Ye ⋯,A',S,rfl,SA,?_⟩;refine it2 h (fun _ z=>z) fun h6 h=>?_;refine⟨_,rfl,A'.p,dx,_,rfl,a1,Ye ⋯,_,rfl,_,rfl,A'.p,dx,_,rfl,a1,Ye ⋯,A',S,rfl,SA,A',S,"enrol",n,atV S,rfl,SA,hz,fun H1 SA1 f1=>?_⟩;obtain⟨⟨dx1,v1,a11,a12⟩,b1,c1,_⟩:=id SA1;obtain⟨⟨dxr1,kvr1,hpr1,hdr1,en1⟩,ndr1⟩:=id b1;refine⟨_,rfl,A'.p,a.zj1,dx1,_,_,rfl,a11,T.zj2,T.zlf,Vz,A'.pr,dxr1,_,rfl,hpr1,Xf.no ⋯,_,rfl,_,rfl,_,rfl,A'.pr,A'.dr,S.ppl,n,g,c0,rfl,b1,sm,hz2,?_⟩;rw[if_neg h3,if_neg h4,if_neg h5];intro H2 R2 k2;obtain⟨SA2,f2⟩:=SA1.setRos R2 k2;exact h H2 SA2 (f1.trans f2)
abbrev V3:Stmt:=Z3 (top 55) 10
theorem Tq:Zl ["self","matches","listed"] ["self","matches"] (Zj V3):=fnS
theorem Nk(F:Fun K "draw_up" "Season.draw_up" V3 f fd)(T:Tx K mg a)(zkf:Zu P w K mg base a.zj1 "check_undrawn" 4 ["self"] (N7 (ca a)))(zoy:Z4 P w K mg base "checked" 3 ["matches"] (K8 K (ca a)))(zkb:Zu P w K mg base a.zj1 "check_room" 1 ["self"] (F4 (ca a)))(zkz:Zu P w K mg base a.zj1 "note" 1 ["self","word","number","at"] (F5 (ca a)))(zj3:Zu P w K mg base a.zj1 "at_hand" 2 ["self"] (Vg (ca a)))(znr:Z4 P w K mg base "drawn_sheet" 4 ["listed","lists"] (zah (ca a)))(zkv:Zu P w K mg base a.zj1 "takers_of" 5 ["self","listed"] (P8 (ca a)))(zlt:Zu P w K mg base a.zj6 "goes" 1 ["self"] (K4 (ca a))):FnOk P w K mg base (CX1 P w) 6 f fd ["self","matches"] (D6 K (ca a)):=by
 refine F.okX Tq ⋯ fun _ _ _ _ H _ Q E hr h=>?_;obtain⟨A',S,b,ts,ms,rfl,SA,hs,tl,sm,hml,hz,po,h⟩:=h;refine⟨_,(Zc (Z2 (Yi (pv 0) T.zj2 zkf (hr.mono ⋯) Zk))
 (Zc (pS 2 Tq.nd (pF zoy hr (Za (pv 1) Zd)))
 (Zc (Z2 (Yi (pv 0) T.zj2 zkb (hr.mono ⋯) Zk))
 (Zc (Z2 (Xd (pv 0) T.zj2 zkz (hr.mono ⋯) Zk (Za Zr (Za (Zt (cL K) (by rfl) T.zkj PySem.boot_len (Za (pv 2) Zd)) (Za (Yi (pv 0) T.zj2 zj3 (hr.mono ⋯) Zk) Zd)))))
 (Zc (Y1 (K:=K) rfl (pv 0) (pF znr hr (Za (pv 2) (Za (Xd (pv 0) T.zj2 zkv (hr.mono ⋯) Zk (Za (pv 2) Zd)) Zd))) rfl)
 (Ze (Zm (Yi (Zn (K:=K) rfl (pv 0) rfl) T.zkk zlt (hr.mono ⋯) Zk)))))))),?_⟩
 obtain⟨⟨dx,v,a1,a2⟩,br,cl,_⟩:=id SA;have hts:ts.length=ms.length:=by rw[tl.length,zsk]
 refine⟨_,rfl,A'.p,dx,_,rfl,a1,Ye ⋯,A',S,rfl,SA,?_⟩;refine it2 h (fun _ z=>z) fun h1 h=>it2 h (fun _ z=>z) fun h2 h=>?_;refine⟨_,rfl,b,ts,ms,rfl,hs,tl,sm,hml,h.1,h.2.1,h.2.2.1,fun g1 g2 g3 l1 hl1=>?_⟩;have h4:=h.2.2.2 g1 g2 g3;have s1:=Zf (o:=.lst ts) hl1;have q1:upd H l1 (.lst ts) l1=some (.lst ts):=Zb;generalize upd H l1 (.lst ts)=H1 at s1 q1;have SA1:=SA.same s1;have a11:=s1 _ _ a1;refine⟨_,rfl,A'.p,dx,_,rfl,a11,Ye ⋯,A',S,rfl,SA1,?_⟩;refine E6 (fun z=>h4.1 z H1 s1) (fun hroom=>?_);refine⟨_,rfl,A'.p,dx,_,rfl,a11,Ye ⋯,_,rfl,l1,_,rfl,.inl (SqL.of q1),_,rfl,A'.p,dx,_,rfl,a11,Ye ⋯,A',S,rfl,SA1,A',S,"draw up",(ts.length:Nat),atV S,rfl,SA1,hz,fun H2 SA2 f2=>?_⟩;rw[hts] at SA2;have ok1:l1∉A'.fp:=SA.newOk l1 hl1;have q12:=f2 _ _ q1 ok1;have tl2:=(tl.same s1).mono (SA1.tups f2);obtain⟨⟨dx2,v2,a21,a22⟩,br2,_⟩:=id SA2;refine⟨_,rfl,_,rfl,A'.p,dx2,_,rfl,a21,Ye ⋯,_,rfl,A',_,l1,ts,ms,rfl,SA2,q12,tl2,by omega,zs2 po.2 ⋯,po.small,fun l2 ls H3 h3 il3 s3 f3 fl3=>?_⟩;have SA3:=SA2.same s3;have mo:M0 (mayS S ms) (S.ppl.map (·.1)):=po.may br2.nd g1;refine⟨(·∉A'.fp),l1,l2,ts,ls,ms,mayS S ms,_,rfl,s3 _ _ q12,tl2.same s3,h3,il3,ok1,SA2.newOk l2 f3,fun x hx=>SA2.newOk x (fl3 x hx),SA3.newOk,mo,fun q gv H4 ShA FP SP s4 fq=>?_⟩;have SA4:=SA3.same s4;obtain⟨⟨dx4,v4,a41,a42⟩,_⟩:=id SA4;refine⟨_,rfl,A'.p,a.zj1,dx4,_,rfl,a41,T.zj2,T.zkx,(by show 8<1000;decide),?_⟩;obtain⟨SA5,f5,Sh5⟩:=SA4.newSheet a41 ShA;generalize upd H4 A'.p (.ins a.zj1 dx4 (putF "sheet" (.ref q) (seaF A' S.len S.rest v4)))=H5 at SA5 f5 Sh5;obtain⟨⟨dx5,v5,a51,a52⟩,_⟩:=id SA5;obtain⟨q',rfl,Sq⟩:=a52;obtain⟨dxq,m1,m2,m3,m4,hq'⟩:=ShAt.ins Sq;refine⟨_,rfl,A'.p,a.zj1,dx5,_,_,rfl,a51,T.zj2,T.zkx,Wh,q',dxq,_,rfl,hq',Sy ⋯ ⋯ ⋯ ⋯,(·∉A'.fp),q',_,rfl,Sq,fun l H6 hl s6 fl=>?_⟩;have fr5:FrS A' H H5:=(FrS.of A' s1).trans (f2.trans ((FrS.of A' (s3.trans s4)).trans f5));exact h4.2 ⋯ l gv H6 hl (SA5.same s6) FP SP (fr5.trans (FrS.of A' s6)) (fr5.free SA5 fl)
abbrev T6:Stmt:=Z3 (top 55) 11
theorem J5:Zl ["self","at","number"] ["self","at","number"] (Zj T6):=fnS
theorem J6(F:Fun K "away" "Season.away" T6 f fd)(T:Tx K mg a)(zkn:Zu P w K mg base a.zj1 "check_round" 1 ["self","at"] (F3 (ca a)))(zj9:Zu P w K mg base a.zj4 "over" 1 ["self"] (N1 a.zj4))(zkl:Zu P w K mg base a.zj5 "check_known" 1 ["self","number"] (Sx (ca a)))(zkb:Zu P w K mg base a.zj1 "check_room" 1 ["self"] (F4 (ca a)))(zkz:Zu P w K mg base a.zj1 "note" 1 ["self","word","number","at"] (F5 (ca a)))(zj3:Zu P w K mg base a.zj1 "at_hand" 2 ["self"] (Vg (ca a)))(zmh:Zu P w K mg base a.zj1 "step_in" 6 ["self","number"] (D7 (ca a))):FnOk P w K mg base (CX1 P w) 7 f fd ["self","at","number"] (Bv (ca a)):=by
 refine F.okX J5 ⋯ fun _ _ _ _ H _ Q E hr h=>?_;obtain⟨A',S,i,n,rfl,SA,si,sn,hz,hoz,po,hcur,h⟩:=h;have hu:=Wa hr;refine⟨_,(Zc (Z2 (Xd (pv 0) T.zj2 zkn (hr.mono ⋯) Zk (Za (pv 1) Zd)))
 (Zc (Z6 (Zo zcj (pv 1) (Yi (Zn (K:=K) rfl (pv 0) rfl) T.zks zj9 (hr.mono ⋯) Zk) (Zw _))
  (Ze (Xa Y9 rfl T.zqc rfl (Za (Wz (Zx (Xk ⋯) (Zx (Wr (pv 1)) (Zx (Xk ⋯) Wy))) ⋯) Zd)))
  Zs)
 (Zc (Z2 (Xd (Zn (K:=K) rfl (pv 0) rfl) T.zkr zkl (hr.mono ⋯) Zk (Za (pv 2) Zd)))
 (Zc (Z6 (Uq (Pt hu (Yc (Za (pv 1) (Za (pv 2) Zd))) (Zn (K:=K) rfl (pv 0) rfl)))
  (Ze (Xa Y9 rfl T.zp6 rfl (Za (Wz (Zx (Xk ⋯) (Zx (Wr (pv 2)) (Zx (Xk ⋯) (Zx (Wr (pv 1)) (Zx (Xk ⋯) Wy))))) ⋯) Zd)))
  Zs)
 (Zc (Z2 (Yi (pv 0) T.zj2 zkb (hr.mono ⋯) Zk))
 (Zc (Z2 (Xd (pv 0) T.zj2 zkz (hr.mono ⋯) Zk (Za Zr (Za (pv 2) (Za (pv 1) Zd)))))
 (Zc (Yq hu (Zn (K:=K) rfl (pv 0) rfl) (Yc (Za (pv 1) (Za (pv 2) Zd))) We rfl)
 (Zc (Z6 (PW.pt (Td (Zo Rw (pv 1) (Yi (pv 0) T.zj2 zj3 (hr.mono ⋯) Zk) (Zw _)) (Vx (Zo Nv (Zn (K:=K) rfl (pv 0) rfl) Y6 (Zw _)))))
  (Ze (Zm (Z8 Zd)))
  Zs)
 (Ze (Zm (Xd (pv 0) T.zj2 zmh (hr.mono ⋯) Zk (Za (pv 2) Zd)))))))))))),?_⟩
 show let y1:TS:=_;let y2:TS:=Z0 _ y1;let y3:TS:=Z0 _ y2;let y4:TS:=Z0 _ y3;let y5:TS:=Z0 _ y4;let y6:TS:=Z0 _ y5;let y7:TS:=Z0 _ y6;let y8:TS:=Z0 _ y7;Z0 _ y8 _ _ _;intro y1 y2 y3 y4 y5 y6 y7 y8;obtain⟨⟨dx,v,a1,a2⟩,br,cl,⟨kvs,d1,d2⟩,_⟩:=id SA;obtain⟨⟨dxl,hpl⟩,_⟩:=id cl;obtain⟨⟨dxr,kvr,hpr,hdr,en⟩,ndr⟩:=id br;refine⟨_,rfl,A'.p,dx,_,rfl,a1,Ye ⋯,_,rfl,A',S,i,rfl,SA,si,?_⟩;refine it2 h (fun _ z=>z) fun h1 h=>?_;refine⟨_,rfl,_,rfl,A'.p,a.zj1,dx,_,_,rfl,a1,T.zj2,T.zlg,V0,A'.pl,dxl,_,rfl,hpl,Mz ⋯ ⋯,A'.pl,A'.lr,A'.ld,S.led,rfl,cl,_,_,rfl,rfl,_,rfl,?_⟩;refine itD (fun hc=>?_) (fun hc=>?_)
 ·rw[if_pos hc] at h;exact⟨_,rfl,.inl ⟨_,rfl,si⟩,fun z=>⟨sz1,h⟩⟩
 rw[if_neg hc] at h;refine Z1 ?_;refine⟨_,rfl,A'.p,a.zj1,dx,_,_,rfl,a1,T.zj2,T.zlf,Vz,A'.pr,dxr,_,rfl,hpr,Xf.no ⋯,_,rfl,A'.pr,A'.dr,S.ppl,n,rfl,br,sn,?_⟩;refine it2 h (fun hk h=>?_) (fun _ z=>z);refine⟨_,rfl,_,rfl,sz2,fun t ht=>?_⟩;have s1:=Zf (o:=.tup [.int i,.int n]) ht;have q1:upd H t (.tup [.int i,.int n]) t=some (.tup (([inl i,inl n]:List Key).map kV)):=Zb;generalize upd H t (.tup [.int i,.int n])=H1 at s1 q1;have SA1:=SA.same s1;have a11:=s1 _ _ a1;refine⟨_,rfl,A'.p,a.zj1,dx,_,_,rfl,a11,T.zj2,T.zl4,Q0,A'.da,_,rfl,DGet.t (k:=[inl i,inl n]) (s1 _ _ d1) q1,_,rfl,?_⟩;rw[d2.isSome];refine itD (fun hm=>?_) (fun hm=>?_)
 ·rw[if_pos hm] at h;exact⟨_,rfl,.inl ⟨_,rfl,sn⟩,_,rfl,.inl ⟨_,rfl,si⟩,fun z=>⟨sz1,h H1 s1⟩⟩
 rw[if_neg hm] at h;refine Z1 ?_;refine⟨_,rfl,A'.p,dx,_,rfl,a11,Ye ⋯,A',S,rfl,SA1,?_⟩;refine it2 h (fun _ z=>z H1 s1) fun h6 h=>?_;refine⟨_,rfl,A'.p,dx,_,rfl,a11,Ye ⋯,_,rfl,_,rfl,A',S,"away",n,i,rfl,SA1,hz,fun H2 SA2 f2=>?_⟩;obtain⟨⟨dx2,v2,a21,a22⟩,br2,cl2,⟨kvs2,d21,d22⟩,_⟩:=id SA2;refine⟨_,rfl,A'.p,a.zj1,dx2,_,_,rfl,a21,T.zj2,T.zl4,Q0,_,rfl,_,rfl,sz2,fun t2 ht2=>?_⟩;have s3:=Zf (o:=.tup [.int i,.int n]) ht2;have q3:upd H2 t2 (.tup [.int i,.int n]) t2=some (.tup (([inl i,inl n]:List Key).map kV)):=Zb;generalize upd H2 t2 (.tup [.int i,.int n])=H3 at s3 q3;have SA3:=SA2.same s3;refine⟨A'.da,_,rfl,DPut.t (k:=[inl i,inl n]) (s3 _ _ d21) q3 (by have:=d22.2;have h9:kvs2.length<=S.out.length:=this;have:=Uu;omega),?_⟩;obtain⟨SA4,f4⟩:=SA3.setOut (out:=S.out++[(i,n)]) Zb (d22.put i n) (fun b o e hb=>by rw[Zh hb];exact e);generalize upd H3 A'.da (.dT (putK kvs2 [inl i,inl n] (.bl true)))=H4 at SA4 f4;have SA4:Zv (ca a) H4 A' (Xn S i n):=SA4;have fr4:FrS A' H H4:=(FrS.of A' s1).trans (f2.trans ((FrS.of A' s3).trans f4));obtain⟨⟨dx4,v4,a41,a42⟩,br4,_⟩:=id SA4;have empty:(S.cur=none\/atV S<i)->∀ l,H4 l=none->Q (.ref l) (upd H4 l (.lst [])):=fun hz l hl=>h.1 hz l _ Zb (SA4.same (Zf hl)) (fr4.trans (FrS.of A' (Zf hl))) (fr4.free SA4 hl);refine⟨_,rfl,_,rfl,A'.p,dx4,_,rfl,a41,Ye ⋯,A',_,rfl,SA4,_,_,rfl,rfl,_,rfl,?_⟩;refine itD (fun hgt=>?_) (fun hle=>?_)
 ·refine iteT ?_;exact⟨by show 0<=sizeLine;decide,fun l hl=>empty (.inr hgt) l hl⟩
 have hat:i=atV S:=by
  have hle:¬ (atV S<i):=hle;unfold atV at hle ⊢;omega
 refine⟨_,rfl,A'.p,a.zj1,dx4,_,_,rfl,a41,T.zj2,T.zkx,Wh,rfl,_,rfl,?_⟩;cases hc4:S.cur with
 | none =>
   have e4:v4=.non:=by
    have:ShO a.zj6 (·∉A'.fp) H4 v4 S.cur:=a42;rw[hc4] at this;exact this
   rw[e4];refine iteT ?_;exact⟨by show 0<=sizeLine;decide,fun l hl=>empty (.inl hc4) l hl⟩
 | some s =>
   have e4:∃ q,v4=.ref q:=by
    have:ShO a.zj6 (·∉A'.fp) H4 v4 S.cur:=a42;rw[hc4] at this;obtain⟨q,e,_⟩:=this;exact⟨q,e⟩
   obtain⟨q4,rfl⟩:=e4;refine iteF (Z1 ?_);obtain⟨hm20,FP,emay,hgz⟩:=hcur s hc4;have po4:Tn (Xn S i n):=po;have hgl:s.gv.length<=100:=by rw[FP.len,emay];unfold mayS;rw[zsk];omega
   refine⟨_,rfl,A'.p,dx4,_,rfl,a41,Ye ⋯,_,rfl,A',Xn S i n,n,s,(Xn S i n).ppl.map (·.1),rfl,SA4,hc4,po4,hm20,FP.one,hgl,hgz,po4.may br4.nd hm20,fun hp l H5 hl SA5 f5 fl=>?_,fun p hp=>?_⟩
   ·exact h.2.1 s hat hc4 hp l H5 hl SA5 (fr4.trans f5) (fr4.free SA4 fl)
   ·have hgp:=Oa hp;refine⟨hgp,fun j hj=>FP.inj j p n hj hgp,?_,fun l us st e w' H5 hl tl CR SA5 f5 fl=>?_⟩
    ·rw[hat,Uv,<- emay];exact Ul FP hgp
    ·exact h.2.2 s p hat hc4 hp l us st e w' H5 hl tl CR SA5 (fr4.trans f5) (fr4.free SA4 fl)
abbrev V4:Stmt:=Z3 (top 55) 12
theorem Vo:Zl ["self","number","lists","fallen"] ["self","number"] (Zj V4):=fnS
theorem Nl(F:Fun K "step_in" "Season.step_in" V4 f fd)(T:Tx K mg a)(zkv:Zu P w K mg base a.zj1 "takers_of" 5 ["self","listed"] (P8 (ca a)))(zms:Zu P w K mg base a.zj6 "matches" 1 ["self"] (M6 (ca a)))(zlh:Zu P w K mg base a.zj6 "where" 2 ["self","number"] (N5 (ca a)))(zm8:Zu P w K mg base a.zj6 "barred" 3 ["self","lists"] (Dy (ca a)))(zl1:Zu P w K mg base a.zj6 "fallen_out" 3 ["self","number","lists"] (Dz (ca a)))(zng:Zu P w K mg base a.zj6 "chains" 1 ["self"] (K6 (ca a))):FnOk P w K mg base (CX1 P w) 6 f fd ["self","number"] (D7 (ca a)):=by
 refine F.okX Vo ⋯ fun _ _ _ _ H _ Q E hr h=>?_;obtain⟨A',S,n,s,nu,rfl,SA,hc,po,hml,ho,hgl,hgz,mo,h1,h2⟩:=h;refine⟨_,(Zc (pS 2 Vo.nd (Xd (pv 0) T.zj2 zkv (hr.mono ⋯) Zk (Za (Yi (Zn (K:=K) rfl (pv 0) rfl) T.zkk zms (hr.mono ⋯) Zk) Zd)))
 (Zc (Z6 (Zo Nv (Xd (Zn (K:=K) rfl (pv 0) rfl) T.zkk zlh (hr.mono ⋯) Zk (Za (pv 1) Zd)) Y6 (Zw _))
  (Zc (Y1 (K:=K) rfl (pv 0) (Xd (Zn (K:=K) rfl (pv 0) rfl) T.zkk zm8 (hr.mono ⋯) Zk (Za (pv 2) Zd)) rfl)
  (Ze (Zm (Z8 Zd))))
  Zs)
 (Zc (Y1 (K:=K) rfl (pv 0) (Xd (Zn (K:=K) rfl (pv 0) rfl) T.zkk zl1 (hr.mono ⋯) Zk (Za (pv 1) (Za (pv 2) Zd))) rfl)
 (Zc (pS 3 Vo.nd (Yi (Zn (K:=K) rfl (pv 0) rfl) T.zkk zng (hr.mono ⋯) Zk))
 (Ze (Zm (pI (iU K) (pI (iL K) (pv 3) (Kq Pp Zi)) Zi))))))),?_⟩
 obtain⟨⟨dx,v,a1,a2⟩,br,cl,_⟩:=id SA;rw[hc] at a2;obtain⟨q,rfl,Sq⟩:=a2;obtain⟨dxq,m1,m2,m3,m4,hq⟩:=ShAt.ins Sq;refine⟨_,rfl,A'.p,dx,_,rfl,a1,Ye ⋯,_,rfl,A'.p,a.zj1,dx,_,_,rfl,a1,T.zj2,T.zkx,Wh,q,dxq,_,rfl,hq,Sy ⋯ ⋯ ⋯ ⋯,(·∉A'.fp),q,s,rfl,Sq,fun l1 ts H1 hl1 tl s1 f1=>?_⟩;have SA1:=SA.same s1;refine⟨A',S,l1,ts,s.ms,rfl,SA1,hl1,tl,by omega,zs2 po.2 ⋯,po.small,fun l2 ls H2 h3 il3 s2 f3 fl3=>?_⟩;have s12:=s1.trans s2;have SA2:=SA1.same s2;have Sq2:=Sq.same s12;refine⟨_,rfl,A'.p,a.zj1,dx,_,_,rfl,s12 _ _ a1,T.zj2,T.zkx,Wh,q,dxq,_,rfl,s12 _ _ hq,Sy ⋯ ⋯ ⋯ ⋯,_,rfl,(·∉A'.fp),q,s,n,rfl,Sq2,ho,hgl,fun H3 s3=>?_⟩;have s13:=s12.trans s3;have SA3:=SA2.same s3;have Sq3:=Sq2.same s3;have il4:=il3.same s3;refine⟨rfl,_,rfl,?_⟩;cases hp:Wf s.gv n with
 | none =>
   refine iteT ?_;refine⟨_,rfl,A'.p,a.zj1,dx,_,_,rfl,s13 _ _ a1,T.zj2,T.zkx,Wh,q,dxq,_,rfl,s13 _ _ hq,Sy ⋯ ⋯ ⋯ ⋯,_,rfl,(·∉A'.fp),q,l2,ls,mayS S s.ms,s,rfl,Sq3,s3 _ _ h3,il4,SA1.newOk l2 f3,fun x hx=>SA1.newOk x (fl3 x hx),SA3.newOk,fun q' H4 ShA s4 fq=>?_⟩;have SA4:=SA3.same s4;obtain⟨⟨dx4,v4,a41,a42⟩,_⟩:=id SA4;refine⟨_,rfl,A'.p,a.zj1,dx4,_,rfl,a41,T.zj2,T.zkx,(by show 8<1000;decide),?_⟩;obtain⟨SA5,f5,Sh5⟩:=SA4.newSheet a41 ShA;generalize upd H4 A'.p (.ins a.zj1 dx4 (putF "sheet" (.ref q') (seaF A' S.len S.rest v4)))=H5 at SA5 f5 Sh5;have fr5:FrS A' H H5:=(FrS.of A' (s13.trans s4)).trans f5;refine⟨by show 0<=sizeLine;decide,fun l hl=>?_⟩;exact h1 hp l _ Zb (SA5.same (Zf hl)) (fr5.trans (FrS.of A' (Zf hl))) (fr5.free SA5 hl)
 | some p =>
   refine iteF (Z1 ?_);obtain⟨hgp,hun,FP,h3'⟩:=h2 p hp;refine⟨_,rfl,A'.p,a.zj1,dx,_,_,rfl,s13 _ _ a1,T.zj2,T.zkx,Wh,q,dxq,_,rfl,s13 _ _ hq,Sy ⋯ ⋯ ⋯ ⋯,_,rfl,_,rfl,(·∉A'.fp),q,l2,ls,mayS S s.ms,nu,s,n,p,rfl,Sq3,s3 _ _ h3,il4,SA1.newOk l2 f3,fun x hx=>SA1.newOk x (fl3 x hx),SA3.newOk,mo,ho,hgp,hun,FP,by omega,fun q' st e w' H4 ShA CR s4 fq=>?_⟩;have SA4:=SA3.same s4;obtain⟨⟨dx4,v4,a41,a42⟩,_⟩:=id SA4;refine⟨_,rfl,A'.p,a.zj1,dx4,_,rfl,a41,T.zj2,T.zkx,(by show 8<1000;decide),?_⟩;obtain⟨SA5,f5,Sh5⟩:=SA4.newSheet a41 ShA;generalize upd H4 A'.p (.ins a.zj1 dx4 (putF "sheet" (.ref q') (seaF A' S.len S.rest v4)))=H5 at SA5 f5 Sh5;have fr5:FrS A' H H5:=(FrS.of A' (s13.trans s4)).trans f5;obtain⟨⟨dx5,v5,a51,a52⟩,_⟩:=id SA5;obtain⟨q5,rfl,Sq5⟩:=a52;obtain⟨dxq5,m51,m52,m53,m54,hq5⟩:=ShAt.ins Sq5;refine⟨_,rfl,A'.p,a.zj1,dx5,_,_,rfl,a51,T.zj2,T.zkx,Wh,q5,dxq5,_,rfl,hq5,Sy ⋯ ⋯ ⋯ ⋯,(·∉A'.fp),q5,_,rfl,Sq5,by show (s.gaps++[(n,st)]).length<=1000;rw[zsn];show s.gaps.length+1<=1000;omega,fun l us H6 hl gl s6 fl=>?_⟩;obtain⟨vs',t,l',us',rfl,ht,hl',tl',ok',_⟩:=Wc.unsnoc gl;refine⟨_,rfl,_,rfl,l,_,_,_,rfl,rfl,SqL.of hl,atI_last,t,_,_,_,rfl,rfl,SqT.of ht,rfl,?_⟩;exact h3' l' us' st e w' H6 hl' tl' CR (SA5.same s6) (fr5.trans (FrS.of A' s6)) (fr5.free SA5 ok')
abbrev U7:Stmt:=Z3 (top 55) 13
theorem Rm:Zl ["self","sheet"] ["self"] (Zj U7):=fnS
theorem L9(F:Fun K "close" "Season.close" U7 f fd)(T:Tx K mg a)(zkd:Zu P w K mg base a.zj1 "check_not_over" 3 ["self"] (N6 (ca a)))(zkg:Zu P w K mg base a.zj1 "sheet_at_hand" 1 ["self"] (P7 (ca a)))(zni:Zu P w K mg base a.zj4 "write" 1 ["self","rows"] (Dx a.zj4))(zn2:Zu P w K mg base a.zj6 "rows" 1 ["self"] (D1 (ca a)))(zj9:Zu P w K mg base a.zj4 "over" 1 ["self"] (N1 a.zj4)):FnOk P w K mg base (CX1 P w) 4 f fd ["self"] (F6 (ca a)):=by
 refine F.okX Rm ⋯ fun _ _ _ _ H _ Q E hr h=>?_;obtain⟨A',S,rfl,SA,ht,hl,hol,hcur,h⟩:=h;refine⟨_,(Zc (Z2 (Yi (pv 0) T.zj2 zkd (hr.mono ⋯) Zk))
 (Zc (pS 1 Rm.nd (Yi (pv 0) T.zj2 zkg (hr.mono ⋯) Zk))
 (Zc (Z2 (Xd (Zn (K:=K) rfl (pv 0) rfl) T.zks zni (hr.mono ⋯) Zk (Za (Yi (pv 1) T.zkk zn2 (hr.mono ⋯) Zk) Zd)))
 (Zc (Yk (Zn (K:=K) rfl (pv 0) rfl) (pv 1))
 (Zc (Y1 (K:=K) rfl (pv 0) Y6 rfl)
 (Zc (Y1 (K:=K) rfl (pv 0) (Z8 Zd) rfl)
 (Ze (Zm (Yi (Zn (K:=K) rfl (pv 0) rfl) T.zks zj9 (hr.mono ⋯) Zk))))))))),?_⟩
 obtain⟨⟨dx,v,a1,a2⟩,br,cl,_⟩:=id SA;obtain⟨⟨dxl,hpl⟩,_⟩:=id cl;refine⟨_,rfl,A'.p,dx,_,rfl,a1,Ye ⋯,A',S,rfl,SA,?_⟩;refine it2 h (fun _ z=>z) fun h1 h=>?_;refine⟨_,rfl,A'.p,dx,_,rfl,a1,Ye ⋯,A',S,rfl,SA,h.1,fun s q hc Sq=>?_⟩;obtain⟨ho,hgl,hml⟩:=hcur s hc;obtain⟨dxq,m1,m2,m3,m4,hq⟩:=ShAt.ins Sq;refine⟨_,rfl,A'.p,a.zj1,dx,_,_,rfl,a1,T.zj2,T.zlg,V0,A'.pl,dxl,_,rfl,hpl,Mz ⋯ ⋯,_,rfl,q,dxq,_,rfl,hq,Sy ⋯ ⋯ ⋯ ⋯,(·∉A'.fp),q,s,rfl,Sq,ho,hgl,hml,fun l1 ts H1 hl1 tl s1 f1=>?_⟩;have SA1:=SA.same s1;have ok1:l1∉A'.fp:=SA.newOk l1 f1;refine⟨A'.pl,A'.lr,A'.ld,S.led,l1,ts,Z5 s,rfl,SA1.led,hl1,fun z=>ok1 (by rw[z];simp[SAd.fp]),tl,by rw[D2 hgl];omega,hl,fun H2 L2' k2=>?_⟩;obtain⟨SA2,f2⟩:=SA1.setLed L2' k2;obtain⟨⟨dx2,v2,a21,a22⟩,br2,cl2,d2,⟨vs,f21,f22⟩,_⟩:=id SA2;have Sq2:=(Sq.same s1).keep (fun x o hx e=>f2 x o e hx) (SA1.tups f2);refine⟨_,rfl,A'.p,a.zj1,dx2,_,_,rfl,a21,T.zj2,T.zm1,G2,A'.ls,vs,rfl,f21,_,rfl,vs,f21,by have:=f22.length;have h9:vs.length=S.old.length:=this;have:=Uu;omega,?_⟩;have k3:∀ b o,H2 b=some o->b≠A'.ls->upd H2 A'.ls (.lst (vs++[.ref q])) b=some o:=fun b o e hb=>by rw[Zh hb];exact e
 have kt3:∀ t xs,H2 t=some (.tup xs)->upd H2 A'.ls (.lst (vs++[.ref q])) t=some (.tup xs):=fun t xs e=>k3 t _ e (Yp e f21 (fun z=>nomatch z));have ko3:∀ x o,x∉A'.fp->H2 x=some o->upd H2 A'.ls (.lst (vs++[.ref q])) x=some o:=fun x o hx e=>k3 x o e fun z=>hx (by rw[z];simp[SAd.fp]);obtain⟨SA3,f3⟩:=SA2.setOld (old:=S.old++[s]) Zb ((f22.keep ko3 kt3).snoc (Sq2.keep ko3 kt3)) k3;generalize upd H2 A'.ls (.lst (vs++[.ref q]))=H3 at SA3 f3;obtain⟨⟨dx3,v3,a31,a32⟩,_⟩:=id SA3;refine⟨_,rfl,A'.p,a.zj1,dx3,_,rfl,a31,T.zj2,T.zkx,(by show 8<1000;decide),?_⟩;obtain⟨SA4,f4⟩:=SA3.setCur (H':=upd H3 A'.p (.ins a.zj1 dx3 (putF "sheet" .non (seaF A' S.len S.rest v3)))) (cur:=none) (v:=.non) ⟨dx3,by rw[Zb];exact congrArg (fun x=>some (HO.ins a.zj1 dx3 x)) P9⟩ rfl (fun b o e hb=>by rw[Zh hb];exact e);generalize upd H3 A'.p (.ins a.zj1 dx3 (putF "sheet" .non (seaF A' S.len S.rest v3)))=H4 at SA4 f4;obtain⟨⟨dx4,v4,a41,a42⟩,_⟩:=id SA4;refine⟨by show 0<=sizeLine;decide,fun x hx=>?_⟩;have npx:A'.p≠x:=Zg a41 hx;refine⟨_,rfl,A'.p,a.zj1,dx4,_,rfl,(by rw[Zh npx];exact a41),T.zj2,T.zk8,(by show 8<1000;decide),?_⟩;obtain⟨SA5,f5⟩:=SA4.freshStd hx a41 a42 rfl;have fr4:FrS A' H H4:=(FrS.of A' s1).trans (f2.trans (f3.trans f4));have fx:H x=none:=fr4.free SA4 hx;generalize upd (upd H4 x (.lst [])) A'.p (.ins a.zj1 dx4 (putF "standing" (.ref x) (seaF A' S.len S.rest v4)))=H5 at SA5 f5;have SA5:Zv (ca a) H5 { A' with lt:=x } (Nb S s):=SA5;obtain⟨⟨dx5,v5,a51,a52⟩,br5,cl5,_⟩:=id SA5;obtain⟨⟨dxl5,hpl5⟩,_⟩:=id cl5;refine⟨_,rfl,A'.p,a.zj1,dx5,_,_,rfl,a51,T.zj2,T.zlg,V0,A'.pl,dxl5,_,rfl,hpl5,Mz ⋯ ⋯,A'.pl,A'.lr,A'.ld,S.led++[Z5 s],rfl,cl5,?_⟩;have hfin:=h.2 s x H5 hc SA5 (fr4.trans f5) fx;have e:(((S.led++[Z5 s]).length:Nat):Int)=atV S:=by rw[zsn];rfl
 rw[e];exact hfin
abbrev W9:Stmt:=Z3 (top 55) 14
theorem Wu:Zl ["self","last","deed"] ["self"] (Zj W9):=fnS
theorem Pf(F:Fun K "take_back" "Season.take_back" W9 f fd)(T:Tx K mg a)(zmr:Zu P w K mg base a.zj5 "strike" 1 ["self","number"] (Dr (ca a))):FnOk P w K mg base (CX1 P w) 2 f fd ["self"] (Ob (ca a)):=by
 refine F.okX Wu ⋯ fun _ _ _ _ H _ Q E hr h=>?_;obtain⟨A',S,rfl,SA,h1,h2⟩:=h;have hu:=Wa hr;refine⟨_,(Zc (Z6 (Vd (Gn (K:=K) rfl (Zn (K:=K) rfl (pv 0) rfl) (fun _=>rfl)))
  (Ze (Xa Y9 rfl T.zoj rfl (Za Zr Zd)))
  Zs)
 (Zc (pS 1 Wu.nd (zc0 PySem.F.plainAttrs_list PySem.F.slot_list_pop PySem.F.type_list_pop zg1 (Zn (K:=K) rfl (pv 0) rfl)))
 (Zc (pS 2 Wu.nd (pI (iU K) (pv 1) Zi))
 (Zc (Y1 (K:=K) rfl (pv 0) (pI (iU K) (pv 1) Zi) rfl)
 (Zc (Z6 (Zo Vt (pI (iU K) (pv 2) Zi) Zr (Zw _))
  (Ze (Z2 (Xd (Zn (K:=K) rfl (pv 0) rfl) T.zkr zmr (hr.mono ⋯) Zk (Za (pI (iU K) (pv 2) Zi) Zd))))
  Zs)
 (Zc (Z6 (Zo Vt (pI (iU K) (pv 2) Zi) Zr (Zw _))
  (Ze (Z2 (zdw hu (Zn (K:=K) rfl (pv 0) rfl) (Yc (Za (pI (iU K) (pv 2) Zi) (Za (pI (iU K) (pv 2) Zi) Zd))) ⟨rfl,rfl,rfl,rfl⟩)))
  Zs)
 (Ze (Zm (pv 2))))))))),?_⟩
 show let y1:TS:=_;let y2:TS:=Z0 _ y1;let y3:TS:=Z0 _ y2;let y4:TS:=Z0 _ y3;let y5:TS:=Z0 _ y4;let y6:TS:=Z0 _ y5;Z0 _ y6 _ _ _;intro y1 y2 y3 y4 y5 y6;obtain⟨⟨dx,v,a1,a2⟩,br,cl,d0,f0,⟨us,g1,g2⟩,_⟩:=id SA;refine⟨_,rfl,A'.p,a.zj1,dx,_,_,rfl,a1,T.zj2,T.zk8,Tj,_,.inl ⟨_,SqL.of g1,rfl⟩,?_⟩;have hul:=g2.length;rcases List.eq_nil_or_concat S.std with hn|⟨std',⟨d,s⟩,he⟩
 ·rw[hn] at hul;have hu0:us=[]:=List.length_eq_zero_iff.mp hul;rw[hu0];exact iteT ⟨sz1,h1 hn⟩
 have he:S.std=std'++[(d,s)]:=by rw[he,List.concat_eq_append]
 rw[he] at g2;obtain⟨vs',t,u,v',rfl,ht,hu',hs,g3⟩:=Ub.unsnoc g2;have hne:(vs'++[V.ref t]).isEmpty=false:=by cases vs'<;>rfl
 rw[hne];refine iteF (Z1 ?_);obtain⟨ppl,out,hbk,hfin⟩:=h2 std' d s he;refine⟨_,rfl,A'.p,a.zj1,dx,_,_,rfl,a1,T.zj2,T.zk8,Tj,.inl ⟨rfl,_,SqL.of g1⟩,A'.lt,_,V.ref t,rfl,rfl,g1,by simp,?_⟩;rw[List.dropLast_concat];have k1:∀ b o,H b=some o->b≠A'.lt->upd H A'.lt (.lst vs') b=some o:=fun b o e hb=>by rw[Zh hb];exact e
 have kt1:∀ t xs,H t=some (.tup xs)->upd H A'.lt (.lst vs') t=some (.tup xs):=fun t xs e=>k1 t _ e (Yp e g1 (fun z=>nomatch z));have ko1:∀ x o,x∉A'.fp->H x=some o->upd H A'.lt (.lst vs') x=some o:=fun x o hx e=>k1 x o e fun z=>hx (by rw[z];simp[SAd.fp]);obtain⟨SA1,f1⟩:=SA.setStd (std:=std') Zb (g3.keep ko1 kt1) k1;have ht1:=kt1 _ _ ht;have hu1:=kt1 _ _ hu';have hs1:=hs.keep ko1 kt1;generalize upd H A'.lt (.lst vs')=H1 at SA1 f1 ht1 hu1 hs1;refine⟨_,rfl,t,_,_,_,rfl,rfl,SqT.of ht1,rfl,?_⟩;obtain⟨⟨dx1,v1,a11,a12⟩,_⟩:=id SA1;refine⟨_,rfl,t,_,_,_,rfl,rfl,SqT.of ht1,rfl,_,rfl,A'.p,a.zj1,dx1,_,rfl,a11,T.zj2,T.zkx,(by show 8<1000;decide),?_⟩;have k2:∀ b o,H1 b=some o->b≠A'.p->upd H1 A'.p (.ins a.zj1 dx1 (putF "sheet" v' (seaF A' S.len S.rest v1))) b=some o:=fun b o e hb=>by rw[Zh hb];exact e
 have kt2:∀ t xs,H1 t=some (.tup xs)->upd H1 A'.p (.ins a.zj1 dx1 (putF "sheet" v' (seaF A' S.len S.rest v1))) t=some (.tup xs):=fun t xs e=>k2 t _ e (Yp e a11 (fun z=>nomatch z));obtain⟨SA2,f2⟩:=SA1.setCur (cur:=s) (v:=v') ⟨dx1,by rw[Zb];exact congrArg (fun x=>some (HO.ins a.zj1 dx1 x)) P9⟩ (hs1.keep (fun x o hx e=>k2 x o e fun z=>hx (by rw[z];simp[SAd.fp])) kt2) k2;have hu2:=kt2 _ _ hu1;generalize upd H1 A'.p (.ins a.zj1 dx1 (putF "sheet" v' (seaF A' S.len S.rest v1)))=H2 at SA2 f2 hu2;have fr2:=f1.trans f2;have d0:atI (Pk d) 0=some (.str d.1):=rfl;have d1:atI (Pk d) 1=some (.int d.2.1):=rfl;have d2:atI (Pk d) 2=some (.int d.2.2):=rfl;have es:∀ w:Str,decide (V.str d.1=V.str w)=decide (d.1=w):=fun w=>by
  by_cases z:d.1=w
  ·rw[zss z,zss (congrArg V.str z)]
  ·rw[zsw z,zsw (fun q=>z (V.str.inj q))]
 walk_at "if";refine Fq ?_;refine⟨_,rfl,u,_,_,_,rfl,rfl,SqT.of hu2,d0,rfl,_,rfl,?_⟩;rw[es];obtain⟨⟨dx2,v2,a21,a22⟩,br2,cl2,⟨kvs2,e21,e22⟩,_⟩:=id SA2;have n1:¬ (("enrol":Str)="away"):=by decide +kernel
 have n2:¬ (("draw up":Str)="away"):=by decide +kernel
 have n3:¬ (("draw up":Str)="enrol"):=by decide +kernel
 have n4:¬ (("away":Str)="enrol"):=by decide +kernel
 rcases hbk with ⟨hd,⟨g,c0,hp⟩,ho⟩|⟨hd,hp,ho,hno⟩|⟨hd,hp,ho⟩
 ·rw[zss hd];refine iteT ?_;obtain⟨⟨dxr,kvr,hpr,hdr,en⟩,ndr⟩:=id br2;refine⟨_,rfl,A'.p,a.zj1,dx2,_,_,rfl,a21,T.zj2,T.zlf,Vz,A'.pr,dxr,_,rfl,hpr,Xf.no ⋯,_,rfl,u,_,_,_,rfl,rfl,SqT.of hu2,d1,A'.pr,A'.dr,ppl,d.2.1,g,c0,rfl,(show Xf a.zj5 H2 A'.pr A'.dr (ppl++[(d.2.1,g,c0)]) by have:Xf a.zj5 H2 A'.pr A'.dr S.ppl:=br2;rw[hp] at this;exact this),fun H3 R3 k3=>?_⟩;obtain⟨SA3,f3⟩:=SA2.setRos R3 k3;have hu3:=SA2.tups f3 _ _ hu2;refine⟨_,rfl,u,_,_,_,rfl,rfl,SqT.of hu3,d0,rfl,_,rfl,?_⟩;rw[es,zsw (by rw[hd];exact n1)];refine iteF (Z1 ⟨_,rfl,?_⟩);refine hfin u H3 hu3 ?_ (fr2.trans f3);rw[ho];exact SA3
 ·rw[zsw (by rw[hd];exact n4)];refine iteF (Z1 ?_);refine⟨_,rfl,u,_,_,_,rfl,rfl,SqT.of hu2,d0,rfl,_,rfl,?_⟩;rw[es,zss hd];refine iteT ?_;refine⟨_,rfl,A'.p,a.zj1,dx2,_,_,rfl,a21,T.zj2,T.zl4,Q0,A'.da,rfl,.inr ⟨kvs2,.inl e21⟩,_,rfl,u,_,_,_,rfl,rfl,SqT.of hu2,d2,_,rfl,u,_,_,_,rfl,rfl,SqT.of hu2,d1,sz2,fun tk htk=>?_⟩;have s3:=Zf (o:=.tup [.int d.2.2,.int d.2.1]) htk;have q3:upd H2 tk (.tup [.int d.2.2,.int d.2.1]) tk=some (.tup (([inl d.2.2,inl d.2.1]:List Key).map kV)):=Zb;generalize upd H2 tk (.tup [.int d.2.2,.int d.2.1])=H3 at s3 q3;have SA3:=SA2.same s3;have e22:Qa kvs2 S.out:=e22;rw[ho] at e22;have hv:∃ vv,valV kvs2 [inl d.2.2,inl d.2.1]=some vv:=ztz.mp (by rw[e22.1,zss (by simp)]);obtain⟨vv,hv⟩:=hv;refine⟨kvs2,[inl d.2.2,inl d.2.1],tk,vv,s3 _ _ e21,rfl,q3,hv,?_⟩;obtain⟨SA4,f4⟩:=SA3.setOut (out:=out) Zb (e22.drop hno) (fun b o e hb=>by rw[Zh hb];exact e);have hu4:=SA3.tups f4 _ _ (s3 _ _ hu2);refine⟨_,rfl,hfin u _ hu4 ?_ (fr2.trans ((FrS.of A' s3).trans f4))⟩;rw[hp];exact SA4
 ·rw[zsw (by rw[hd];exact n3)];refine iteF (Z1 ?_);refine⟨_,rfl,u,_,_,_,rfl,rfl,SqT.of hu2,d0,rfl,_,rfl,?_⟩;rw[es,zsw (by rw[hd];exact n2)];refine iteF (Z1 ⟨_,rfl,hfin u H2 hu2 ?_ fr2⟩);rw[hp,ho];exact SA2
abbrev V5:Stmt:=Z3 (top 55) 15
theorem Nm:Zl ["self"] ["self"] (Zj V5):=fnS
theorem Nn(F:Fun K "at_hand" "Season.at_hand" V5 f fd)(T:Tx K mg a)(zj9:Zu P w K mg base a.zj4 "over" 1 ["self"] (N1 a.zj4)):FnOk P w K mg base (CX1 P w) 2 f fd ["self"] (Vg (ca a)):=by
 refine F.okX Nm ⋯ fun _ _ _ _ H _ Q E hr h=>?_;obtain⟨A',S,rfl,SA,h⟩:=h;refine⟨_,(Ze (Zm (Zq Yg (Yi (Zn (K:=K) rfl (pv 0) rfl) T.zks zj9 (hr.mono ⋯) Zk) Zi))),?_⟩;obtain⟨⟨dx,v,a1,a2⟩,b,c,_⟩:=id SA;obtain⟨⟨dxl,hpl⟩,_⟩:=id c;refine⟨_,rfl,A'.p,a.zj1,dx,_,_,rfl,a1,T.zj2,T.zlg,V0,A'.pl,dxl,_,rfl,hpl,Mz ⋯ ⋯,A'.pl,A'.lr,A'.ld,S.led,rfl,c,_,_,rfl,rfl,?_⟩;exact h
abbrev T7:Stmt:=Z3 (top 55) 21
theorem J7:Zl ["self","at"] ["self","at"] (Zj T7):=fnS
theorem J8(F:Fun K "goes" "Season.goes" T7 f fd)(T:Tx K mg a)(zmb:Zu P w K mg base a.zj1 "sheet_of" 3 ["self","at"] (G3 (ca a)))(zlt:Zu P w K mg base a.zj6 "goes" 1 ["self"] (K4 (ca a))):FnOk P w K mg base (CX1 P w) 4 f fd ["self","at"] (Bw (ca a)):=by
 refine F.okX J7 ⋯ fun _ _ _ _ H _ Q E hr h=>?_;obtain⟨A',S,i,rfl,SA,hr0⟩:=h;refine⟨_,(Ze (Zm (Yi (Xd (pv 0) T.zj2 zmb (hr.mono ⋯) Zk (Za (pv 1) Zd)) T.zkk zlt (hr.mono ⋯) Zk))),?_⟩;obtain⟨si,hol,h⟩:=hr0;obtain⟨⟨dx,v,a1,a2⟩,_⟩:=id SA;refine⟨_,rfl,A'.p,dx,_,rfl,a1,Ye ⋯,_,rfl,A',S,i,rfl,SA,si,hol,it2 h (fun _ z=>z) fun hn h=>⟨h.1,fun s q hs Sq=>?_⟩⟩;obtain⟨dxq,m1,m2,m3,m4,hq⟩:=ShAt.ins Sq;exact⟨q,dxq,_,rfl,hq,Sy ⋯ ⋯ ⋯ ⋯,(·∉A'.fp),q,s,rfl,Sq,fun l H' a b c=>h.2 s hs l H' a b c⟩
abbrev U8:Stmt:=Z3 (top 55) 28
theorem Ka:Zl ["self"] ["self"] (Zj U8):=fnS
theorem Kb(F:Fun K "facts" "Season.facts" U8 f fd)(T:Tx K mg a)(zj3:Zu P w K mg base a.zj1 "at_hand" 2 ["self"] (Vg (ca a)))(zm6:Zu P w K mg base a.zj4 "facts" 1 ["self","at"] (A9 a.zj4 a.zka)):FnOk P w K mg base (CX1 P w) 3 f fd ["self"] (G8 (ca a)):=by
 refine F.okX Ka ⋯ fun _ _ _ _ H _ Q E hr h=>?_;obtain⟨A',S,rfl,SA,hl,h⟩:=h;refine⟨_,(Ze (Zm (V9 rfl (cT ["self"] [0]) (Hy rfl T.zk0 (Za Zi (Za (Yi (pv 0) T.zj2 zj3 (hr.mono ⋯) Zk) Zd))) (fun _ _ _ _ _=>V7) (fun _ _ _ _ _=>(Xd (Zn (K:=K) rfl (pv 1) rfl) T.zks zm6 (hr.mono ⋯) Dc (Za (pv 0) Zd)))))),?_⟩;obtain⟨⟨dx,v,a1,a2⟩,b,c,_⟩:=id SA;obtain⟨⟨dxl,lp⟩,_⟩:=id c;have eat:(atV S-1).toNat=S.led.length:=by unfold atV;omega
 refine⟨_,rfl,A'.p,dx,_,rfl,a1,Ye ⋯,A',S,rfl,SA,1,atV S,rfl,⟨by omega,by omega,by unfold atV;omega,by unfold atV;omega⟩,?_⟩;rw[eat];refine Pw (fun i ys H'=>Same H H'/\∃ ls,ys=ls.map V.ref/\RwL H' ls (S.led.take i)/\ls.length=i/\∀ x∈ls,H x=none) ⟨Same.refl _,[],rfl,.nil,rfl,by simp⟩ (szN ⋯) (fun i ys H' ⟨_,ls,e1,_,e2,_⟩=>by rw[e1,zsk];omega) (fun i ys H' hi p=>?_) (fun ys H' p l' hl'=>?_)
 ·obtain⟨s1,ls,rfl,rl,hll,hfr⟩:=p;have hri:S.led[i]?=some (S.led[i]'hi):=zsl hi;unfold tYes;dsimp only;rw[if_pos rfl];refine⟨_,rfl,A'.p,a.zj1,dx,_,_,rfl,s1 _ _ a1,T.zj2,T.zlg,V0,A'.pl,dxl,_,rfl,s1 _ _ lp,Mz ⋯ ⋯,_,rfl,A'.pl,A'.lr,A'.ld,S.led,1+(i:Int),rfl,c.same s1,Z7 ⋯ ⋯,fun z=>by omega,fun k rs hk hrs l2 ts hl2 tl2=>?_⟩;have ek:k=i:=by omega
  subst ek;have s2:=Zf (o:=.lst ts) hl2;refine⟨s1.trans s2,ls++[l2],by rw[zsq];rfl,?_,by rw[zsn,hll];rfl,fun y hy=>?_⟩
  ·rw[X8 hrs];exact(rl.same s2).snoc Zb (tl2.same s2)
  ·rcases zsv.mp hy with z|z
   ·exact hfr y z
   ·rw[zsp.mp z];exact s1.free hl2
 ·obtain⟨s1,ls,rfl,rl,hll,hfr⟩:=p;rw[zs7] at rl;exact h l' ls _ Zb (rl.same (Zf hl')) (s1.trans (Zf hl')) (s1.free hl') hfr
abbrev Qi:Stmt:=top 57
theorem Ef:Zl ["_law_found"] ["_law_found"] (Zj Qi):=fnS
theorem Eg(F:Fun K "_law_whole" "_law_whole" Qi f fd)(T:Tx K mg a):FnOk P w K mg base (CX1 P w) 1 f fd ["_law_found"] Fs:=by
 refine F.okX Ef ⋯ fun _ _ _ _ H _ Q E hr h=>?_;obtain⟨i,rfl,h⟩:=h;refine⟨_,(Ze (Zm (Fg (Zt (Up (K:=K) rfl) (by rfl) T.zky PyProof.Rows.boot_isinstance (Za (pv 0) (Za (Qt rfl T.zqe PyProof.Rows.boot_int (show RelV (.ty "int") _ from rfl)) Zd))) (Ff (zgg (Zt (Up (K:=K) rfl) (by rfl) T.zky PyProof.Rows.boot_isinstance (Za (pv 0) (Za (Qt rfl T.zpn PyProof.Rows.boot_bool (show RelV (.ty "bool") _ from rfl)) Zd)))))))),?_⟩;refine⟨_,rfl,_,_,_,_,rfl,.of (.int i),.inl ⟨_,rfl⟩,zg8 K,_,rfl,?_⟩;refine iteT ?_;exact⟨_,rfl,_,_,_,_,rfl,.of (.int i),.inl ⟨_,rfl⟩,zg9 K,_,rfl,h⟩
abbrev J9:Stmt:=top 58
theorem zca:Zl ["_law_script","_law_k"] ["_law_script","_law_k"] (Zj J9):=fnS
theorem zcb(F:Fun K "_law_at" "_law_at" J9 f fd)(T:Tx K mg a):FnOk P w K mg base (CX1 P w) 1 f fd ["_law_script","_law_k"] (zbb K):=by
 refine F.okX zca ⋯ fun _ _ _ _ H _ Q E hr h=>?_;obtain⟨b,ns,k,rfl,hs,h⟩:=h;refine⟨_,(Zc (Z6 (Zo Ga (pv 1) (Zt (cL K) (by rfl) T.zkj PySem.boot_len (Za (pv 0) Zd)) (Zw _))
  (Ze (Zm (pI (iL K) (pv 0) (pv 1))))
  Zs)
 (Ze (Zm Zi))),?_⟩
 refine⟨_,rfl,_,rfl,b,_,rfl,.inl hs,_,_,rfl,rfl,_,rfl,?_⟩;rw[zsk];refine itD (fun hk=>?_) (fun hk=>?_)
 ·have hk':k<ns.length:=by omega
  refine⟨_,rfl,_,rfl,b,_,_,_,rfl,rfl,hs,Z9 (show (ns.map V.int)[k]?=some (.int (Ym ns k)) from ?_),h⟩;unfold Ym;rw[zsr,zsl hk'];rfl
 ·have e:Ym ns k=0:=by unfold Ym;rw[List.getElem?_eq_none ⋯];rfl
  rw[e] at h;exact h
abbrev Ml:Stmt:=top 59
theorem Rf:Zl ["_law_cell","_law_k","_law_one","_law_two","_law_three"] ["_law_cell","_law_k"] (Zj Ml):=fnS
theorem Ai(F:Fun K "_law_mix" "_law_mix" Ml f fd)(T:Tx K mg a):FnOk P w K mg base (CX1 P w) 1 f fd ["_law_cell","_law_k"] A4:=by
 refine F.okX Rf ⋯ fun _ _ _ _ H _ Q E hr h=>?_;obtain⟨c,k,rfl,h⟩:=h;refine⟨_,(Zc (pS 2 Rf.nd (Zq Y7 (Zq Yg (Zq Rv (pv 0) Zi) (pv 1)) Zi))
 (Zc (pS 3 Rf.nd (Zq Y7 (Zq Yg (Zq Rv (pv 2) Zi) (Zq Rv Zi (pv 1))) Zi))
 (Zc (pS 4 Rf.nd (Zq Y7 (Zq Yg (Zq Rv (pv 3) Zi) (pv 2)) Zi))
 (Ze (Zm (Zq Yg (Zq Rv (Zq Yg (Zq Rv (pv 2) Zi) (pv 3)) Zi) (pv 4))))))),?_⟩
 walk_at "rd";exact h
abbrev Yn:Stmt:=top 60
theorem Qj:Zl ["_law_cell","_law_many","_law_step"] ["_law_cell","_law_many"] (Zj Yn):=fnS
@[irreducible] def Vp:List Expr:=zbw (Ce (Q8 (Xj (Zp Yn) 0)))
@[irreducible] def Qk:Pos:=zbx (Ce (Q8 (Xj (Zp Yn) 0)))
theorem Mm:Zp Yn=[.Assign (zd2 (Xj (Zp Yn) 0)) (.Subscript (.List Vp Qk) (zfj (Q8 (Xj (Zp Yn) 0))) (zfk (Q8 (Xj (Zp Yn) 0)))) (stP (Xj (Zp Yn) 0)),Xj (Zp Yn) 1]:=by unfold Vp Qk;kernel_rfl
theorem Mn:Jb Vp [1,2,5,10,100,500,998]:=by unfold Vp;exact⟨by kernel_rfl,by kernel_rfl⟩
theorem Ia(F:Fun K "_law_numbers" "_law_numbers" Yn f fd)(T:Tx K mg a):FnOk P w K mg base (CX1 P w) 1 f fd ["_law_cell","_law_many"] K0:=by
 refine F.okX Qj ⋯ fun _ _ _ _ H _ Q E hr h=>?_;obtain⟨c,m,rfl,hm,h⟩:=h;rw[Mm];refine⟨_,(Zc (pS 2 Qj.nd (pI (iL K) (Z8 (Q4 [1,2,5,10,100,500,998] Mn)) (Zq Y7 (pv 0) Zi)))
 (Ze (Zm (V9 rfl (cT ["_law_cell","_law_step"] [0,2]) (Y5 rfl T.zk0 (Za (pv 1) Zd)) (fun _ _ _ _ _=>V7) (fun _ _ _ _ _=>(Zq Yg Zi (Zq Y7 (Zq Yg (Zq Xi (pv 1) Zi) (Zq Rv (pv 2) (pv 0))) Zi))))))),?_⟩
 refine⟨by show 7<=sizeLine;decide,fun p0 hp0=>?_⟩;walk_at "rd";refine⟨p0,_,_,_,rfl,rfl,SqL.of Zb,Wx (xs:=[1,2,5,10,100,500,998]) ⋯ (by show c%7<7;omega),?_⟩;refine⟨_,rfl,_,rfl,by omega,by omega,Gm (fun j=>V.int (zbc c j)) (by rw[zs0];exact zs2 hm ⋯) (fun i R hi k=>?_) (fun p hp=>?_)⟩
 ·rw[zs0] at hi;walk_at "rd";refine⟨.inr ⟨by omega,by omega⟩,?_⟩;walk_at "rd";rw[ztx];exact k
 ·rw[zs0];refine h p _ ?_ ((Zf hp0).trans (Zf hp)) ((Zf hp0).free hp);rw[Zb];unfold My;rw[zt7];rfl
abbrev Y4:Stmt:=top 61
theorem Np:Zl ["_law_cell","_law_many","_law_step"] ["_law_cell","_law_many"] (Zj Y4):=fnS
@[irreducible] def Um:List Expr:=zbw (Ce (Q8 (Xj (Zp Y4) 0)))
@[irreducible] def Nq:Pos:=zbx (Ce (Q8 (Xj (Zp Y4) 0)))
theorem Ib:Zp Y4=[.Assign (zd2 (Xj (Zp Y4) 0)) (.Subscript (.List Um Nq) (zfj (Q8 (Xj (Zp Y4) 0))) (zfk (Q8 (Xj (Zp Y4) 0)))) (stP (Xj (Zp Y4) 0)),Xj (Zp Y4) 1]:=by unfold Um Nq;kernel_rfl
theorem Ie:Jb Um [1,2,5,10,50,97,98]:=by unfold Um;exact⟨by kernel_rfl,by kernel_rfl⟩
theorem Eh(F:Fun K "_law_clubs" "_law_clubs" Y4 f fd)(T:Tx K mg a):FnOk P w K mg base (CX1 P w) 1 f fd ["_law_cell","_law_many"] A5:=by
 refine F.okX Np ⋯ fun _ _ _ _ H _ Q E hr h=>?_;obtain⟨c,m,rfl,hm,h⟩:=h;rw[Ib];refine⟨_,(Zc (pS 2 Np.nd (pI (iL K) (Z8 (Q4 [1,2,5,10,50,97,98] Ie)) (Zq Y7 (pv 0) Zi)))
 (Ze (Zm (V9 rfl (cT ["_law_cell","_law_step"] [0,2]) (Y5 rfl T.zk0 (Za (pv 1) Zd)) (fun _ _ _ _ _=>V7) (fun _ _ _ _ _=>(Zq Yg Zi (Zq Y7 (Zq Yg (Zq Xi (pv 1) Zi) (Zq Rv (pv 2) (pv 0))) Zi))))))),?_⟩
 refine⟨by show 7<=sizeLine;decide,fun p0 hp0=>?_⟩;walk_at "rd";refine⟨p0,_,_,_,rfl,rfl,SqL.of Zb,Wx (xs:=[1,2,5,10,50,97,98]) ⋯ (by show c%7<7;omega),?_⟩;refine⟨_,rfl,_,rfl,by omega,by omega,Gm (fun j=>V.int (Gp c j)) (by rw[zs0];exact zs2 hm ⋯) (fun i R hi k=>?_) (fun p hp=>?_)⟩
 ·rw[zs0] at hi;walk_at "rd";refine⟨.inr ⟨by omega,by omega⟩,?_⟩;walk_at "rd";rw[ztx];exact k
 ·rw[zs0];refine h p _ ?_ ((Zf hp0).trans (Zf hp)) ((Zf hp0).free hp);rw[Zb];unfold R1;rw[zt7];rfl
abbrev Rg:Stmt:=top 62
theorem Hk:Zl ["_law_found","_law_due"] ["_law_found","_law_due"] (Zj Rg):=fnS
theorem Hl(F:Fun K "_law_one_is" "_law_one_is" Rg f fd)(T:Tx K mg a)(zl2:Z4 P w K mg base "_law_whole" 1 ["_law_found"] Fs):FnOk P w K mg base (CX1 P w) 2 f fd ["_law_found","_law_due"] Fu:=by
 refine F.okX Hk ⋯ fun _ _ _ _ H _ Q E hr h=>?_;obtain⟨x,rfl,hx,h⟩:=h;refine⟨_,(Ze (Zm (Es (Zo Nv (pv 1) Y6 (Zw _)) (Oy Nv (pv 0) Y6 (Zw _)) (Fg (pF zl2 hr (Za (pv 0) Zd)) (Ff (Oy Vt (pv 0) (pv 1) (Zw _))))))),?_⟩;rcases hx with rfl|⟨i,rfl⟩
 ·refine⟨_,rfl,rfl,_,rfl,?_⟩;refine iteT ?_;exact⟨_,rfl,rfl,h⟩
 ·refine⟨_,rfl,rfl,_,rfl,?_⟩;refine iteF ?_;refine⟨_,rfl,i,rfl,_,rfl,?_⟩;refine iteT ?_;refine⟨_,rfl,_,rfl,rfl,?_⟩;rw[zss rfl];exact h
abbrev U9:Stmt:=top 63
theorem Rn:Zl ["_law_found","_law_due","_law_k"] ["_law_found","_law_due"] (Zj U9):=fnS
theorem Kc(F:Fun K "_law_tuple_is" "_law_tuple_is" U9 f fd)(T:Tx K mg a)(zld:Z4 P w K mg base "_law_one_is" 2 ["_law_found","_law_due"] Fu):FnOk P w K mg base (CX1 P w) 3 f fd ["_law_found","_law_due"] (Gq K):=by
 refine F.okX Rn ⋯ fun _ _ _ _ H _ Q E hr h=>?_;obtain⟨b,c,xs,rfl,hb,hc,ho,hl,h⟩:=h;refine⟨_,(Zc (Z6 (PW.pt (Td (Vd (W3 (Zt (Up (K:=K) rfl) (by rfl) T.zky PyProof.Rows.boot_isinstance (Za (pv 0) (Za (Qt rfl T.zoh PyProof.Rows.boot_tuple (show RelV (.ty "tuple") _ from rfl)) Zd))))) (Vx (Zo An (Zt (cL K) (by rfl) T.zkj PySem.boot_len (Za (pv 0) Zd)) (Zt (cL K) (by rfl) T.zkj PySem.boot_len (Za (pv 1) Zd)) (Zw _)))))
  (Ze (Zm We))
  Zs)
 (Zc (Yy PassesOwn.leaving rfl (Y5 rfl T.zk0 (Za (Zt (cL K) (by rfl) T.zkj PySem.boot_len (Za (pv 1) Zd)) Zd)) (pN 2 Rn.nd)
  (Ze (Z6 (Vd (W3 (pF zld hr (Za (pI (iU K) (pv 0) (pv 2)) (Za (pI (iU K) (pv 1) (pv 2)) Zd)))))
   (Ze (Zm We))
   Zs)))
 (Ze (Zm We)))),?_⟩
 refine⟨_,rfl,_,_,_,_,rfl,.of (.tup hb),.inl ⟨_,rfl⟩,zha K,_,rfl,?_⟩;refine iteF ?_;refine⟨_,rfl,b,_,rfl,.inr (SqT.of hb),_,rfl,c,_,rfl,.inr hc,rfl,_,rfl,?_⟩;rw[zss rfl];refine iteF ?_;refine⟨_,rfl,c,_,rfl,.inr hc,_,rfl,by omega,by omega,Xl (fun i σ H'=>H'=H/\(∃ v,σ=[some (.ref b),some (.ref c),v])) ⟨rfl,⟨_,rfl⟩⟩ (fun i σ H' hi ⟨e,⟨v,hv⟩⟩=>?_) (fun σ H' ⟨e,⟨v,hv⟩⟩=>?_)⟩
 ·subst e hv;rw[zs0] at hi;have h1:xs[i]?=some (xs[i]'hi):=zsl hi;rw[ztx];refine⟨_,rfl,_,rfl,b,_,_,_,rfl,rfl,SqT.of hb,Z9 h1,_,rfl,_,rfl,c,_,_,_,rfl,rfl,hc,Z9 h1,_,rfl,ho _ (ztf hi),_,rfl,?_⟩;exact iteF ⟨rfl,⟨_,rfl⟩⟩
 ·subst e hv;exact h
abbrev Ta:Stmt:=top 64
theorem Ro:Zl ["_law_found","_law_due","_law_k"] ["_law_found","_law_due"] (Zj Ta):=fnS
theorem Kd(F:Fun K "_law_rows_are" "_law_rows_are" Ta f fd)(T:Tx K mg a)(zm5:Z4 P w K mg base "_law_tuple_is" 3 ["_law_found","_law_due"] (Gq K)):FnOk P w K mg base (CX1 P w) 4 f fd ["_law_found","_law_due"] (Gs K):=by
 refine F.okX Ro ⋯ fun _ _ _ _ H _ Q E hr h=>?_;obtain⟨b,c,ts,us,R,rfl,hb,hc,tl,ul,ho,hl,h⟩:=h;refine⟨_,(Zc (Z6 (PW.pt (Td (Vd (W3 (Zt (Up (K:=K) rfl) (by rfl) T.zky PyProof.Rows.boot_isinstance (Za (pv 0) (Za (Qt rfl T.zlw PyProof.Rows.boot_list (show RelV (.ty "list") _ from rfl)) Zd))))) (Vx (Zo An (Zt (cL K) (by rfl) T.zkj PySem.boot_len (Za (pv 0) Zd)) (Zt (cL K) (by rfl) T.zkj PySem.boot_len (Za (pv 1) Zd)) (Zw _)))))
  (Ze (Zm We))
  Zs)
 (Zc (Yy PassesOwn.leaving rfl (Y5 rfl T.zk0 (Za (Zt (cL K) (by rfl) T.zkj PySem.boot_len (Za (pv 1) Zd)) Zd)) (pN 2 Ro.nd)
  (Ze (Z6 (Vd (W3 (pF zm5 hr (Za (pI (iL K) (pv 0) (pv 2)) (Za (pI (iL K) (pv 1) (pv 2)) Zd)))))
   (Ze (Zm We))
   Zs)))
 (Ze (Zm We)))),?_⟩
 have el:ts.length=us.length:=by rw[tl.length,ul.length]
 have hul:=ul.length;refine⟨_,rfl,_,_,_,_,rfl,.of (.lst hb),.inl ⟨_,rfl⟩,Bo K,_,rfl,?_⟩;refine iteF ?_;refine⟨_,rfl,b,_,rfl,.inl (SqL.of hb),_,rfl,c,_,rfl,.inl hc,rfl,_,rfl,?_⟩;rw[el,zss rfl];refine iteF ?_;refine⟨_,rfl,c,_,rfl,.inl hc,_,rfl,by omega,by omega,Xl (fun i σ H'=>H'=H/\(∃ v,σ=[some (.ref b),some (.ref c),v])) ⟨rfl,⟨_,rfl⟩⟩ (fun i σ H' hi ⟨e,⟨v,hv⟩⟩=>?_) (fun σ H' ⟨e,⟨v,hv⟩⟩=>?_)⟩
 ·subst e hv;rw[zs0] at hi;have hR:i<R.length:=by rw[<- ul.length];exact hi
  obtain⟨t1,e1,q1⟩:=tl.getR (zsl hR);obtain⟨t2,e2,q2⟩:=ul.getR (zsl hR);obtain⟨o1,o2⟩:=ho _ (ztf hR);rw[ztx];refine⟨_,rfl,_,rfl,b,_,_,_,rfl,rfl,SqL.of hb,Z9 e1,_,rfl,_,rfl,c,_,_,_,rfl,rfl,hc,Z9 e2,t1,t2,_,rfl,q1,SqT.of q2,o2,o1,_,rfl,?_⟩;exact iteF ⟨rfl,⟨_,rfl⟩⟩
 ·subst e hv;exact h
abbrev V6:Stmt:=top 65
theorem Vq:Zl ["_law_may","_law_given","_law_seen","_law_k"] ["_law_may","_law_given"] (Zj V6):=fnS
theorem Nr(F:Fun K "_law_is_filling" "_law_is_filling" V6 f fd)(T:Tx K mg a)(zl2:Z4 P w K mg base "_law_whole" 1 ["_law_found"] Fs):FnOk P w K mg base (CX1 P w) 2 f fd ["_law_may","_law_given"] (M3 K):=by
 refine F.okX Vq ⋯ fun _ _ _ _ H _ Q E hr h=>?_;obtain⟨l,lg,ls,rows,gs,rfl,hl,il,hrl,hg,FP,h⟩:=h;have hu:=Wa hr;refine⟨_,(Zc (Z6 (PW.pt (Td (Vd (W3 (Zt (Up (K:=K) rfl) (by rfl) T.zky PyProof.Rows.boot_isinstance (Za (pv 1) (Za (Qt rfl T.zlw PyProof.Rows.boot_list (show RelV (.ty "list") _ from rfl)) Zd))))) (Vx (Zo An (Zt (cL K) (by rfl) T.zkj PySem.boot_len (Za (pv 1) Zd)) (Zt (cL K) (by rfl) T.zkj PySem.boot_len (Za (pv 0) Zd)) (Zw _)))))
  (Ze (Zm We))
  Zs)
 (Zc (pS 2 Vq.nd O1)
 (Zc (Yy PassesOwn.leaving rfl (Y5 rfl T.zk0 (Za (Zt (cL K) (by rfl) T.zkj PySem.boot_len (Za (pv 0) Zd)) Zd)) (pN 3 Vq.nd)
  (Ze (Z6 (Zo Te (pI (iL K) (pv 1) (pv 3)) Y6 (Zw _))
   (Zc (Z6 (PW.pt (Td (Vd (W3 (pF zl2 hr (Za (pI (iL K) (pv 1) (pv 3)) Zd)))) (Td (Zo (Pj (K:=K) rfl) (pI (iL K) (pv 1) (pv 3)) (pI (iL K) (pv 0) (pv 3)) (by with_unfolding_all rfl)) (Vx (Uq (Pt hu (pI (iL K) (pv 1) (pv 3)) (pv 2)))))))
    (Ze (Zm We))
    Zs)
   (Ze (Yq hu (pv 2) (pI (iL K) (pv 1) (pv 3)) We rfl)))
   Zs)))
 (Ze (Zm We))))),?_⟩
 refine⟨_,rfl,_,_,_,_,rfl,.of (.lst hg),.inl ⟨_,rfl⟩,Bo K,_,rfl,?_⟩;refine iteF ?_;refine⟨_,rfl,lg,_,rfl,.inl (SqL.of hg),_,rfl,l,_,rfl,.inl (SqL.of hl),rfl,_,rfl,?_⟩;rw[zsk,il.length,FP.len,zss rfl];refine iteF ?_;intro ld hld;have s0:=Zf (o:=.dK []) hld;have q0:upd H ld (.dK []) ld=some (.dK []):=Zb;generalize upd H ld (.dK [])=H1 at s0 q0;refine⟨_,rfl,l,_,rfl,.inl (SqL.of (s0 _ _ hl)),_,rfl,by omega,by rw[zsk,il.length];omega,?_⟩;rw[zsk,il.length,zs0]
 let jv1:Nat->L2.St->Hp->Prop:=fun i σ H'=>(∃ v3,σ=[some (.ref l),some (.ref lg),some (.ref ld),v3])/\Same H H'/\∃ kvs,H' ld=some (.dK kvs)/\kvs.length<=i/\∀ n:Int,(valV kvs (inl n:Key)).isSome=true->∃ j,j<i/\gs[j]?=some (.int n)
 refine Xl jv1 ⟨⟨_,rfl⟩,s0,[],q0,zst _,fun n z=>(nomatch z)⟩ ?_ ?_
 ·rintro i σ H' hi ⟨⟨v3,rfl⟩,sm,kvs,hd,hkl,hks⟩;rw[ztx];have hgi:i<gs.length:=by rw[FP.len];exact hi
  have hx:gs[i]?=some (gs[i]'hgi):=zsl hgi;have hone:=FP.one _ (ztf hgi);generalize (gs[i]'hgi)=x at hx hone;refine⟨_,rfl,_,rfl,lg,_,_,_,rfl,rfl,SqL.of (sm _ _ hg),Z9 hx,rfl,_,rfl,?_⟩;rcases hone with rfl|⟨n,rfl⟩
  ·refine iteF ?_;refine⟨⟨_,rfl⟩,sm,kvs,hd,by omega,fun n hn=>?_⟩;obtain⟨j,h1,h2⟩:=hks n hn;exact⟨j,by omega,h2⟩
  ·refine iteT ?_;obtain⟨r,hr',hnr⟩:=FP.may i n hx;obtain⟨lr,e1,e2⟩:=il.getR hr';have hl':(ls.map V.ref)[i]?=some (.ref lr):=by rw[zsr,e1];rfl
   have hno:valV kvs (inl n:Key)=none:=by
    cases q:valV kvs (inl n:Key) with
    | none=>rfl
    | some v =>
      obtain⟨j,h1,h2⟩:=hks n (by rw[q];rfl);exact absurd (FP.inj j i n h2 hx) ⋯
   have gx:∀ {Q:VK},Q (.int n) H'->∃ v,([some (V.ref l),some (V.ref lg),some (V.ref ld),some (V.int (i:Int))]:L2.St)[1]?=some (some v)/\∃ w,([some (V.ref l),some (V.ref lg),some (V.ref ld),some (V.int (i:Int))]:L2.St)[3]?=some (some w)/\Ik K v w H' Q:=fun q=>⟨_,rfl,_,rfl,lg,_,_,_,rfl,rfl,SqL.of (sm _ _ hg),Z9 hx,q⟩
   walk_at "if";refine Fq (Ss (b:=false) (O5 (b:=false) (c:=false) (fun Q q=>⟨_,rfl,_,rfl,lg,_,_,_,rfl,rfl,SqL.of (sm _ _ hg),Z9 hx,n,rfl,_,rfl,q⟩) (O5 (b:=false) (c:=false) (fun Q q=>⟨_,rfl,_,rfl,lg,_,_,_,rfl,rfl,SqL.of (sm _ _ hg),Z9 hx,_,rfl,_,rfl,l,_,_,_,rfl,rfl,SqL.of (sm _ _ hl),Z9 hl',lr,_,rfl,.inl (SqL.of (sm _ _ e2)),rfl,zbl r,_,rfl,by rw[Fw,zss hnr];exact q⟩)
    (fun Q q=>⟨_,rfl,_,rfl,lg,_,_,_,rfl,rfl,SqL.of (sm _ _ hg),Z9 hx,_,rfl,ld,_,rfl,DGet.k (k:=inl n) hd,_,rfl,by rw[hno];exact q⟩))) (iteF (Z1 ?_)))
   refine⟨_,rfl,_,rfl,_,rfl,lg,_,_,_,rfl,rfl,SqL.of (sm _ _ hg),Z9 hx,ld,_,rfl,DPut.k (k:=inl n) hd (Vy ⋯),?_⟩;refine⟨⟨_,rfl⟩,Ya hld sm,_,Zb,zs2 (Y3 _ _ _) ⋯,fun n' hn'=>?_⟩;rw[Ww] at hn';by_cases e:(inl n':Key)=inl n
   ·cases e;exact⟨i,Nat.lt_succ_self _,hx⟩
   ·rw[if_neg e] at hn';obtain⟨j,h1,h2⟩:=hks n' hn';exact⟨j,by omega,h2⟩
 ·rintro σ H' ⟨⟨v3,rfl⟩,sm,_⟩;exact h H' sm
def zap(K:Frag):Sp:=fun vs H Q _=>∃ (l lg:Addr) (ls:List Addr) (rows:List (List Int)) (gs:List V) (p:Nat),vs=[.ref l,.ref lg,.int p]/\H l=some (.lst (ls.map V.ref))/\ILs H ls rows/\rows.length<=100/\H lg=some (.lst gs)/\Yt rows gs/\p<rows.length/\Sw rows gs p/\∀ H',Same H H'->Q (.bl true) H'
theorem zeg{c:Nat}{cs:List Nat}:inV (.int (c:Nat)) (cs.map fun k=>V.int (k:Nat))=decide (c∈cs):=by
 have e:(cs.map fun k=>V.int (k:Nat))=(cs.map fun (k:Nat)=>((k:Nat):Int)).map V.int:=by rw[zt7];rfl
 rw[e,Fw];by_cases h:c∈cs
 ·rw[zss h,zss (zsu.mpr ⟨c,h,rfl⟩)]
 ·rw[zsw h,zsw];intro z;obtain⟨k,hk,q⟩:=zsu.mp z;have:k=c:=by omega
  subst this;exact h hk
abbrev Ql:Stmt:=top 66
theorem X5:Zl ["_law_may","_law_given","_law_place","_law_held","_law_k","_law_came","_law_done","_law_number"] ["_law_may","_law_given","_law_place"] (Zj Ql):=fnS
theorem Ei(F:Fun K "_law_stuck" "_law_stuck" Ql f fd)(T:Tx K mg a):FnOk P w K mg base (CX1 P w) 1 f fd ["_law_may","_law_given","_law_place"] (zap K):=by
 refine F.okX X5 ⋯ fun _ _ _ _ H _ Q E hr h=>?_;obtain⟨l,lg,ls,rows,gs,p,rfl,hl,il,hrl,hg,FP,hp,SA,h⟩:=h;have hu:=Wa hr;refine⟨_,(Zc (pS 3 X5.nd O1)
 (Zc (Yy PassesOwn.leaving rfl (Y5 rfl T.zk0 (Za (pv 2) Zd)) (pN 4 X5.nd)
  (Ze (Z6 (Zo Te (pI (iL K) (pv 1) (pv 4)) Y6 (Zw _))
   (Ze (Yq hu (pv 3) (pI (iL K) (pv 1) (pv 4)) (pv 4) rfl))
   Zs)))
 (Zc (pS 5 X5.nd (Z8 (Za (pv 2) Zd)))
 (Zc (pS 6 X5.nd Zi)
 (Zc (Kp PassesOwn.leaving (Zo Ga (pv 6) (Zt (cL K) (by rfl) T.zkj PySem.boot_len (Za (pv 5) Zd)) (Zw _))
  (Zc (Yy PassesOwn.leaving rfl (Yj (K:=K) rfl (pI (iL K) (pv 0) (pI (iL K) (pv 5) (pv 6)))) (pN 7 X5.nd)
   (Zc (Z6 (Uq (Qu hu (pv 7) (pv 3)))
    (Ze (Zm We))
    Zs)
   (Ze (Z6 (Zo (Pj (K:=K) rfl) (pD hu (pv 3) (pv 7)) (pv 5) (by with_unfolding_all rfl))
    (Ze (Yk (pv 5) (pD hu (pv 3) (pv 7))))
    Zs))))
  (Ze (pS 6 X5.nd (Zq Yg (pv 6) Zi)))))
 (Ze (Zm We))))))),?_⟩
 show let y1:TS:=_;let y2:TS:=_;let y3:TS:=_;let y4:TS:=Z0 (C3 _ (Z0 (zch _ _ (Z0 _ y1)) y2)) y3;let y5:TS:=Z0 _ y4;let y6:TS:=Z0 _ y5;let y7:TS:=Z0 _ y6;Z0 _ y7 _ _ _;intro y1 y2 y3 y4 y5 y6 y7;obtain⟨S,hSp,hS⟩:=SA;intro ld hld;have s0:=Zf (o:=.dK []) hld;have q0:upd H ld (.dK []) ld=some (.dK []):=Zb;generalize upd H ld (.dK [])=H1 at s0 q0;refine⟨_,rfl,_,rfl,by omega,by omega,?_⟩;rw[zs0]
 let jv2:Nat->L2.St->Hp->Prop:=fun i σ H'=>(∃ v4,σ=[some (.ref l),some (.ref lg),some (.int p),some (.ref ld),v4,none,none,none])/\Same H H'/\∃ kvs,H' ld=some (.dK kvs)/\kvs.length<=i/\∀ (n:Int) (j:Nat),j<i->gs[j]?=some (.int n)->valV kvs (inl n:Key)=some (.int j)
 refine Xl jv2 ⟨⟨_,rfl⟩,s0,[],q0,zst _,fun n j hj=>absurd hj (zue _)⟩ ?_ ?_
 ·rintro i σ H' hi ⟨⟨v4,rfl⟩,sm,kvs,hd,hkl,hks⟩;rw[ztx];have hgi:i<gs.length:=by rw[FP.len];omega
  have hx:gs[i]?=some (gs[i]'hgi):=zsl hgi;have hone:=FP.one _ (ztf hgi);generalize (gs[i]'hgi)=x at hx hone;refine⟨_,rfl,_,rfl,lg,_,_,_,rfl,rfl,SqL.of (sm _ _ hg),Z9 hx,rfl,_,rfl,?_⟩;rcases hone with rfl|⟨n,rfl⟩
  ·refine iteF ?_;refine⟨⟨_,rfl⟩,sm,kvs,hd,by omega,fun n j hj e=>?_⟩;by_cases hji:j=i
   ·subst hji;rw[hx] at e;cases e
   ·exact hks n j ⋯ e
  ·refine iteT ?_;refine⟨_,rfl,_,rfl,_,rfl,_,rfl,lg,_,_,_,rfl,rfl,SqL.of (sm _ _ hg),Z9 hx,ld,_,rfl,DPut.k (k:=inl n) hd (Vy ⋯),?_⟩;refine⟨⟨_,rfl⟩,Ya hld sm,_,Zb,zs2 (Y3 _ _ _) ⋯,fun n' j hj e=>?_⟩;rw[Ww];by_cases en:n'=n
   ·subst en;have:j=i:=FP.inj j i n' e hx;subst this;rw[if_pos rfl]
   ·rw[if_neg (fun z=>en (inl.inj z))];refine hks n' j ?_ e;have:j≠i:=fun z=>by subst z;rw[hx] at e;cases e;exact en rfl
    omega
 rintro σ H' ⟨⟨v4,rfl⟩,sm,kvs,hd,hkl,hks⟩;refine⟨_,rfl,sz1,fun lc hlc=>?_⟩;have s2:=sm.trans (Zf (o:=.lst [.int p]) hlc);have t2:=Zf (o:=.lst [.int p]) hlc;have fc:H lc=none:=sm.free hlc;have q2:upd H' lc (.lst [.int p]) lc=some (.lst (([p]:List Nat).map fun k=>V.int (k:Nat))):=Zb;have hd2:=t2 _ _ hd;have ncd:ld≠lc:=Zg hd hlc;generalize upd H' lc (.lst [.int p])=H2 at s2 t2 q2 hd2;clear sm hd;have hbound:∀ cs:List Nat,cs.Nodup->(∀ c∈cs,S c)->cs.length<=rows.length:=fun cs nd hc=>by
  have:=nd.length_le_of_subset (l₂:=List.range rows.length) fun c hcc=>ztq.mpr (hS c (hc c hcc)).1;rw[ztu] at this;exact this
 refine⟨fun m σ H'=>∃ (d:Nat) (cs:List Nat) (v4 v7:Option V),m=rows.length-d/\d<=cs.length/\σ=[some (.ref l),some (.ref lg),some (.int p),some (.ref ld),v4,some (.ref lc),some (.int d),v7]/\Same H H'/\H' ld=some (.dK kvs)/\H' lc=some (.lst (cs.map fun k=>V.int (k:Nat)))/\cs.Nodup/\∀ c∈cs,S c,
  ⟨_,0,[p],_,_,rfl,zs9 _,rfl,s2,hd2,q2,by simp,by simpa using hSp⟩,?_⟩
 rintro m σ Ha ⟨d,cs,w4,w7,rfl,hdl,rfl,sa,hda,hca,nd,hcs⟩;have hcl:=hbound cs nd hcs;refine⟨_,rfl,_,rfl,lc,_,rfl,.inl (SqL.of hca),_,_,rfl,rfl,_,rfl,?_⟩;rw[zsk];refine itD (fun hlt=>?_) (fun hlt=>?_)
 ·have hdc:d<cs.length:=by omega
  have hcd:cs[d]?=some (cs[d]'hdc):=zsl hdc;have hSc:=hcs _ (ztf hdc);generalize (cs[d]'hdc)=c at hcd hSc;obtain⟨hcr,hcn⟩:=hS c hSc;have hr':rows[c]?=some (rows[c]'hcr):=zsl hcr;generalize (rows[c]'hcr)=r at hr';obtain⟨lr,e1,e2⟩:=il.getR hr';have hl':(ls.map V.ref)[c]?=some (.ref lr):=by rw[zsr,e1];rfl
  have hcv:(cs.map fun k=>V.int (k:Nat))[d]?=some (.int c):=by rw[zsr,hcd];rfl
  refine⟨fun σ' H'=>∃ (cs:List Nat) (v4 v7:Option V),d+1<=cs.length/\σ'=[some (.ref l),some (.ref lg),some (.int p),some (.ref ld),v4,some (.ref lc),some (.int ((d:Int)+1)),v7]/\Same H H'/\H' ld=some (.dK kvs)/\H' lc=some (.lst (cs.map fun k=>V.int (k:Nat)))/\cs.Nodup/\∀ c∈cs,S c,
   fun σ' H' ⟨cs',u4,u7,h1,h2,h3,h4,h5,h6,h7⟩=>⟨rows.length-(d+1),by omega,d+1,cs',u4,u7,rfl,h1,h2,h3,h4,h5,h6,h7⟩,?_⟩
  refine⟨_,rfl,_,rfl,_,rfl,lc,_,_,_,rfl,rfl,SqL.of hca,Z9 hcv,l,_,_,_,rfl,rfl,SqL.of (sa _ _ hl),Z9 hl',lr,rfl,⟨_,SqL.of (sa _ _ e2)⟩,?_⟩
  let jv3:Nat->L2.St->Hp->Prop:=fun i σ H'=>∃ (cs:List Nat) (v4 v7:Option V),d+1<=cs.length/\σ=[some (.ref l),some (.ref lg),some (.int p),some (.ref ld),v4,some (.ref lc),some (.int d),v7]/\Same H H'/\H' ld=some (.dK kvs)/\H' lc=some (.lst (cs.map fun k=>V.int (k:Nat)))/\cs.Nodup/\∀ c∈cs,S c
  refine Xv (K:=K) (a:=lr) (xs:=r.map V.int) jv3 ⟨cs,_,_,hdc,rfl,sa,hda,hca,nd,hcs⟩ (fun i σ H' _ ⟨_,_,_,_,_,s,_⟩=>SqL.of (s _ _ e2)) ?_ ?_
  ·rintro i y σ Hb hy ⟨cs',u4,u7,hdl',rfl,sb,hdb,hcb,nd',hcs'⟩;obtain⟨n,hn,rfl⟩:=zsu.mp (zsy hy);obtain⟨q',hq',hgq,hSq⟩:=hcn r hr' n hn;have hv:valV kvs (inl n:Key)=some (.int q'):=hks n q' hq' hgq;have hcl':=hbound cs' nd' hcs';have hflat:(cs'.map fun k=>V.int (k:Nat)).all Tf=true:=by rw[List.all_map];exact zui.mpr fun _ _=>rfl
   have hget:DGet Hb ld (.int n) (some (.int q')):=by rw[<- hv];exact DGet.k (k:=inl n) hdb
   refine⟨_,rfl,_,rfl,ld,_,rfl,hget,_,rfl,?_⟩;refine iteF ?_;refine⟨_,rfl,_,rfl,ld,_,rfl,hget,_,rfl,lc,_,rfl,.inl (SqL.of hcb),rfl,hflat,_,rfl,?_⟩;rw[if_pos rfl,zeg];refine itN (fun hnot=>?_) (fun hin=>?_)
   ·refine⟨_,rfl,lc,_,rfl,hcb,_,rfl,_,rfl,ld,_,rfl,hget,_,hcb,Vy (by rw[zsk];omega),?_⟩;refine⟨cs'++[q'],_,_,by rw[zsn];omega,rfl,Ya fc sb,by rw[Zh ncd];exact hdb,by rw[Zb,zsq];rfl,Kj nd' hnot,fun c' hc'=>?_⟩;rcases zsv.mp hc' with w|w
    ·exact hcs' c' w
    ·rw[zsp.mp w];exact hSq
   ·exact⟨cs',_,_,hdl',rfl,sb,hdb,hcb,nd',hcs'⟩
  ·rintro σ Hb ⟨cs',u4,u7,hdl',rfl,sb,hdb,hcb,nd',hcs'⟩;exact⟨_,rfl,_,_,rfl,rfl,cs',_,_,hdl',rfl,sb,hdb,hcb,nd',hcs'⟩
 ·exact h Ha sa
def Ig(K:Frag):Sp:=fun vs H Q _=>∃ (l lg:Addr) (ls:List Addr) (rows:List (List Int)) (gs:List V),vs=[.ref l,.ref lg]/\H l=some (.lst (ls.map V.ref))/\ILs H ls rows/\rows.length<=100/\H lg=some (.lst gs)/\Yt rows gs/\Ve rows gs/\∀ H',Same H H'->Q (.bl true) H'
abbrev X9:Stmt:=top 67
theorem Vr:Zl ["_law_may","_law_given","_law_k"] ["_law_may","_law_given"] (Zj X9):=fnS
theorem Rh(F:Fun K "_law_left_just_where" "_law_left_just_where" X9 f fd)(T:Tx K mg a)(zod:Z4 P w K mg base "_law_stuck" 1 ["_law_may","_law_given","_law_place"] (zap K)):FnOk P w K mg base (CX1 P w) 2 f fd ["_law_may","_law_given"] (Ig K):=by
 refine F.okX Vr ⋯ fun _ _ _ _ H _ Q E hr h=>?_;obtain⟨l,lg,ls,rows,gs,rfl,hl,il,hrl,hg,FP,SP,h⟩:=h;refine⟨_,(Zc (Yy PassesOwn.leaving rfl (Y5 rfl T.zk0 (Za (Zt (cL K) (by rfl) T.zkj PySem.boot_len (Za (pv 0) Zd)) Zd)) (pN 2 Vr.nd)
  (Ze (Z6 (PW.pt (Fe (Zo Nv (pI (iL K) (pv 1) (pv 2)) Y6 (Zw _)) (Fd (Vd (W3 (pF zod hr (Za (pv 0) (Za (pv 1) (Za (pv 2) Zd)))))))))
   (Ze (Zm We))
   Zs)))
 (Ze (Zm We))),?_⟩
 refine⟨_,rfl,l,_,rfl,.inl (SqL.of hl),_,rfl,by omega,by rw[zsk,il.length];omega,?_⟩;rw[zsk,il.length,zs0];refine Xl (fun i σ H'=>(∃ v2,σ=[some (.ref l),some (.ref lg),v2])/\Same H H') ⟨⟨_,rfl⟩,Same.refl _⟩ ?_ ?_
 ·rintro i σ H' hi ⟨⟨v2,rfl⟩,sm⟩;rw[ztx];have hgi:i<gs.length:=by rw[FP.len];exact hi
  have hx:gs[i]?=some (gs[i]'hgi):=zsl hgi;have hone:=FP.one _ (ztf hgi);generalize (gs[i]'hgi)=x at hx hone;refine⟨_,rfl,_,rfl,lg,_,_,_,rfl,rfl,SqL.of (sm _ _ hg),Z9 hx,rfl,_,rfl,?_⟩;rcases hone with rfl|⟨n,rfl⟩
  ·refine iteT ?_;refine⟨_,rfl,_,rfl,_,rfl,l,lg,ls,rows,gs,i,rfl,sm _ _ hl,il.same sm,hrl,sm _ _ hg,FP,hi,SP i hx,fun H2 s2=>⟨_,rfl,?_⟩⟩;exact iteF ⟨⟨_,rfl⟩,sm.trans s2⟩
  ·exact iteF ⟨⟨_,rfl⟩,sm⟩
 ·rintro σ H' ⟨⟨v2,rfl⟩,sm⟩;exact h H' sm
abbrev Qm:Stmt:=top 68
theorem Nt:Zl ["_law_rounds_here","_law_rest_here","_law_page"] ["_law_rounds_here","_law_rest_here"] (Zj Qm):=fnS
theorem Ej(F:Fun K "_law_first" "_law_first" Qm f fd)(T:Tx K mg a):FnOk P w K mg base (CX1 P w) 1 f fd ["_law_rounds_here","_law_rest_here"] zam:=by
 refine F.okX Nt ⋯ fun _ _ _ _ H _ Q E hr h=>?_;obtain⟨r,q,rfl,h⟩:=h;have hu:=Wa hr;refine⟨_,(Zc (pS 2 Nt.nd (Ar (Ur Zr (pv 0) (Ur Zr (pv 1) (Ur Zr (Z8 Zd) (Ur Zr (Z8 Zd) (Ur Zr (Z8 Zd) (Ur Zr Y6 Aq)))))) rfl rfl (by simp) ⋯))
 (Zc (Yq hu (pv 2) Zr Y6 rfl)
 (Zc (Yq hu (pv 2) Zr (Z8 Zd) rfl)
 (Zc (Yq hu (pv 2) Zr (Z8 Zd) rfl)
 (Ze (Zm (pv 2))))))),?_⟩
 have sz0:([]:List V).length<=sizeLine:=zs9 _;refine fun p fp=>?_;have s1:=Zf (o:=.dK []) fp;have p1:(upd H p (.dK [])) p=some (.dK []):=Zb;generalize upd H p (.dK [])=H1 at s1 p1 ⊢;refine⟨_,rfl,_,rfl,sz0,fun l1 f1=>?_⟩;have s2:=Zf (o:=.lst []) f1;have a1:(upd H1 l1 (.lst [])) l1=some (.lst []):=Zb;have n1:l1≠p:=fun z=>by rw[z,p1] at f1;cases f1
 generalize upd H1 l1 (.lst [])=H2 at s2 a1 ⊢;refine⟨sz0,fun l2 f2=>?_⟩;have s3:=Zf (o:=.lst []) f2;have a2:(upd H2 l2 (.lst [])) l2=some (.lst []):=Zb;have n2:l2≠p:=fun z=>by rw[z,s2 _ _ p1] at f2;cases f2
 generalize upd H2 l2 (.lst [])=H3 at s3 a2 ⊢;refine⟨sz0,fun l3 f3=>?_⟩;have s4:=Zf (o:=.lst []) f3;have a3:(upd H3 l3 (.lst [])) l3=some (.lst []):=Zb;have n3:l3≠p:=fun z=>by rw[z,s3 _ _ (s2 _ _ p1)] at f3;cases f3
 generalize upd H3 l3 (.lst [])=H4 at s4 a3 ⊢;refine⟨s4 _ _ (s3 _ _ (s2 _ _ p1)),pg6 r q l1 l2 l3 .non,rfl,(show 6<=15 by decide),?_⟩;rw[zbz];have s5:=Ya (o:=.dK (pg6 r q l1 l2 l3 .non)) fp (s1.trans (s2.trans (s3.trans s4)));have p5:(upd H4 p (.dK (pg6 r q l1 l2 l3 .non))) p=some (.dK (pg6 r q l1 l2 l3 .non)):=Zb;have b1:(upd H4 p (.dK (pg6 r q l1 l2 l3 .non))) l1=some (.lst []):=by rw[Zh n1];exact s4 _ _ (s3 _ _ a1)
 have b2:(upd H4 p (.dK (pg6 r q l1 l2 l3 .non))) l2=some (.lst []):=by rw[Zh n2];exact s4 _ _ a2
 have b3:(upd H4 p (.dK (pg6 r q l1 l2 l3 .non))) l3=some (.lst []):=by rw[Zh n3];exact a3
 generalize upd H4 p (.dK (pg6 r q l1 l2 l3 .non))=H5 at s5 p5 b1 b2 b3 ⊢;walk_at "if";refine⟨_,rfl,p,_,rfl,DPut.k (k:=inr "listed") p5 (N8 (x:=.non) (y:=.non)).1,?_⟩;have s6:=Ya (o:=.dK (putK (pg6 r q l1 l2 l3 .non) (.inr "listed") .non)) fp s5;have p6:(upd H5 p (.dK (putK (pg6 r q l1 l2 l3 .non) (.inr "listed") .non))) p=some (.dK (putK (pg6 r q l1 l2 l3 .non) (.inr "listed") .non)):=Zb;have c1:=(Zh (H:=H5) (o:=.dK (putK (pg6 r q l1 l2 l3 .non) (.inr "listed") .non)) n1).trans b1;have c2:=(Zh (H:=H5) (o:=.dK (putK (pg6 r q l1 l2 l3 .non) (.inr "listed") .non)) n2).trans b2;have c3:=(Zh (H:=H5) (o:=.dK (putK (pg6 r q l1 l2 l3 .non) (.inr "listed") .non)) n3).trans b3;generalize upd H5 p (.dK (putK (pg6 r q l1 l2 l3 .non) (.inr "listed") .non))=H6 at s6 p6 c1 c2 c3 ⊢;refine⟨sz0,fun l4 f4=>?_⟩;have s7:=Zf (o:=.lst []) f4;have a4:(upd H6 l4 (.lst [])) l4=some (.lst []):=Zb;have n4:l4≠p:=fun z=>by rw[z,p6] at f4;cases f4
 generalize upd H6 l4 (.lst [])=H7 at s7 a4 ⊢;refine⟨_,rfl,p,_,rfl,DPut.k (k:=inr "goes") (s7 _ _ p6) (N8 (y:=.non)).2.1,?_⟩;have s8:=Ya (o:=.dK (putK (putK (pg6 r q l1 l2 l3 .non) (.inr "listed") .non) (.inr "goes") (.ref l4))) fp (s6.trans s7);have p8:(upd H7 p (.dK (putK (putK (pg6 r q l1 l2 l3 .non) (.inr "listed") .non) (.inr "goes") (.ref l4)))) p=some (.dK (putK (putK (pg6 r q l1 l2 l3 .non) (.inr "listed") .non) (.inr "goes") (.ref l4))):=Zb;have d1:=(Zh (H:=H7) (o:=.dK (putK (putK (pg6 r q l1 l2 l3 .non) (.inr "listed") .non) (.inr "goes") (.ref l4))) n1).trans (s7 _ _ c1);have d2:=(Zh (H:=H7) (o:=.dK (putK (putK (pg6 r q l1 l2 l3 .non) (.inr "listed") .non) (.inr "goes") (.ref l4))) n2).trans (s7 _ _ c2);have d3:=(Zh (H:=H7) (o:=.dK (putK (putK (pg6 r q l1 l2 l3 .non) (.inr "listed") .non) (.inr "goes") (.ref l4))) n3).trans (s7 _ _ c3);have d4:=(Zh (H:=H7) (o:=.dK (putK (putK (pg6 r q l1 l2 l3 .non) (.inr "listed") .non) (.inr "goes") (.ref l4))) n4).trans a4;generalize upd H7 p (.dK (putK (putK (pg6 r q l1 l2 l3 .non) (.inr "listed") .non) (.inr "goes") (.ref l4)))=H8 at s8 p8 d1 d2 d3 d4 ⊢;refine⟨sz0,fun l5 f5=>?_⟩;have s9:=Zf (o:=.lst []) f5;have a5:(upd H8 l5 (.lst [])) l5=some (.lst []):=Zb;have n5:l5≠p:=fun z=>by rw[z,p8] at f5;cases f5
 generalize upd H8 l5 (.lst [])=H9 at s9 a5 ⊢;refine⟨_,rfl,p,_,rfl,DPut.k (k:=inr "moves") (s9 _ _ p8) N8.2.2,?_⟩;rw[zfm];refine⟨_,rfl,h p _ ?_ (Ya fp (s8.trans s9)) fp⟩;have fr:∀ x,H4 x=none->H x=none:=fun x hx=>s1.free (s2.free (s3.free (s4.free hx)));exact⟨l1,l2,l3,.non,.non,l4,l5,[],[],[],[],Zb,(Zh n1).trans (s9 _ _ d1),.nil,(Zh n2).trans (s9 _ _ d2),.nil,(Zh n3).trans (s9 _ _ d3),.nil,rfl,rfl,(Zh n4).trans (s9 _ _ d4),(Zh n5).trans a5,.nil,
  fp,s1.free f1,s1.free (s2.free f2),s1.free (s2.free (s3.free f3)),s6.free f4,s8.free f5⟩
abbrev Mo:Stmt:=top 69
theorem Va:Zl ["_law_page","_law_met_here","_law_listed","_law_goes","_law_moves","_law_may","_law_k"] ["_law_page"] (Zj Mo):=fnS
theorem Aj(F:Fun K "_law_met" "_law_met" Mo f fd)(T:Tx K mg a):FnOk P w K mg base (CX1 P w) 1 f fd ["_law_page"] (zan K):=by
 refine F.okX Va ⋯ fun _ _ _ _ H _ Q E hr h=>?_;obtain⟨ok,d,P0,rfl,PA,PO,h⟩:=h;have hu:=Wa hr;refine⟨_,(Zc (pS 1 Va.nd Ku)
 (Zc (Yy PassesOwn.leaving rfl (Yj (K:=K) rfl (E4 (De (K:=K) rfl) (pD hu (pv 0) Zr) (Au (Zt (Gb rfl) (by rfl) T.zpz PyProof.Rows.boot_max (Za Zi (Za (Zq Ru (Zt (cL K) (by rfl) T.zkj PySem.boot_len (Za (pD hu (pv 0) Zr) Zd)) (pD hu (pv 0) Zr)) Zd)))) As)) (Wm (K:=K) (n:=4) rfl rfl (Zy (pN 2 Va.nd) (Zy (pN 3 Va.nd) (Zy (pN 4 Va.nd) (Zy (pN 5 Va.nd) Wl)))))
  (Ze (Yy PassesOwn.leaving rfl (Y5 rfl T.zk0 (Za (Zt (cL K) (by rfl) T.zkj PySem.boot_len (Za (pv 2) Zd)) Zd)) (pN 6 Va.nd)
   (Ze (Z6 (Zo Te (pI (iL K) (pv 3) (pv 6)) Y6 (Zw _))
    (Zc (Yq hu (pv 1) (Yc (Za (pI (iL K) (pv 3) (pv 6)) (Za (pI (iU K) (pI (iL K) (pv 2) (pv 6)) Zi) Zd))) We rfl)
    (Ze (Yq hu (pv 1) (Yc (Za (pI (iL K) (pv 3) (pv 6)) (Za (pI (iU K) (pI (iL K) (pv 2) (pv 6)) Zi) Zd))) We rfl)))
    Zs)))))
 (Ze (Zm (pv 1))))),?_⟩
 obtain⟨lp,lo,lv,dv,li,lg,lm,pts,ots,vts,mts,a1,a2,a3,a4,a5,a6,a7,a8,a9,b1,b2,b3,o1,o2,o3,o4,o5,o6⟩:=PA;refine fun m fm=>?_;have s1:=Zf (o:=.dT []) fm;have m1:(upd H m (.dT [])) m=some (.dT []):=Zb;generalize upd H m (.dT [])=H1 at s1 m1 ⊢;walk_at "if";refine⟨_,rfl,d,_,rfl,DGet.k (k:=.inr "over") (s1 _ _ a1),?_⟩;refine⟨_,rfl,d,_,rfl,DGet.k (k:=.inr "over") (s1 _ _ a1),lv,vts,rfl,.inl (SqL.of (s1 _ _ a6)),_,rfl,d,_,rfl,DGet.k (k:=.inr "rest") (s1 _ _ a1),_,_,rfl,rfl,_,_,rfl,_,rfl,lv,vts,rfl,SqL.of (s1 _ _ a6),fun c fc=>?_⟩;have e0:=zd6 vts vts.length P0.rest;rw[a7.length] at e0;have ez:(vts.length:Int)=(P0.over.length:Int):=by rw[a7.length]
 rw[ez,e0];obtain⟨k0,hk0⟩:∃ k:Nat,k=((P0.over.length:Int)-P0.rest).toNat:=⟨_,rfl⟩;rw[<- hk0];have s2:=Zf (o:=.lst (vts.drop k0)) fc;have c2:(upd H1 c (.lst (vts.drop k0))) c=some (.lst (vts.drop k0)):=Zb;have ncm:c≠m:=fun z=>by rw[z,m1] at fc;cases fc
 have OV:Xb ok (upd H1 c (.lst (vts.drop k0))) (vts.drop k0) (P0.over.drop k0):=(a7.drop k0).keep (fun x o _ z=>s2 _ _ (s1 _ _ z)) (fun x o z=>s2 _ _ (s1 _ _ z));have m2:=s2 _ _ m1;generalize upd H1 c (.lst (vts.drop k0))=H2 at s2 c2 OV m2 ⊢;have hin:∀ s∈P0.over.drop k0,s∈P0.over:=fun s hs=>List.mem_of_mem_drop hs;have hlen:(P0.over.drop k0).length<=100:=by rw[List.length_drop];have:=PO.1;omega
 generalize vts.drop k0=ds at c2 OV ⊢;refine⟨c,rfl,⟨_,SqL.of c2⟩,Xv (K:=K) (a:=c) (xs:=ds) (fun i σ H'=>(∃ v1 v2 v3 v4 v5,σ=[some (.ref d),some (.ref m),v1,v2,v3,v4,v5])/\(∀ x o,H2 x=some o->x≠m->H' x=some o) /\
  ∃ kvs,H' m=some (.dT kvs)/\Oe kvs (P0.over.drop k0) i 0/\kvs.length<=40*i) ⟨⟨_,_,_,_,_,rfl⟩,fun _ _ e _=>e,[],m2,.zero _,by simp⟩ (fun i σ H' _ ⟨_,k,_⟩=>SqL.of (k _ _ c2 ncm)) ?_ ?_⟩
 ·rintro i x σ H' hx ⟨⟨v1,v2,v3,v4,v5,rfl⟩,k2,kvs,hm,mi,kl⟩;obtain⟨t,l,g,mm,y,ts,s,rfl,hs,ht,hl,tl,hg,_,_⟩:=OV.get hx;have htn:t≠m:=Yp ht m2 (by intro z;cases z);have hln:l≠m:=Yp hl m2 (by intro z;cases z);have hgn:g≠m:=Yp hg m2 (by intro z;cases z);refine⟨t,_,rfl,SqT.of (k2 _ _ ht htn),rfl,_,_,rfl,_,_,rfl,_,_,rfl,_,_,rfl,rfl,?_⟩;have hsz:=PO.2.2 s (hin s (zsy hs));have hi:i<ds.length:=(zsm.mp hx).1;have hdl:=OV.length;have tln:ts.length=s.ms.length:=by rw[tl.length,zsk]
  have rln:(Z5 s).length=s.ms.length:=by unfold Z5;rw[zuk,hsz.2.1,Nat.min_self]
  refine⟨_,rfl,l,ts,rfl,.inl (SqL.of (k2 _ _ hl hln)),_,rfl,by omega,by omega,Xl (fun j σ H'=>(∃ v,σ=[some (.ref d),some (.ref m),some (.ref l),some (.ref g),some (.ref mm),some (.ref y),v])/\(∀ x o,H2 x=some o->x≠m->H' x=some o) /\
   ∃ kvs,H' m=some (.dT kvs)/\Oe kvs (P0.over.drop k0) i j/\kvs.length<=40*i+2*j) ⟨⟨_,rfl⟩,k2,kvs,hm,mi,by omega⟩ ?_ ?_⟩
  ·rintro j σ H3 hj ⟨⟨v,rfl⟩,k3,kvs3,hm3,mi3,kl3⟩;rw[zs0] at hj;rw[ztx];have hj2:j<s.gv.length:=by omega
   have hg3:s.gv[j]?=some (s.gv[j]'hj2):=zsl hj2;have hone:=hsz.2.2 _ (ztf hj2);generalize s.gv[j]'hj2=xv at hg3 hone;have ht3:ts[j]?=some (ts[j]'hj):=zsl hj;obtain⟨tj,mj,e1,hmj,htj⟩:=K1 tl ht3;rw[e1] at ht3;have htjn:tj≠m:=Yp htj m2 (by intro z;cases z);have hr3:(Z5 s)[j]?=some (K5 mj xv):=by unfold Z5;rw[List.getElem?_zipWith,hmj,hg3]
   refine⟨_,rfl,_,rfl,g,_,_,_,rfl,rfl,SqL.of (k3 _ _ hg hgn),Z9 hg3,rfl,_,rfl,?_⟩;rcases hone with rfl|⟨w,rfl⟩
   ·refine iteF ?_;exact⟨⟨_,rfl⟩,k3,kvs3,hm3,mi3.none hs hr3 rfl,by omega⟩
   ·refine iteT ?_;refine⟨_,rfl,_,rfl,_,rfl,g,_,_,_,rfl,rfl,SqL.of (k3 _ _ hg hgn),Z9 hg3,?_⟩;have big:∀ n:Nat,n<=200000->n<sizeLine:=fun n hn=>Nat.lt_trans (zt0 hn ⋯) Uu;refine⟨_,rfl,_,rfl,l,_,_,_,rfl,rfl,SqL.of (k3 _ _ hl hln),Z9 ht3,tj,_,_,_,rfl,rfl,SqT.of (k3 _ _ htj htjn),rfl,sz2,fun t2 ht2=>⟨m,_,rfl,DPut.t (k:=[inl w,inl mj.1]) (by rw[Zh (Zg hm3 ht2)];exact hm3) Zb (big _ ⋯),?_⟩⟩;have k4:∀ x o,H2 x=some o->x≠m->upd (upd H3 t2 (.tup [.int w,.int mj.1])) m (.dT (putK kvs3 [inl w,inl mj.1] (.bl true))) x=some o:=fun x o e n=>by
     have:=k3 x o e n;rw[Zh n,Zh (Zg this ht2)];exact this
    have hm4:upd (upd H3 t2 (.tup [.int w,.int mj.1])) m (.dT (putK kvs3 [inl w,inl mj.1] (.bl true))) m=some (.dT (putK kvs3 [inl w,inl mj.1] (.bl true))):=Zb;have l4:=Y3 kvs3 ([inl w,inl mj.1]:List Key) (.bl true);generalize upd (upd H3 t2 (.tup [.int w,.int mj.1])) m (.dT (putK kvs3 [inl w,inl mj.1] (.bl true)))=H4 at k4 hm4 ⊢;refine⟨_,rfl,_,rfl,_,rfl,g,_,_,_,rfl,rfl,SqL.of (k4 _ _ hg hgn),Z9 hg3,?_⟩;refine⟨_,rfl,_,rfl,l,_,_,_,rfl,rfl,SqL.of (k4 _ _ hl hln),Z9 ht3,tj,_,_,_,rfl,rfl,SqT.of (k4 _ _ htj htjn),rfl,sz2,fun t4 ht4=>⟨m,_,rfl,DPut.t (k:=[inl w,inl mj.2.1]) (by rw[Zh (Zg hm4 ht4)];exact hm4) Zb (big _ ⋯),?_⟩⟩;have l5:=Y3 (putK kvs3 ([inl w,inl mj.1]:List Key) (.bl true)) ([inl w,inl mj.2.1]:List Key) (.bl true);refine⟨⟨_,rfl⟩,fun x o e n=>?_,_,Zb,mi3.some hs hr3 rfl,by omega⟩;have:=k4 x o e n;rw[Zh n,Zh (Zg this ht4)];exact this
  ·rintro σ H3 ⟨⟨v,rfl⟩,k3,kvs3,hm3,mi3,kl3⟩;rw[zs0] at mi3 kl3;rw[tln,<- rln] at mi3;exact⟨⟨_,_,_,_,_,rfl⟩,k3,kvs3,hm3,mi3.next hs,by omega⟩
 ·rintro σ H' ⟨⟨v1,v2,v3,v4,v5,rfl⟩,k2,kvs,hm,mi,kl⟩;rw[OV.length] at mi;refine⟨_,rfl,h m kvs H' hm (mi.all hk0) (fun x o e=>k2 _ _ (s2 _ _ (s1 _ _ e)) (Zg e fm)) fm⟩
abbrev Ou:Stmt:=top 70
theorem X0:Zl ["_law_page","_law_met_here","_law_person","_law_match","_law_number","_law_grade","_law_club","_law_home","_law_guest","_law_asked","_law_told"] ["_law_page","_law_met_here","_law_person","_law_match"] (Zj Ou):=fnS
theorem Cu(F:Fun K "_law_bars" "_law_bars" Ou f fd)(T:Tx K mg a):FnOk P w K mg base (CX1 P w) 1 f fd ["_law_page","_law_met_here","_law_person","_law_match"] (Cn K):=by
 refine F.okX X0 ⋯ fun _ _ _ _ H _ Q E hr h=>?_;obtain⟨ok,d,m,t1,t2,P0,kvs,x,y,rfl,PA,hm,mo,h1,h2,h⟩:=h;have hu:=Wa hr;refine⟨_,(Zc (Ko (pv 2) (Wm (K:=K) (n:=3) rfl rfl (Zy (pN 4 X0.nd) (Zy (pN 5 X0.nd) (Zy (pN 6 X0.nd) Wl)))))
 (Zc (Ko (pv 3) (Wm (K:=K) (n:=3) rfl rfl (Zy (pN 7 X0.nd) (Zy (pN 8 X0.nd) (Zy (pN 9 X0.nd) Wl)))))
 (Zc (pS 10 X0.nd (Z8 Zd))
 (Zc (Z6 (Zo (F7 (K:=K) rfl hr.units) (Yc (Za (Zq Yg (Zt (cL K) (by rfl) T.zkj PySem.boot_len (Za (pD hu (pv 0) Zr) Zd)) Zi) (Za (pv 4) Zd))) (pD hu (pv 0) Zr) (by with_unfolding_all rfl))
  (Ze (Yk (pv 10) Zr))
  Zs)
 (Zc (Z6 (Zo Rw (pv 9) (pv 5) (Zw _))
  (Ze (Yk (pv 10) Zr))
  Zs)
 (Zc (Z6 (PW.pt (Td (Zo Vt (pv 6) (pv 7) (Zw _)) (Vx (Zo Vt (pv 6) (pv 8) (Zw _)))))
  (Ze (Yk (pv 10) Zr))
  Zs)
 (Zc (Z6 (PW.pt (Td (Uq (Pt hu (Yc (Za (pv 4) (Za (pv 7) Zd))) (pv 1))) (Vx (Uq (Pt hu (Yc (Za (pv 4) (Za (pv 8) Zd))) (pv 1))))))
  (Ze (Yk (pv 10) Zr))
  Zs)
 (Ze (Zm (pv 10)))))))))),?_⟩
 show let y1:TS:=_;let y2:TS:=Z0 _ y1;let y3:TS:=Z0 _ y2;let y4:TS:=Z0 _ y3;let y5:TS:=Z0 _ y4;let y6:TS:=Z0 _ y5;let y7:TS:=Z0 _ y6;Z0 _ y7 _ _ _;intro y1 y2 y3 y4 y5 y6 y7;obtain⟨n,g,c⟩:=x;obtain⟨ho,gu,as⟩:=y;have h1:H t1=some (.tup [.int n,.int g,.int c]):=h1;have h2:H t2=some (.tup [.int ho,.int gu,.int as]):=h2;obtain⟨lp,lo,lv,dv,li,lg,lm,pts,ots,vts,mts,a1,a2,a3,a4,a5,a6,a7,a8,a9,c1,c2,c3,o1,o2,o3,o4,o5,o6⟩:=PA;refine⟨_,rfl,t1,_,rfl,SqT.of h1,rfl,_,_,rfl,_,_,rfl,_,_,rfl,rfl,?_⟩;refine⟨_,rfl,t2,_,rfl,SqT.of h2,rfl,_,_,rfl,_,_,rfl,_,_,rfl,rfl,?_⟩;refine⟨by show 0<=sizeLine;decide,fun l hl=>?_⟩;have s1:=Zf (o:=.lst []) hl;have q1:upd H l (.lst []) l=some (.lst (([]:List Str).map V.str)):=Zb;generalize upd H l (.lst [])=H1 at s1 q1;walk_at "if";have b1:=N3 (decide (((P0.over.length:Int)+1,n)∈P0.out)) "away";have b2:=N3 (decide (g<as)) "grade";have b3:=N3 (decide (c=ho)||decide (c=gu)) "club";refine Th (b:=decide (((P0.over.length:Int)+1,n)∈P0.out)) (H0:=H) (fun Q q=>?_) hl s1 q1 ⋯ rfl (fun H2 s2 q2 _=>?_)
 ·refine⟨_,rfl,d,_,rfl,DGet.k (k:=.inr "over") (s1 _ _ a1),lv,vts,rfl,.inl (SqL.of (s1 _ _ a6)),_,_,rfl,rfl,_,rfl,sz2,fun t ht=>?_⟩;have s3:=Zf (o:=.tup [.int ((vts.length:Int)+1),.int n]) ht;refine⟨_,rfl,d,_,rfl,DGet.k (k:=.inr "out") (s3 _ _ (s1 _ _ a1)),t,lo,ots,_,_,P0.out,rfl,rfl,SqT.of Zb,SqL.of (s3 _ _ (s1 _ _ a4)),(a5.mono fun _ _ z=>s3 _ _ (s1 _ _ z)),_,rfl,?_⟩;rw[a7.length] at s3 ⊢;exact q _ s3
 rw[List.nil_append] at q2;have din:∀ (H3:Hp) (cc:Int) (Q3:Bool->Hp->Prop),Same H H3->(∀ H4,Same H3 H4->Q3 (Rj (P0.over.map Z5) n cc P0.rest) H4)->∀ t,H3 t=none->Q3 (valV kvs [inl n,inl cc]).isSome (upd H3 t (.tup [.int n,.int cc])):=fun H3 cc Q3 s3 q3 t ht=>by
  rw[mo n cc];exact q3 _ (Zf ht)
 refine Th (b:=decide (g<as)) (H0:=H) (Qx fun Q q=>⟨_,rfl,_,rfl,_,_,rfl,rfl,_,rfl,q⟩) hl s2 q2 ⋯ rfl (fun H3 s3 q3 _=>?_);refine Th (b:=decide (c=ho)||decide (c=gu)) (H0:=H) (Qx (O5 (fun Q q=>⟨_,rfl,_,rfl,rfl,_,rfl,R0▸q⟩) (fun Q q=>⟨_,rfl,_,rfl,rfl,_,rfl,R0▸q⟩))) hl s3 q3 (by rw[zsn];omega) rfl (fun H4 s4 q4 _=>?_);refine Th (b:=Rj (P0.over.map Z5) n ho P0.rest||Rj (P0.over.map Z5) n gu P0.rest) (H0:=H) (Dj (fun Q q=>?_) (fun H5 s5 Q q=>?_)) hl s4 q4 (by rw[zsn,zsn];omega) rfl (fun H5 s5 q5 _=>?_)
 ·exact⟨_,rfl,_,rfl,sz2,fun t ht=>⟨_,rfl,m,_,rfl,DGet.t (k:=[inl n,inl ho]) (Zf ht _ _ (s4 _ _ hm)) Zb,_,rfl,din _ ho _ s4 q t ht⟩⟩
 ·exact⟨_,rfl,_,rfl,sz2,fun t ht=>⟨_,rfl,m,_,rfl,DGet.t (k:=[inl n,inl gu]) (Zf ht _ _ (s5 _ _ (s4 _ _ hm))) Zb,_,rfl,din _ gu _ (s4.trans s5) q t ht⟩⟩
 refine⟨_,rfl,h l H5 ?_ s5 hl⟩;unfold Q9 whyS;rw[q5,zt3,zt3]
abbrev Ov:Stmt:=top 71
theorem Ua:Zl ["_law_page","_law_met_here","_law_may","_law_match","_law_fit"] ["_law_page"] (Zj Ov):=fnS
theorem Cv(F:Fun K "_law_open" "_law_open" Ov f fd)(T:Tx K mg a)(zo8:Z4 P w K mg base "_law_met" 1 ["_law_page"] (zan K))(zom:Z4 P w K mg base "_law_bars" 1 ["_law_page","_law_met_here","_law_person","_law_match"] (Cn K)):FnOk P w K mg base (CX1 P w) 2 f fd ["_law_page"] (B0 K):=by
 refine F.okX Ua ⋯ fun _ _ _ _ H _ Q E hr h=>?_;obtain⟨ok,d,P0,ms,rfl,PA,PO,hms,hl1,hl2,h⟩:=h;have hu:=Wa hr;refine⟨_,(Zc (pS 1 Ua.nd (pF zo8 hr (Za (pv 0) Zd)))
 (Zc (pS 2 Ua.nd (Z8 Zd))
 (Zc (Yy PassesOwn.leaving rfl (Yj (K:=K) rfl (pD hu (pv 0) Zr)) (pN 3 Ua.nd)
  (Zc (Tp (i:=4) Ua.nd rfl rfl rfl (cT ["_law_page","_law_met_here","_law_match"] [0,1,3]) (Yj (K:=K) rfl (pD hu (pv 0) Zr)) (fun _ _ _ _ _=>Kk (Zo (ze7 (K:=K) rfl hr.units) (Dd zom (hr.mono ⋯) Dc rfl (Za (pv 1) (Za (pv 2) (Za (pv 0) (Za (pv 3) Zd))))) (Z8 Zd) (Zw _))) (fun _ _ _ _ _=>(pv 0)))
  (Ze (Yk (pv 2) (V9 rfl (cT [] []) (Yj (K:=K) rfl (pv 4)) (fun _ _ _ _ _=>V7) (fun _ _ _ _ _=>(pI (iU K) (pv 0) Zi)))))))
 (Ze (Zm (pv 2)))))),?_⟩
 refine⟨_,rfl,ok,d,P0,rfl,PA,PO,fun m kvs H1 hm mo s1 fm=>?_⟩;obtain⟨lp,lo,lv,dv,li,lg,lm,pts,ots,vts,mts,a1,a2,a3,a4,a5,a6,a7,a8,a9,c1,c2,c3,o1,o2,o3,o4,o5,o6⟩:=id PA;refine⟨by show 0<=sizeLine;decide,fun r hr'=>?_⟩;have s2:=s1.trans (Zf (o:=.lst []) hr');have q2:upd H1 r (.lst []) r=some (.lst []):=Zb;have hm2:upd H1 r (.lst []) m=some (.dT kvs):=Zf hr' _ _ hm;have fr:=s1.free hr';walk_at "if";generalize upd H1 r (.lst [])=H2 at s2 q2 hm2 ⊢;rw[hms] at a9;obtain⟨ll,ts,rfl,hll,tl,_⟩:=a9;have htl:ts.length=ms.length:=by rw[tl.length,zsk]
 have hpl:pts.length=P0.ppl.length:=by rw[a3.length,zsk]
 have hmr:m≠r:=fun z=>by rw[z,q2] at hm2;cases hm2
 refine⟨_,rfl,d,_,rfl,DGet.k (k:=.inr "listed") (s2 _ _ a1),ll,rfl,⟨_,SqL.of (s2 _ _ hll)⟩,Xv (K:=K) (a:=ll) (xs:=ts) (fun i σ H'=>(∃ v1 v2,σ=[some (.ref d),some (.ref m),some (.ref r),v1,v2])/\(∀ x o,H2 x=some o->x≠r->H' x=some o) /\
  ∃ ls,H' r=some (.lst (ls.map V.ref))/\ILs H' ls ((Qd P0 ms).take i)/\ls.length=i/\∀ x∈ls,H x=none/\x≠r) ⟨⟨_,_,rfl⟩,fun _ _ e _=>e,[],q2,.nil,rfl,by simp⟩ (fun i σ H' _ ⟨_,k,_⟩=>SqL.of (k _ _ (s2 _ _ hll) (Zg hll fr))) ?_ ?_⟩
 ·rintro i x σ H' hx ⟨⟨v1,v2,rfl⟩,k2,ls,hr3,il,hln,hfr⟩;obtain⟨t,mm,rfl,hmm,ht⟩:=K1 tl hx;have sh:Same H H':=fun x o e=>k2 _ _ (s2 _ _ e) (Zg e fr);refine⟨_,rfl,d,_,rfl,DGet.k (k:=.inr "people") (sh _ _ a1),lp,rfl,⟨_,SqL.of (sh _ _ a2)⟩,?_⟩;refine Vc (K:=K) (a:=lp) (xs:=pts) (fun i ys H''=>Same H' H''/\Yb H'' ys (((P0.ppl.take i).filter fun x=>(Q9 P0 x mm).isEmpty).map pV)) ⟨Same.refl _,.nil⟩ (fun i ys H'' _ ⟨z,_⟩=>SqL.of (z _ _ (sh _ _ a2))) (szN ⋯) (fun i ys H' ⟨_,e⟩=>by rw[e.length,zsk];exact zs2 (ztt _ _) (zua _ _)) ?_ ?_
  ·rintro j x ys H3 hx3 ⟨s3,tl3⟩;obtain⟨tp,pp,rfl,hpp,htp⟩:=K1 a3 hx3;have sh3:=sh.trans s3;refine⟨_,rfl,_,rfl,_,rfl,_,rfl,ok,d,m,tp,t,P0,kvs,pp,mm,rfl,PA.same sh3,s3 _ _ (k2 _ _ hm2 hmr),mo,sh3 _ _ htp,sh3 _ _ ht,fun lw H4 hlw s4 fw=>?_⟩;refine⟨by show 0<=sizeLine;decide,fun le hle=>?_⟩;have s5:=s4.trans (Zf (o:=.lst []) hle);refine⟨_,_,.lst (SqL.of (Zf hle _ _ hlw)) (Jh _),.lst (SqL.of Zb) .nil,zfo _ zfp,zab,_,rfl,?_⟩;generalize upd H4 le (.lst [])=H5 at s5 ⊢;rw[if_neg (show ¬ false=true by decide),zac];have e:P0.ppl.take (j+1)=P0.ppl.take j++[pp]:=X8 hpp;rw[e,zuq,zsq];refine itB (fun hb=>?_) (fun hb=>?_)
   ·refine⟨_,rfl,s3.trans s5,?_⟩;rw[zt9 (p:=fun x=>(Q9 P0 x mm).isEmpty) (a:=pp) hb,List.filter_nil];exact(tl3.same s5).snoc (s5 _ _ (sh3 _ _ htp))
   ·refine⟨s3.trans s5,?_⟩;rw[zt8 (p:=fun x=>(Q9 P0 x mm).isEmpty) (a:=pp) (by rw[hb];decide),List.filter_nil,List.map_nil,zup];exact tl3.same s5
  ·rintro ys H3 ⟨s3,tl3⟩ lf hlf;rw[hpl,zs7] at tl3;have s4:=s3.trans (Zf (o:=.lst ys) hlf);have q4:upd H3 lf (.lst ys) lf=some (.lst ys):=Zb;have tl4:=tl3.same (Zf (o:=.lst ys) hlf);show Vb 4 (V.ref lf) _ (upd H3 lf (.lst ys)) _;generalize upd H3 lf (.lst ys)=H4 at s4 q4 tl4 ⊢;have hfl:ys.length<=100:=by rw[tl3.length,zsk];exact zs2 (ztt _ _) hl2
   walk_at "if";refine⟨_,rfl,r,_,rfl,s4 _ _ hr3,_,rfl,lf,rfl,⟨_,SqL.of q4⟩,Vc (K:=K) (a:=lf) (xs:=ys) (fun i zs H''=>Same H4 H''/\zs=((P0.ppl.filter fun x=>(Q9 P0 x mm).isEmpty).take i).map fun x=>V.int x.1) ⟨Same.refl _,rfl⟩ (fun i zs H'' _ ⟨z,_⟩=>SqL.of (z _ _ q4)) (szN ⋯) (fun i zs H'' ⟨_,e⟩=>by rw[e,zsk];exact zua _ _) ?_ ?_⟩
   ·rintro j x zs H5 hx5 ⟨s5,rfl⟩;obtain⟨tp,pp,rfl,hpp,htp⟩:=K1 tl4 hx5;unfold tYes;dsimp only;rw[if_pos rfl];refine⟨_,rfl,tp,_,_,_,rfl,rfl,SqT.of (s5 _ _ htp),(show atI (pV pp) 0=some _ from rfl),s5,?_⟩;rw[X8 hpp,zsq];rfl
   ·rintro zs H5 ⟨s5,rfl⟩ ln hln';have hyl:ys.length=(P0.ppl.filter fun x=>(Q9 P0 x mm).isEmpty).length:=by rw[tl3.length,zsk]
    rw[hyl,zs7];have er:(P0.ppl.filter fun x=>(Q9 P0 x mm).isEmpty).map (fun x=>V.int x.1)=((P0.ppl.filter fun x=>(Q9 P0 x mm).isEmpty).map (·.1)).map V.int:=by rw[zt7];rfl
    rw[er];have s6:=(s4.trans s5).trans (Zf (o:=.lst (((P0.ppl.filter fun x=>(Q9 P0 x mm).isEmpty).map (·.1)).map V.int)) hln');have q6:upd H5 ln (.lst (((P0.ppl.filter fun x=>(Q9 P0 x mm).isEmpty).map (·.1)).map V.int)) ln=some (.lst (((P0.ppl.filter fun x=>(Q9 P0 x mm).isEmpty).map (·.1)).map V.int)):=Zb;have fl:H' ln=none:=(s4.trans s5).free hln';dsimp only;generalize upd H5 ln (.lst (((P0.ppl.filter fun x=>(Q9 P0 x mm).isEmpty).map (·.1)).map V.int))=H6 at s6 q6 ⊢;refine⟨_,s6 _ _ hr3,szN (by rw[zsk];have:=(zsm.mp hx).1;omega),⟨_,_,rfl⟩,fun x o e n=>by rw[Zh n];exact s6 _ _ (k2 _ _ e n),ls++[ln],by rw[zsq];exact Zb,?_,by rw[zsn,hln];rfl,fun y hy=>?_⟩
    ·have e:(Qd P0 ms).take (i+1)=(Qd P0 ms).take i++[(P0.ppl.filter fun x=>(Q9 P0 x mm).isEmpty).map (·.1)]:=by
      unfold Qd;rw[ztv,zsr,hmm];rfl
     rw[e];refine ILs.snoc (by rw[Zh (Zg hr3 fl).symm];exact q6) (il.keep fun x hx' o q=>?_);rw[Zh (hfr x hx').2];exact s6 _ _ q
    ·rcases zsv.mp hy with z|z
     ·exact hfr y z
     ·rw[zsp.mp z];exact⟨sh.free fl,(Zg hr3 fl).symm⟩
 ·rintro σ H' ⟨⟨v1,v2,rfl⟩,k2,ls,hr3,il,hln,hfr⟩;have sh:Same H H':=fun x o e=>k2 _ _ (s2 _ _ e) (Zg e fr);have hml:(Qd P0 ms).length=ms.length:=by unfold Qd;rw[zsk]
  rw[htl,<- hml,zs7] at il;exact⟨_,rfl,h r ls H' hr3 il sh fr fun x hx=>(hfr x hx).1⟩
abbrev Qn:Stmt:=top 72
theorem Uo:Zl ["_law_pages","_law_deed","_law_page","_law_at_here","_law_kept"] ["_law_pages","_law_deed"] (Zj Qn):=fnS
theorem Ek(F:Fun K "_law_paged" "_law_paged" Qn f fd)(T:Tx K mg a)(zmf:Z4 P w K mg base "_law_open" 2 ["_law_page"] (B0 K)):FnOk P w K mg base (CX1 P w) 3 f fd ["_law_pages","_law_deed"] (Ea K):=by
 refine F.okX Uo ⋯ fun _ _ _ _ H _ Q E hr h=>?_;obtain⟨ok,l,t,ds,d,P0,D,rfl,hl,PA,hD,PO,hpl,hol,hdl,hcl,h⟩:=h;have hu:=Wa hr;refine⟨_,(Zc (pS 2 Uo.nd (Xw Bx (by rfl) T.zpw PyProof.Rows.boot_dict (Za (pI (iL K) (pv 0) (Kq Pp Zi)) Zd)))
 (Zc (pS 3 Uo.nd (Zq Yg (Zt (cL K) (by rfl) T.zkj PySem.boot_len (Za (pD hu (pv 2) Zr) Zd)) Zi))
 (Zc (Z6 (Zo Vt (pI (iU K) (pv 1) Zi) Zr (Zw _))
  (Ze (Zm (E4 (De (K:=K) rfl) (pv 0) As (Au (Kq Pp Zi)))))
  Zs)
 (Zc (Z6 (Zo Vt (pI (iU K) (pv 1) Zi) Zr (Zw _))
  (Zc (pS 4 Uo.nd (Yc (Za (pD hu (pv 2) Zr) (Za (pD hu (pv 2) Zr) (Za (pD hu (pv 2) Zr) (Za (pF zmf hr (Za (pv 2) Zd)) Zd))))))
  (Zc (Yq hu (pv 2) Zr (Zq Kw (pD hu (pv 2) Zr) (Z8 (Za (pv 4) Zd))) rfl)
  (Zc (Yq hu (pv 2) Zr Y6 rfl)
  (Zc (Yq hu (pv 2) Zr (Z8 Zd) rfl)
  (Zc (Yq hu (pv 2) Zr (Z8 Zd) rfl)
  (Ze (Zm (Z8 (Za (pv 2) Zd)))))))))
  Zs)
 (Zc (Z6 (Zo Vt (pI (iU K) (pv 1) Zi) Zr (Zw _))
  (Zc (Yq hu (pv 2) Zr (Zq Kw (pD hu (pv 2) Zr) (Z8 (Za (Yc (Za (pI (iU K) (pv 1) Zi) (Za (pI (iU K) (pv 1) Zi) (Za (pI (iU K) (pv 1) Zi) Zd)))) Zd))) rfl)
  (Ze (Yq hu (pv 2) Zr (Yc (Za Zr (Za (pI (iU K) (pv 1) Zi) (Za (pv 3) Zd)))) rfl)))
  (Ze (Z6 (Zo Vt (pI (iU K) (pv 1) Zi) Zr (Zw _))
   (Zc (Yq hu (pv 2) Zr (pI (iU K) (pv 1) Zi) rfl)
   (Ze (Yq hu (pv 2) Zr (Yc (Za Zr (Za (Zt (cL K) (by rfl) T.zkj PySem.boot_len (Za (pI (iU K) (pv 1) Zi) Zd)) (Za (pv 3) Zd)))) rfl)))
   (Zc (Yq hu (pv 2) Zr (Zq Kw (pD hu (pv 2) Zr) (Z8 (Za (Yc (Za (pI (iU K) (pv 1) Zi) (Za (pI (iU K) (pv 1) Zi) Zd))) Zd))) rfl)
   (Ze (Yq hu (pv 2) Zr (Yc (Za Zr (Za (pI (iU K) (pv 1) Zi) (Za (pI (iU K) (pv 1) Zi) Zd)))) rfl))))))
 (Ze (Zm (Zq Kw (pv 0) (Z8 (Za (pv 2) Zd)))))))))),?_⟩
 show let y1:TS:=_;let y2:TS:=Z0 _ y1;let y3:TS:=Z0 _ y2;let y4:TS:=Z0 _ y3;let y5:TS:=Z0 _ y4;let y6:TS:=_;let y7:TS:=Z0 _ y6;let y8:TS:=Z0 (zat _ (Z0 _ y5) _) y7;let y9:TS:=Z0 _ y8;let y10:TS:=Z0 _ y9;Z0 _ y10 _ _ _;intro y1 y2 y3 y4 y5 y6 y7 y8 y9 y10;obtain⟨lp,lo,lv,dv,li,lg,lm,a1,PB,okd⟩:=id PA.split;have hat:atI ((ds++[d]).map V.ref) (-1)=some (V.ref d):=by rw[zsq];exact L2.atI_last _ _
 refine⟨_,rfl,_,rfl,l,_,_,_,rfl,rfl,SqL.of hl,hat,d,_,rfl,.inl a1,fun d' fd'=>?_⟩;obtain⟨ok1,hok1⟩:∃ ok1:Addr->Prop,ok1=fun x=>ok x\/H x=none:=⟨_,rfl⟩;have okf:∀ x,H x=none->ok1 x:=fun x hx=>by rw[hok1];exact .inr hx
 have oko:∀ x,ok x->ok1 x:=fun x hx=>by rw[hok1];exact .inl hx
 rw[<- hok1] at h;have s1:=Zf (o:=.dK (pgF P0.len P0.rest lp lo lv dv li lg lm)) fd';have q1:upd H d' (.dK (pgF P0.len P0.rest lp lo lv dv li lg lm)) d'=some (.dK (pgF P0.len P0.rest lp lo lv dv li lg lm)):=Zb;have PB1:=(PB.imp (fun x _ o=>oko x o)).keepL (.of s1);walk_at "if";generalize upd H d' (.dK (pgF P0.len P0.rest lp lo lv dv li lg lm))=H1 at s1 q1 PB1 ⊢;have PA1:PgAt ok1 H1 d' P0:=.join q1 PB1 (okf _ fd');obtain⟨vts,v1,v2,v3⟩:=PB1.vv;refine⟨_,rfl,d',_,rfl,DGet.k (k:=.inr "over") q1,lv,vts,rfl,.inl (SqL.of v1),_,_,rfl,rfl,?_⟩;rw[v2.length];have wr:∀ {H:Hp} {lp lo lv:Addr} {dv li:V} {lg lm:Addr} {x:V} {k:Str},H d'=some (.dK (pgF P0.len P0.rest lp lo lv dv li lg lm))->DPut H d' (.str k) x (upd H d' (.dK (putK (pgF P0.len P0.rest lp lo lv dv li lg lm) (.inr k) x))):=fun q=>DPut.k (k:=.inr _) q zd4;have sz0:([]:List V).length<=sizeLine:=zs9 _;have sz1:∀ x:V,[x].length<=sizeLine:=fun x=>by show 1<=sizeLine;rw[sizeLine_eq];decide
 walk_at "if";cases D with
 | back =>
   have ht:H t=some (.tup [.str "take back"]):=hD;refine⟨_,rfl,t,_,_,_,rfl,rfl,SqT.of (s1 _ _ ht),rfl,rfl,_,rfl,?_⟩;rw[Ci];refine iteT ?_;refine⟨_,rfl,_,rfl,_,rfl,l,_,rfl,SqL.of (s1 _ _ hl),fun c fc=>?_⟩;rw[zsq,show Ij (ds.map V.ref++[d].map V.ref) none (some (-1))=ds.map V.ref from zd7 _ _];exact h c d' _ Zb (fun z=>absurd rfl z) (s1.trans (Zf fc)) (s1.free fc) fd'
 | close =>
   have ht:H t=some (.tup [.str "close"]):=hD;refine⟨_,rfl,t,_,_,_,rfl,rfl,SqT.of (s1 _ _ ht),rfl,rfl,_,rfl,?_⟩;rw[Se ⋯];refine iteF (Z1 ?_);refine⟨_,rfl,t,_,_,_,rfl,rfl,SqT.of (s1 _ _ ht),rfl,rfl,_,rfl,?_⟩;rw[Ci];refine iteT ?_;obtain⟨ms,hms,hml⟩:=hcl rfl;refine⟨_,rfl,d',_,rfl,DGet.k (k:=.inr "listed") q1,_,rfl,d',_,rfl,DGet.k (k:=.inr "goes") q1,_,rfl,d',_,rfl,DGet.k (k:=.inr "moves") q1,_,rfl,ok1,d',P0,ms,rfl,PA1,PO,hms,hml,hpl,fun ly ls H2 hly ily s2 fly fls=>?_⟩;obtain⟨ll,ts,rfl,b1,b2,b3⟩:∃ l ts,li=.ref l/\H1 l=some (.lst ts)/\Yb H1 ts (ms.map pV)/\ok1 l:=by have:=PB1.li;rw[hms] at this;exact this
   obtain⟨mts,c1,c2,c3⟩:=PB1.mm;obtain⟨g1,g2⟩:=PB1.gg;have sh2:=s1.trans s2;refine⟨by show 4<=sizeLine;rw[sizeLine_eq];decide,fun tk ftk=>?_⟩;have s3:=s2.trans (Zf (o:=.tup [.ref ll,.ref lg,.ref lm,.ref ly]) ftk);have t3:=Zb (H:=H2) (a:=tk) (o:=.tup [.ref ll,.ref lg,.ref lm,.ref ly]);have y3:=Zf (o:=.tup [.ref ll,.ref lg,.ref lm,.ref ly]) ftk _ _ hly;have i3:=ily.same (Zf (o:=.tup [.ref ll,.ref lg,.ref lm,.ref ly]) ftk);generalize upd H2 tk (.tup [.ref ll,.ref lg,.ref lm,.ref ly])=H3 at s3 t3 y3 i3 ⊢;walk_at "if";refine⟨_,rfl,d',_,rfl,DGet.k (k:=.inr "over") (s3 _ _ q1),_,rfl,sz1 _,fun l1 f1=>?_⟩;have s4:=Zf (o:=.lst [.ref tk]) f1;have t4:=Zb (H:=H3) (a:=l1) (o:=.lst [.ref tk]);generalize upd H3 l1 (.lst [.ref tk])=H4 at s4 t4 ⊢;have s04:=s3.trans s4;refine⟨lv,l1,vts,_,rfl,rfl,s04 _ _ v1,t4,szN (by rw[v2.length];have:=PO.1;show P0.over.length+1<=1000;omega),fun lv' fv'=>?_⟩;have s5:=s4.trans (Zf (o:=.lst (vts++[.ref tk])) fv');have t5:=Zb (H:=H4) (a:=lv') (o:=.lst (vts++[.ref tk]));generalize upd H4 lv' (.lst (vts++[.ref tk]))=H5 at s5 t5 ⊢;have s15:=s3.trans s5;refine⟨_,rfl,d',_,rfl,wr (s15 _ _ q1),?_⟩;rw[zd3];have s6:=Ya (o:=.dK (pgF P0.len P0.rest lp lo lv' dv (.ref ll) lg lm)) fd' (s1.trans s15);have q6:=Zb (H:=H5) (a:=d') (o:=.dK (pgF P0.len P0.rest lp lo lv' dv (.ref ll) lg lm));have k6:=Xg.dict (s15 _ _ q1) (kvs':=pgF P0.len P0.rest lp lo lv' dv (.ref ll) lg lm);generalize upd H5 d' (.dK (pgF P0.len P0.rest lp lo lv' dv (.ref ll) lg lm))=H6 at s6 q6 k6 ⊢;refine⟨_,rfl,d',_,rfl,wr q6,?_⟩;rw[Je];have s7:=Ya (o:=.dK (pgF P0.len P0.rest lp lo lv' dv .non lg lm)) fd' s6;have q7:=Zb (H:=H6) (a:=d') (o:=.dK (pgF P0.len P0.rest lp lo lv' dv .non lg lm));have k7:=k6.trans (Xg.dict q6 (kvs':=pgF P0.len P0.rest lp lo lv' dv .non lg lm));generalize upd H6 d' (.dK (pgF P0.len P0.rest lp lo lv' dv .non lg lm))=H7 at s7 q7 k7 ⊢;refine⟨sz0,fun lg' fg'=>?_⟩;have s8:=Zf (o:=.lst []) fg';have t8:=Zb (H:=H7) (a:=lg') (o:=.lst []);generalize upd H7 lg' (.lst [])=H8 at s8 t8 ⊢;refine⟨_,rfl,d',_,rfl,wr (s8 _ _ q7),?_⟩;rw[Ck];have s9:=Ya (o:=.dK (pgF P0.len P0.rest lp lo lv' dv .non lg' lm)) fd' (s7.trans s8);have q9:=Zb (H:=H8) (a:=d') (o:=.dK (pgF P0.len P0.rest lp lo lv' dv .non lg' lm));have k9':=Xg.dict (s8 _ _ q7) (kvs':=pgF P0.len P0.rest lp lo lv' dv .non lg' lm);generalize upd H8 d' (.dK (pgF P0.len P0.rest lp lo lv' dv .non lg' lm))=H9 at s9 q9 k9' ⊢;have k9:=(k7.trans (.of s8)).trans k9';refine⟨sz0,fun lm' fm'=>?_⟩;have s10:=Zf (o:=.lst []) fm';have t10:=Zb (H:=H9) (a:=lm') (o:=.lst []);generalize upd H9 lm' (.lst [])=H10 at s10 t10 ⊢;refine⟨_,rfl,d',_,rfl,wr (s10 _ _ q9),?_⟩;rw[zby];have s11:=Ya (o:=.dK (pgF P0.len P0.rest lp lo lv' dv .non lg' lm')) fd' (s9.trans s10);have q11:=Zb (H:=H10) (a:=d') (o:=.dK (pgF P0.len P0.rest lp lo lv' dv .non lg' lm'));have k11':=Xg.dict (s10 _ _ q9) (kvs':=pgF P0.len P0.rest lp lo lv' dv .non lg' lm');generalize upd H10 d' (.dK (pgF P0.len P0.rest lp lo lv' dv .non lg' lm'))=H11 at s11 q11 k11' ⊢;have k11:=(k9.trans (.of s10)).trans k11';refine⟨_,rfl,sz1 _,fun lr flr=>?_⟩;have s12:=Zf (o:=.lst [.ref d']) flr;have t12:=Zb (H:=H11) (a:=lr) (o:=.lst [.ref d']);have k12:=k11.trans (.of s12);have k1:=(Xg.of s15).trans k12;have k3:=(Xg.of s5).trans k12;generalize upd H11 lr (.lst [.ref d'])=H12 at s12 t12 k12 k1 k3 ⊢;refine h lr d' H12 t12 (fun _=>?_) (s11.trans s12) (s11.free flr) fd';have b:=PB1.keepL k1;have e:Ws P0 .close={ P0 with over:=P0.over++[⟨ms,Qd P0 ms,P0.gv,P0.mv⟩],lis:=none,gv:=[],mv:=[] }:=by unfold Ws;rw[hms];rfl
   rw[e];have fr2:∀ x,H2 x=none->H x=none:=fun x hx=>sh2.free hx;refine .join (P:={ P0 with over:=P0.over++[⟨ms,Qd P0 ms,P0.gv,P0.mv⟩],lis:=none,gv:=[],mv:=[] }) (s12 _ _ q11) ⟨b.pp,b.oo,⟨_,k12.1 _ _ t5,Xb.snoc (s:=⟨ms,Qd P0 ms,P0.gv,P0.mv⟩) (k3.2 _ _ t3) (k1.1 _ _ b1) (b2.mono k1.2) (k1.1 _ _ g1) (k1.1 _ _ c1) (c2.keepL k1) (k3.1 _ _ y3) (ILs.keepL k3 i3) ⟨b3,g2,c3,okf _ (s1.free fly),fun x hx=>okf _ (s1.free (fls x hx))⟩ (v2.keepL k1),okf _ (s1.free (s04.free fv'))⟩,b.dd,rfl,⟨?_,okf _ (s7.free fg')⟩,[],?_,.nil,okf _ (s9.free fm')⟩ (okf _ fd')
   ·exact s12 _ _ (k11'.1 _ _ (s10 _ _ (k9'.1 _ _ t8)))
   ·exact s12 _ _ (k11'.1 _ _ t10)
 | enrol n g c =>
   have ht:H t=some (.tup [.str "enrol",.int n,.int g,.int c]):=hD;have ht1:=s1 _ _ ht;have sz3:∀ x y z:V,[x,y,z].length<=sizeLine:=fun x y z=>by show 3<=sizeLine;rw[sizeLine_eq];decide
   refine⟨_,rfl,t,_,_,_,rfl,rfl,SqT.of ht1,rfl,rfl,_,rfl,?_⟩;rw[Se ⋯];refine iteF (Z1 ?_);refine⟨_,rfl,t,_,_,_,rfl,rfl,SqT.of ht1,rfl,rfl,_,rfl,?_⟩;rw[Se ⋯];refine iteF (Z1 ?_);refine⟨_,rfl,t,_,_,_,rfl,rfl,SqT.of ht1,rfl,rfl,_,rfl,?_⟩;rw[Ci];refine iteT ?_;obtain⟨pts,p1,p2,p3⟩:=PB1.pp;refine⟨_,rfl,d',_,rfl,DGet.k (k:=.inr "people") q1,_,rfl,t,_,_,_,rfl,rfl,SqT.of ht1,rfl,_,rfl,t,_,_,_,rfl,rfl,SqT.of ht1,rfl,_,rfl,t,_,_,_,rfl,rfl,SqT.of ht1,rfl,sz3 _ _ _,fun tp ftp=>?_⟩;have s2:=Zf (o:=.tup [.int n,.int g,.int c]) ftp;have t2:=Zb (H:=H1) (a:=tp) (o:=.tup [.int n,.int g,.int c]);generalize upd H1 tp (.tup [.int n,.int g,.int c])=H2 at s2 t2 ⊢;refine⟨sz1 _,fun l1 f1=>?_⟩;have s3:=Zf (o:=.lst [.ref tp]) f1;have t3:=Zb (H:=H2) (a:=l1) (o:=.lst [.ref tp]);generalize upd H2 l1 (.lst [.ref tp])=H3 at s3 t3 ⊢;have s13:=s2.trans s3;refine⟨lp,l1,pts,_,rfl,rfl,s13 _ _ p1,t3,szN (by rw[p2.length,zsk];show _+1<=1000;omega),fun lp' fp'=>?_⟩;have s4:=s13.trans (Zf (o:=.lst (pts++[.ref tp])) fp');have t4:=Zb (H:=H3) (a:=lp') (o:=.lst (pts++[.ref tp]));have t2':=(s3.trans (Zf (o:=.lst (pts++[.ref tp])) fp')) _ _ t2;generalize upd H3 lp' (.lst (pts++[.ref tp]))=H4 at s4 t4 t2' ⊢;refine⟨_,rfl,d',_,rfl,wr (s4 _ _ q1),?_⟩;rw[By];have s5:=Ya (o:=.dK (pgF P0.len P0.rest lp' lo lv dv li lg lm)) fd' (s1.trans s4);have q5:=Zb (H:=H4) (a:=d') (o:=.dK (pgF P0.len P0.rest lp' lo lv dv li lg lm));have k5':=Xg.dict (s4 _ _ q1) (kvs':=pgF P0.len P0.rest lp' lo lv dv li lg lm);generalize upd H4 d' (.dK (pgF P0.len P0.rest lp' lo lv dv li lg lm))=H5 at s5 q5 k5' ⊢;have k5:=(Xg.of s4).trans k5';refine⟨_,rfl,t,_,_,_,rfl,rfl,SqT.of (s5 _ _ ht),rfl,_,rfl,sz3 _ _ _,fun td ftd=>?_⟩;have s6:=Zf (o:=.tup [.str "enrol",.int n,.int ((P0.over.length:Int)+1)]) ftd;have t6:=Zb (H:=H5) (a:=td) (o:=.tup [.str "enrol",.int n,.int ((P0.over.length:Int)+1)]);generalize upd H5 td (.tup [.str "enrol",.int n,.int ((P0.over.length:Int)+1)])=H6 at s6 t6 ⊢;refine⟨_,rfl,d',_,rfl,wr (s6 _ _ q5),?_⟩;rw[Jd];have s7:=Ya (o:=.dK (pgF P0.len P0.rest lp' lo lv (.ref td) li lg lm)) fd' (s5.trans s6);have q7:=Zb (H:=H6) (a:=d') (o:=.dK (pgF P0.len P0.rest lp' lo lv (.ref td) li lg lm));have k7':=Xg.dict (s6 _ _ q5) (kvs':=pgF P0.len P0.rest lp' lo lv (.ref td) li lg lm);generalize upd H6 d' (.dK (pgF P0.len P0.rest lp' lo lv (.ref td) li lg lm))=H7 at s7 q7 k7' ⊢;have k7:=(k5.trans (.of s6)).trans k7';refine⟨_,rfl,_,rfl,sz1 _,fun l2 f2=>?_⟩;have s8:=Zf (o:=.lst [.ref d']) f2;have t8:=Zb (H:=H7) (a:=l2) (o:=.lst [.ref d']);generalize upd H7 l2 (.lst [.ref d'])=H8 at s8 t8 ⊢;refine⟨l,l2,_,_,rfl,rfl,s8 _ _ (s7 _ _ hl),t8,szN (by rw[zsk,zsn];show ds.length+1+1<=1000;omega),fun lr flr=>?_⟩;have er:(ds++[d]).map V.ref++[.ref d']=(ds++[d]++[d']).map V.ref:=by rw[zsq (l₁:=ds++[d])];rfl
   rw[er];have s9:=s8.trans (Zf (o:=.lst ((ds++[d]++[d']).map V.ref)) flr);have t9:=Zb (H:=H8) (a:=lr) (o:=.lst ((ds++[d]++[d']).map V.ref));generalize upd H8 lr (.lst ((ds++[d]++[d']).map V.ref))=H9 at s9 t9 ⊢;have k9:=k7.trans (.of s9);have t6':=s9 _ _ (k7'.2 _ _ t6);refine h lr d' H9 t9 (fun _=>?_) (s7.trans s9) (s7.free (s8.free flr)) fd';have b:=PB1.keepL k9;refine .join (P:=Ws P0 (.enrol n g c)) (s9 _ _ q7) ⟨⟨_,s9 _ _ (k7'.1 _ _ (s6 _ _ (k5'.1 _ _ t4))),?_,okf _ (s1.free (s13.free fp'))⟩,b.oo,b.vv,⟨td,rfl,t6'⟩,b.li,b.gg,b.mm⟩ (okf _ fd');unfold Ws;dsimp only;rw[zsq];exact(p2.mono k9.2).snoc (s9 _ _ (k7'.2 _ _ (s6 _ _ (k5'.2 _ _ t2'))))
 | draw ms =>
   obtain⟨ll,ts,ht,hll,tl,okl⟩:∃ l ts,H t=some (.tup [.str "draw up",.ref l])/\H l=some (.lst ts)/\Yb H ts (ms.map pV)/\ok l:=hD;have ht1:=s1 _ _ ht;have sz3:∀ x y z:V,[x,y,z].length<=sizeLine:=fun x y z=>by show 3<=sizeLine;rw[sizeLine_eq];decide
   refine⟨_,rfl,t,_,_,_,rfl,rfl,SqT.of ht1,rfl,rfl,_,rfl,?_⟩;rw[Se ⋯];refine iteF (Z1 ?_);refine⟨_,rfl,t,_,_,_,rfl,rfl,SqT.of ht1,rfl,rfl,_,rfl,?_⟩;rw[Se ⋯];refine iteF (Z1 ?_);refine⟨_,rfl,t,_,_,_,rfl,rfl,SqT.of ht1,rfl,rfl,_,rfl,?_⟩;rw[Se ⋯];refine iteF ?_;refine⟨_,rfl,t,_,_,_,rfl,rfl,SqT.of ht1,rfl,rfl,_,rfl,?_⟩;rw[Ci];refine iteT ?_;refine⟨_,rfl,t,_,_,_,rfl,rfl,SqT.of ht1,rfl,_,rfl,d',_,rfl,wr q1,?_⟩;rw[Je];have s5:=Ya (o:=.dK (pgF P0.len P0.rest lp lo lv dv (.ref ll) lg lm)) fd' s1;have q5:=Zb (H:=H1) (a:=d') (o:=.dK (pgF P0.len P0.rest lp lo lv dv (.ref ll) lg lm));have k5:=Xg.dict q1 (kvs':=pgF P0.len P0.rest lp lo lv dv (.ref ll) lg lm);generalize upd H1 d' (.dK (pgF P0.len P0.rest lp lo lv dv (.ref ll) lg lm))=H5 at s5 q5 k5 ⊢;have ez:(ts.length:Int)=(ms.length:Int):=by rw[tl.length,zsk]
   refine⟨_,rfl,t,_,_,_,rfl,rfl,SqT.of (s5 _ _ ht),rfl,ll,ts,rfl,.inl (SqL.of (s5 _ _ hll)),_,rfl,sz3 _ _ _,fun td ftd=>?_⟩;have s6:=Zf (o:=.tup [.str "draw up",.int (ts.length:Int),.int ((P0.over.length:Int)+1)]) ftd;have t6:=Zb (H:=H5) (a:=td) (o:=.tup [.str "draw up",.int (ts.length:Int),.int ((P0.over.length:Int)+1)]);generalize upd H5 td (.tup [.str "draw up",.int (ts.length:Int),.int ((P0.over.length:Int)+1)])=H6 at s6 t6 ⊢;refine⟨_,rfl,d',_,rfl,wr (s6 _ _ q5),?_⟩;rw[Jd];have s7:=Ya (o:=.dK (pgF P0.len P0.rest lp lo lv (.ref td) (.ref ll) lg lm)) fd' (s5.trans s6);have q7:=Zb (H:=H6) (a:=d') (o:=.dK (pgF P0.len P0.rest lp lo lv (.ref td) (.ref ll) lg lm));have k7':=Xg.dict (s6 _ _ q5) (kvs':=pgF P0.len P0.rest lp lo lv (.ref td) (.ref ll) lg lm);generalize upd H6 d' (.dK (pgF P0.len P0.rest lp lo lv (.ref td) (.ref ll) lg lm))=H7 at s7 q7 k7' ⊢;have k7:=(k5.trans (.of s6)).trans k7';refine⟨_,rfl,_,rfl,sz1 _,fun l2 f2=>?_⟩;have s8:=Zf (o:=.lst [.ref d']) f2;have t8:=Zb (H:=H7) (a:=l2) (o:=.lst [.ref d']);generalize upd H7 l2 (.lst [.ref d'])=H8 at s8 t8 ⊢;refine⟨l,l2,_,_,rfl,rfl,s8 _ _ (s7 _ _ hl),t8,szN (by rw[zsk,zsn];show ds.length+1+1<=1000;omega),fun lr flr=>?_⟩;have er:(ds++[d]).map V.ref++[.ref d']=(ds++[d]++[d']).map V.ref:=by rw[zsq (l₁:=ds++[d])];rfl
   rw[er];have s9:=s8.trans (Zf (o:=.lst ((ds++[d]++[d']).map V.ref)) flr);have t9:=Zb (H:=H8) (a:=lr) (o:=.lst ((ds++[d]++[d']).map V.ref));generalize upd H8 lr (.lst ((ds++[d]++[d']).map V.ref))=H9 at s9 t9 ⊢;have k9:=k7.trans (.of s9);have t6':=s9 _ _ (k7'.2 _ _ t6);refine h lr d' H9 t9 (fun _=>?_) (s7.trans s9) (s7.free (s8.free flr)) fd';have b:=PB1.keepL k9;rw[ez] at t6';exact .join (P:=Ws P0 (.draw ms)) (s9 _ _ q7) ⟨b.pp,b.oo,b.vv,⟨td,rfl,t6'⟩,⟨ll,ts,rfl,s9 _ _ (s7 _ _ hll),tl.mono (fun x xs z=>s9 _ _ (s7 _ _ z)),oko _ okl⟩,b.gg,b.mm⟩ (okf _ fd')
 | away i n =>
   have ht:H t=some (.tup [.str "away",.int i,.int n]):=hD;have ht1:=s1 _ _ ht;have sz3:∀ x y z:V,[x,y,z].length<=sizeLine:=fun x y z=>by show 3<=sizeLine;rw[sizeLine_eq];decide
   refine⟨_,rfl,t,_,_,_,rfl,rfl,SqT.of ht1,rfl,rfl,_,rfl,?_⟩;rw[Se ⋯];refine iteF (Z1 ?_);refine⟨_,rfl,t,_,_,_,rfl,rfl,SqT.of ht1,rfl,rfl,_,rfl,?_⟩;rw[Se ⋯];refine iteF (Z1 ?_);refine⟨_,rfl,t,_,_,_,rfl,rfl,SqT.of ht1,rfl,rfl,_,rfl,?_⟩;rw[Se ⋯];refine iteF ?_;refine⟨_,rfl,t,_,_,_,rfl,rfl,SqT.of ht1,rfl,rfl,_,rfl,?_⟩;rw[Se ⋯];refine iteF ?_;obtain⟨pts,p1,p2,p3⟩:=PB1.oo;refine⟨_,rfl,d',_,rfl,DGet.k (k:=.inr "out") q1,_,rfl,t,_,_,_,rfl,rfl,SqT.of ht1,rfl,_,rfl,t,_,_,_,rfl,rfl,SqT.of ht1,rfl,sz2,fun tp ftp=>?_⟩;have s2:=Zf (o:=.tup [.int i,.int n]) ftp;have t2:=Zb (H:=H1) (a:=tp) (o:=.tup [.int i,.int n]);generalize upd H1 tp (.tup [.int i,.int n])=H2 at s2 t2 ⊢;refine⟨sz1 _,fun l1 f1=>?_⟩;have s3:=Zf (o:=.lst [.ref tp]) f1;have t3:=Zb (H:=H2) (a:=l1) (o:=.lst [.ref tp]);generalize upd H2 l1 (.lst [.ref tp])=H3 at s3 t3 ⊢;have s13:=s2.trans s3;refine⟨lo,l1,pts,_,rfl,rfl,s13 _ _ p1,t3,szN (by rw[p2.length,zsk];show _+1<=1000;omega),fun lo' fp'=>?_⟩;have s4:=s13.trans (Zf (o:=.lst (pts++[.ref tp])) fp');have t4:=Zb (H:=H3) (a:=lo') (o:=.lst (pts++[.ref tp]));have t2':=(s3.trans (Zf (o:=.lst (pts++[.ref tp])) fp')) _ _ t2;generalize upd H3 lo' (.lst (pts++[.ref tp]))=H4 at s4 t4 t2' ⊢;refine⟨_,rfl,d',_,rfl,wr (s4 _ _ q1),?_⟩;rw[zfl];have s5:=Ya (o:=.dK (pgF P0.len P0.rest lp lo' lv dv li lg lm)) fd' (s1.trans s4);have q5:=Zb (H:=H4) (a:=d') (o:=.dK (pgF P0.len P0.rest lp lo' lv dv li lg lm));have k5':=Xg.dict (s4 _ _ q1) (kvs':=pgF P0.len P0.rest lp lo' lv dv li lg lm);generalize upd H4 d' (.dK (pgF P0.len P0.rest lp lo' lv dv li lg lm))=H5 at s5 q5 k5' ⊢;have k5:=(Xg.of s4).trans k5';refine⟨_,rfl,t,_,_,_,rfl,rfl,SqT.of (s5 _ _ ht),rfl,_,rfl,t,_,_,_,rfl,rfl,SqT.of (s5 _ _ ht),rfl,sz3 _ _ _,fun td ftd=>?_⟩;have s6:=Zf (o:=.tup [.str "away",.int n,.int i]) ftd;have t6:=Zb (H:=H5) (a:=td) (o:=.tup [.str "away",.int n,.int i]);generalize upd H5 td (.tup [.str "away",.int n,.int i])=H6 at s6 t6 ⊢;refine⟨_,rfl,d',_,rfl,wr (s6 _ _ q5),?_⟩;rw[Jd];have s7:=Ya (o:=.dK (pgF P0.len P0.rest lp lo' lv (.ref td) li lg lm)) fd' (s5.trans s6);have q7:=Zb (H:=H6) (a:=d') (o:=.dK (pgF P0.len P0.rest lp lo' lv (.ref td) li lg lm));have k7':=Xg.dict (s6 _ _ q5) (kvs':=pgF P0.len P0.rest lp lo' lv (.ref td) li lg lm);generalize upd H6 d' (.dK (pgF P0.len P0.rest lp lo' lv (.ref td) li lg lm))=H7 at s7 q7 k7' ⊢;have k7:=(k5.trans (.of s6)).trans k7';refine⟨_,rfl,_,rfl,sz1 _,fun l2 f2=>?_⟩;have s8:=Zf (o:=.lst [.ref d']) f2;have t8:=Zb (H:=H7) (a:=l2) (o:=.lst [.ref d']);generalize upd H7 l2 (.lst [.ref d'])=H8 at s8 t8 ⊢;refine⟨l,l2,_,_,rfl,rfl,s8 _ _ (s7 _ _ hl),t8,szN (by rw[zsk,zsn];show ds.length+1+1<=1000;omega),fun lr flr=>?_⟩;have er:(ds++[d]).map V.ref++[.ref d']=(ds++[d]++[d']).map V.ref:=by rw[zsq (l₁:=ds++[d])];rfl
   rw[er];have s9:=s8.trans (Zf (o:=.lst ((ds++[d]++[d']).map V.ref)) flr);have t9:=Zb (H:=H8) (a:=lr) (o:=.lst ((ds++[d]++[d']).map V.ref));generalize upd H8 lr (.lst ((ds++[d]++[d']).map V.ref))=H9 at s9 t9 ⊢;have k9:=k7.trans (.of s9);have t6':=s9 _ _ (k7'.2 _ _ t6);refine h lr d' H9 t9 (fun _=>?_) (s7.trans s9) (s7.free (s8.free flr)) fd';have b:=PB1.keepL k9;refine .join (P:=Ws P0 (.away i n)) (s9 _ _ q7) ⟨b.pp,⟨_,s9 _ _ (k7'.1 _ _ (s6 _ _ (k5'.1 _ _ t4))),?_,okf _ (s1.free (s13.free fp'))⟩,b.vv,⟨td,rfl,t6'⟩,b.li,b.gg,b.mm⟩ (okf _ fd');unfold Ws;dsimp only;rw[zsq];exact(p2.mono k9.2).snoc (s9 _ _ (k7'.2 _ _ (s6 _ _ (k5'.2 _ _ t2'))))
abbrev Yf:Stmt:=top 73
theorem Yw:Zl ["_law_cell","_law_clubs_here","_law_most","_law_mixed","_law_matches_here","_law_many","_law_grades","_law_rest_here","_law_k","_law_home","_law_guest"] ["_law_cell","_law_clubs_here","_law_most","_law_mixed"] (Zj Yf):=fnS
@[irreducible] def Vs:List Expr:=zbw (Q8 (Xj (Zp Yf) 2))
@[irreducible] def Qo:Pos:=zbx (Q8 (Xj (Zp Yf) 2))
theorem Mp:Zp Yf=[Xj (Zp Yf) 0,Xj (Zp Yf) 1,.Assign (zd2 (Xj (Zp Yf) 2)) (.List Vs Qo) (stP (Xj (Zp Yf) 2)),Xj (Zp Yf) 3,Xj (Zp Yf) 4,Xj (Zp Yf) 5]:=by unfold Vs Qo;kernel_rfl
theorem Mq:Jb Vs [1,2,3,4,5,6,7,8,9,1,1,1,1,2,2,3,3,4]:=by unfold Vs;exact⟨by kernel_rfl,by kernel_rfl⟩
theorem Ih(F:Fun K "_law_matches" "_law_matches" Yf f fd)(T:Tx K mg a)(zlr:Z4 P w K mg base "_law_mix" 1 ["_law_cell","_law_k"] A4):FnOk P w K mg base (CX1 P w) 2 f fd ["_law_cell","_law_clubs_here","_law_most","_law_mixed"] (Lb K):=by
 refine F.okX Yw ⋯ fun _ _ _ _ H _ Q E hr h=>?_;obtain⟨b,ns,cell,most,mixed,rfl,hb,hl1,hl2,nd,rng,hm1,hmx,h⟩:=h;rw[Mp];refine⟨_,(Zc (pS 4 Yw.nd (Z8 Zd))
 (Zc (pS 5 Yw.nd (Zt (cL K) (by rfl) T.zkj PySem.boot_len (Za (pv 1) Zd)))
 (Zc (pS 6 Yw.nd (Z8 (Q4 [1,2,3,4,5,6,7,8,9,1,1,1,1,2,2,3,3,4] Mq)))
 (Zc (pS 7 Yw.nd (Zq Xi (pv 0) (Zq Yg (pv 2) Zi)))
 (Zc (Yy PassesOwn.leaving rfl (Y5 rfl T.zk0 (Za (Zq Y7 (pv 0) (Zq Yg (pv 2) Zi)) Zd)) (pN 8 Yw.nd)
  (Zc (pS 9 Yw.nd (Zq Y7 (pv 7) (pv 5)))
  (Zc (pS 10 Yw.nd (Zq Y7 (Zq Yg (Zq Yg (pv 9) Zi) (Zq Y7 (Zq Xi (pv 7) (pv 5)) (Zq Ru (pv 5) Zi))) (pv 5)))
  (Zc (Yk (pv 4) (Yc (Za (pI (iL K) (pv 1) (pv 9)) (Za (pI (iL K) (pv 1) (pv 10)) (Za (pI (iL K) (pv 6) (Zq Y7 (Zq Xi (Zq Xi (pv 7) (pv 5)) (Zq Ru (pv 5) Zi)) Zi)) Zd)))))
  (Ze (pS 7 Yw.nd (pI (iL K) (Z8 (Za (Zq Xi (Zq Xi (Zq Xi (pv 7) (pv 5)) (Zq Ru (pv 5) Zi)) Zi) (Za (pF zlr hr (Za (pv 7) (Za (pv 8) Zd))) Zd))) (pv 3))))))))
 (Ze (Zm (pv 4)))))))),?_⟩
 show let y1:TS:=_;let y2:TS:=Z0 _ y1;let y3:TS:=Z0 _ y2;let y4:TS:=_;let y5:TS:=Z0 (zch _ _ (Z0 _ y3)) y4;let y6:TS:=Z0 _ y5;let y7:TS:=Z0 _ y6;let y8:TS:=Z0 _ y7;Z0 _ y8 _ _ _;intro y1 y2 y3 y4 y5 y6 y7 y8;have sz0:([]:List V).length<=sizeLine:=zs9 _;have sz3:∀ x y z:V,[x,y,z].length<=sizeLine:=fun x y z=>by show 3<=sizeLine;rw[sizeLine_eq];decide
 refine⟨sz0,fun r fr=>?_⟩;have s1:=Zf (o:=.lst []) fr;have q1:=Zb (H:=H) (a:=r) (o:=.lst []);walk_at "if";generalize upd H r (.lst [])=H1 at s1 q1 ⊢;refine⟨_,rfl,b,_,rfl,.inl (SqL.of (s1 _ _ hb)),?_⟩;rw[zsk];walk_at "if";refine Cg [1,2,3,4,5,6,7,8,9,1,1,1,1,2,2,3,3,4] ⋯ fun lg H2 hg s2 fg=>?_;have frg:lg≠r:=(Zg q1 fg).symm;have hc:(0:Int)<(most:Int)+1:=by omega
 refine⟨_,rfl,_,rfl,_,_,rfl,rfl,_,_,rfl,rfl,⟨hc,by omega⟩,?_⟩;walk_at "if";refine⟨_,rfl,_,rfl,_,_,rfl,rfl,_,_,rfl,rfl,hc,_,rfl,?_⟩;have c0:=zts cell (show ((most:Int)+1)≠0 by omega);have c1:=ztl cell hc;have hn0:(0:Int)<(ns.length:Int):=by omega
 have hn1:(0:Int)<(ns.length:Int)-1:=by omega
 let jv4:Nat->L2.St->Hp->Prop:=fun i σ H'=>(∃ v8 v9 v10 R,σ=[some (.int cell),some (.ref b),some (.int most),some (.int mixed),some (.ref r),some (.int ns.length),some (.ref lg),some (.int R),v8,v9,v10])/\(∀ x o,H2 x=some o->x≠r->H' x=some o)/\∃ ts ms,H' r=some (.lst ts)/\Yb H' ts (ms.map pV)/\ms.length=i/\B1 ms
 refine⟨by omega,by omega,Xl jv4
  ⟨⟨_,_,_,_,rfl⟩,fun _ _ e _=>e,[],[],s2 _ _ q1,.nil,rfl,(fun m z=>nomatch z),(fun m z=>nomatch z)⟩ ?_ ?_⟩
 ·rintro i σ H' hi ⟨⟨v8,v9,v10,R,rfl⟩,k,ts,ms,hr',tl,hml,gm⟩;have hb':=k _ _ (s2 _ _ (s1 _ _ hb)) (Zg hb fr);have hg':=k _ _ hg frg;have e0:=zts R (show (ns.length:Int)≠0 by omega);have e1:=ztl R hn0;have f0:=zts (R/(ns.length:Int)) (show (ns.length:Int)-1≠0 by omega);have f1:=ztl (R/(ns.length:Int)) hn1;have w0:=zts (R/(ns.length:Int)/((ns.length:Int)-1)) (show (18:Int)≠0 by omega);have w1:=ztl (R/(ns.length:Int)/((ns.length:Int)-1)) (show (0:Int)<18 by omega);obtain⟨g0,g1,g2⟩:=zd8 e0 e1 (y:=1+R/(ns.length:Int)%((ns.length:Int)-1)) ⋯ ⋯;rw[<- Int.add_assoc] at g0 g1 g2;refine⟨_,rfl,_,rfl,_,_,rfl,rfl,hn0,?_⟩;walk_at "if";refine⟨_,rfl,_,_,rfl,rfl,_,rfl,_,rfl,_,_,rfl,rfl,⟨hn0,by omega⟩,_,rfl,_,_,rfl,rfl,_,_,rfl,rfl,hn1,_,_,rfl,rfl,_,rfl,_,_,rfl,rfl,hn0,?_⟩;walk_at "if";generalize hG:(R%(ns.length:Int)+1+R/(ns.length:Int)%((ns.length:Int)-1))%(ns.length:Int)=gu at g0 g1 g2 ⊢;generalize hHo:R%(ns.length:Int)=ho at e0 e1 g2 ⊢;refine⟨_,rfl,r,_,rfl,hr',?_⟩;have hgr:=Wx (xs:=Eb) w0 (by show _<((18:Nat):Int);omega);have rgr:=B2 (R/(ns.length:Int)/((ns.length:Int)-1)%18).toNat ⋯;generalize hgv:Eb.getD (R/(ns.length:Int)/((ns.length:Int)-1)%18).toNat 0=gv at hgr rgr;have hho:=Wx (xs:=ns) e0 ⋯;have hgu:=Wx (xs:=ns) g0 ⋯;have mho:=Q5 (ns:=ns) (i:=ho.toNat) ⋯;have mgu:=Q5 (ns:=ns) (i:=gu.toNat) ⋯;have hne:ns.getD ho.toNat 0≠ns.getD gu.toNat 0:=fun z=>by
   have:=zd9 nd ⋯ ⋯ z;omega
  generalize ns.getD ho.toNat 0=a1 at hho mho hne;generalize ns.getD gu.toNat 0=a2 at hgu mgu hne;refine⟨_,rfl,_,rfl,b,_,_,_,rfl,rfl,SqL.of hb',hho,_,rfl,_,rfl,b,_,_,_,rfl,rfl,SqL.of hb',hgu,?_⟩;refine⟨_,rfl,_,rfl,_,rfl,_,_,rfl,rfl,⟨hn0,by omega⟩,_,rfl,_,_,rfl,rfl,_,_,rfl,rfl,⟨hn1,by omega⟩,_,_,rfl,rfl,⋯,lg,_,_,_,rfl,rfl,SqL.of hg',hgr,sz3 _ _ _,fun t ft=>?_⟩;have s3:=Zf (o:=.tup [.int a1,.int a2,.int gv]) ft;have q3:=Zb (H:=H') (a:=t) (o:=.tup [.int a1,.int a2,.int gv]);generalize upd H' t (.tup [.int a1,.int a2,.int gv])=H3 at s3 q3 ⊢;have tln:=tl.length;rw[zsk] at tln;refine⟨ts,s3 _ _ hr',szN ⋯,?_⟩;have hi':i<21:=by omega
  have k4:∀ x o,H3 x=some o->x≠r->upd H3 r (.lst (ts++[.ref t])) x=some o:=fun x o e n=>by rw[Zh n];exact e
  have q4:=Zb (H:=H3) (a:=r) (o:=.lst (ts++[.ref t]));have kt4:∀ x ys,H3 x=some (.tup ys)->upd H3 r (.lst (ts++[.ref t])) x=some (.tup ys):=fun x ys e=>k4 _ _ e (Yp e (s3 _ _ hr') (by intro z;cases z));dsimp only;generalize upd H3 r (.lst (ts++[.ref t]))=H4 at k4 q4 kt4 ⊢;obtain⟨z,hz⟩:=at2 (R/(ns.length:Int)/((ns.length:Int)-1)/18) (mixS R (0+(i:Int))) hmx;refine⟨_,rfl,_,rfl,_,_,rfl,rfl,⟨hn0,by omega⟩,_,rfl,_,_,rfl,rfl,_,_,rfl,rfl,⟨hn1,by omega⟩,_,_,rfl,rfl,⟨by omega,by omega⟩,_,rfl,_,rfl,_,_,rfl,sz2,fun l2 f2=>⟨_,rfl,l2,_,_,_,rfl,rfl,SqL.of Zb,hz,?_⟩⟩;have s5:=Zf (o:=.lst [.int (R/(ns.length:Int)/((ns.length:Int)-1)/18),.int (mixS R (0+(i:Int)))]) f2;refine⟨⟨_,_,_,_,rfl⟩,fun x o e n=>s5 _ _ (k4 _ _ (s3 _ _ (k _ _ e n)) n),ts++[.ref t],ms++[(a1,a2,gv)],s5 _ _ q4,?_,by rw[zsn,hml];rfl,?_,?_⟩
  ·rw[zsq];exact(tl.mono fun x ys e=>s5 _ _ (kt4 _ _ (s3 _ _ e))).snoc (s5 _ _ (kt4 _ _ q3))
  ·intro m hm;rcases zsv.mp hm with hm|hm
   ·exact gm.1 m hm
   ·rw[zsp.mp hm];have:=rng _ mho;have:=rng _ mgu;unfold badM;dsimp only;omega
  ·intro m hm;rcases zsv.mp hm with hm|hm
   ·exact gm.2 m hm
   ·rw[zsp.mp hm];exact hne
 ·rintro σ H' ⟨⟨v8,v9,v10,R,rfl⟩,k,ts,ms,hr',tl,hml,gm⟩;refine⟨_,rfl,h r ts ms H' hr' tl ⋯ gm (fun x o e=>k _ _ (s2 _ _ (s1 _ _ e)) (Zg e fr)) fr⟩
abbrev Ii:Stmt:=top 74
theorem zcc:Zl ["_law_season","_law_deed"] ["_law_season","_law_deed"] (Zj Ii):=fnS
theorem zcd(F:Fun K "_law_do" "_law_do" Ii f fd)(T:Tx K mg a)(zm4:Zu P w K mg base a.zj1 "enrol" 5 ["self","number","grade","club"] (zaj (ca a)))(zk7:Zu P w K mg base a.zj1 "away" 7 ["self","at","number"] (Bv (ca a)))(zmj:Zu P w K mg base a.zj1 "draw_up" 6 ["self","matches"] (D6 K (ca a)))(zlc:Zu P w K mg base a.zj1 "close" 4 ["self"] (F6 (ca a)))(zkw:Zu P w K mg base a.zj1 "take_back" 2 ["self"] (Ob (ca a))):FnOk P w K mg base (CX1 P w) 8 f fd ["_law_season","_law_deed"] (Ld K (ca a)):=by
 refine F.okX zcc ⋯ fun _ _ _ _ H _ Q E hr h=>?_;obtain⟨A',S,t,d,rfl,SA,hd,sd,co,po,hz,hoz,htot,hl,hol,hbk,hE,h⟩:=h;refine⟨_,(Zc (Z6 (Zo Vt (pI (iU K) (pv 1) Zi) Zr (Zw _))
  (Ze (Zm (Xd (pv 0) T.zj2 zm4 (hr.mono ⋯) Zk (Za (pI (iU K) (pv 1) Zi) (Za (pI (iU K) (pv 1) Zi) (Za (pI (iU K) (pv 1) Zi) Zd))))))
  Zs)
 (Zc (Z6 (Zo Vt (pI (iU K) (pv 1) Zi) Zr (Zw _))
  (Ze (Zm (Xd (pv 0) T.zj2 zk7 (hr.mono ⋯) Zk (Za (pI (iU K) (pv 1) Zi) (Za (pI (iU K) (pv 1) Zi) Zd)))))
  Zs)
 (Zc (Z6 (Zo Vt (pI (iU K) (pv 1) Zi) Zr (Zw _))
  (Ze (Zm (Xd (pv 0) T.zj2 zmj (hr.mono ⋯) Zk (Za (Xw (Xc (K:=K) rfl) (by rfl) T.zlw PyProof.Rows.boot_list (Za (pI (iU K) (pv 1) Zi) Zd)) Zd))))
  Zs)
 (Zc (Z6 (Zo Vt (pI (iU K) (pv 1) Zi) Zr (Zw _))
  (Ze (Zm (Yi (pv 0) T.zj2 zlc (hr.mono ⋯) Zk)))
  Zs)
 (Ze (Zm (Yi (pv 0) T.zj2 zkw (hr.mono ⋯) Zk))))))),?_⟩
 have hpl:=po.2;obtain⟨⟨dx,v,a1,a2⟩,_⟩:=id SA;cases d with
 | enrol n g c0 =>
   have ht:H t=some (.tup [.str "enrol",.int n,.int g,.int c0]):=hd;refine⟨_,rfl,t,_,_,_,rfl,rfl,SqT.of ht,rfl,rfl,_,rfl,?_⟩;rw[Ci];refine iteT ?_;refine⟨_,rfl,A'.p,dx,_,rfl,a1,Ye ⋯,_,rfl,t,_,_,_,rfl,rfl,SqT.of ht,rfl,_,rfl,t,_,_,_,rfl,rfl,SqT.of ht,rfl,_,rfl,t,_,_,_,rfl,rfl,SqT.of ht,rfl,A',S,n,g,c0,rfl,SA,sd,by omega,by omega,?_⟩;by_cases c1:S.len<=S.led.length
   ·rw[if_pos c1];exact hE .seaOver (by simp only[refS];rw[if_pos c1]) H (Same.refl _)
   rw[if_neg c1];by_cases c2:S.cur.isSome=true
   ·rw[if_pos c2];exact hE .drawn (by simp only[refS];rw[if_neg c1,if_pos c2]) H (Same.refl _)
   rw[if_neg c2];by_cases c3:badI n g c0
   ·rw[if_pos c3];exact hE .out (by simp only[refS];rw[if_neg c1,if_neg c2,if_pos c3]) H (Same.refl _)
   rw[if_neg c3];by_cases c4:n∈S.ppl.map (·.1)
   ·rw[if_pos c4];exact hE .known (by simp only[refS];rw[if_neg c1,if_neg c2,if_neg c3,if_pos c4]) H (Same.refl _)
   rw[if_neg c4];by_cases c5:30<=S.ppl.length
   ·rw[if_pos c5];exact hE .many (by simp only[refS];rw[if_neg c1,if_neg c2,if_neg c3,if_neg c4,if_pos c5]) H (Same.refl _)
   rw[if_neg c5];by_cases c6:100<=S.std.length
   ·rw[if_pos c6];exact hE .manyD (by simp only[refS];rw[if_neg c1,if_neg c2,if_neg c3,if_neg c4,if_neg c5,if_pos c6]) H (Same.refl _)
   rw[if_neg c6];exact fun H' SA' f'=>h (by simp only[refS];rw[if_neg c1,if_neg c2,if_neg c3,if_neg c4,if_neg c5,if_neg c6]) .non A' _ H' (.enrol n g c0) SA' (.refl A' H) f' (fun l z=>nomatch z)
 | away i n =>
   have ht:H t=some (.tup [.str "away",.int i,.int n]):=hd;refine⟨_,rfl,t,_,_,_,rfl,rfl,SqT.of ht,rfl,rfl,_,rfl,?_⟩;rw[Se ⋯];refine iteF (Z1 ?_);refine⟨_,rfl,t,_,_,_,rfl,rfl,SqT.of ht,rfl,rfl,_,rfl,?_⟩;rw[Ci];refine iteT ?_;refine⟨_,rfl,A'.p,dx,_,rfl,a1,Ye ⋯,_,rfl,t,_,_,_,rfl,rfl,SqT.of ht,rfl,_,rfl,t,_,_,_,rfl,rfl,SqT.of ht,rfl,A',S,i,n,rfl,SA,sd.1,sd.2,by omega,hoz,po,fun s hs=>?_,?_⟩
   ·obtain⟨c1,c2,c3,c4,c5⟩:=co s hs;exact⟨c1,c2,c4,by omega⟩
   by_cases c1:i<1\/(S.len:Int)<i
   ·rw[if_pos c1];exact hE .noRound (by simp only[refS];rw[if_pos c1]) H (Same.refl _)
   rw[if_neg c1];by_cases c2:i<=S.led.length
   ·rw[if_pos c2];exact hE .over (by simp only[refS];rw[if_neg c1,if_pos c2]) H (Same.refl _)
   rw[if_neg c2];by_cases c3:n∈S.ppl.map (·.1)
   rotate_left
   ·rw[if_neg c3];exact hE .unk (by simp only[refS];rw[if_neg c1,if_neg c2,if_neg c3]) H (Same.refl _)
   rw[if_pos c3];by_cases c4:(i,n)∈S.out
   ·rw[if_pos c4];exact hE .away (by simp only[refS];rw[if_neg c1,if_neg c2,if_pos c3,if_pos c4])
   rw[if_neg c4];by_cases c5:100<=S.std.length
   ·rw[if_pos c5];exact hE .manyD (by simp only[refS];rw[if_neg c1,if_neg c2,if_pos c3,if_neg c4,if_pos c5])
   rw[if_neg c5];have h:=h (by simp only[refS];rw[if_neg c1,if_neg c2,if_pos c3,if_neg c4,if_neg c5]);refine⟨fun hc l H' hl' SA' f' fl=>h _ A' _ H' (.awayN hc hl') SA' (.refl A' H) f' (fun l2 z _=>by cases z;exact fl),fun s hi hs hp l H' hl' SA' f' fl=>?_,fun s p hi hs hp l us st e w' H' hl' tl CR SA' f' fl=>?_⟩
   ·subst hi;exact h _ A' _ H' (.awayF hs hp hl') SA' (.refl A' H) f' (fun l2 z _=>by cases z;exact fl)
   ·subst hi;exact h _ A' _ H' (.awayC hs hp hl' tl CR) SA' (.refl A' H) f' (fun l2 z _=>by cases z;exact fl)
 | draw ms =>
   obtain⟨l0,ts,ht,hl0,tl,okl⟩:∃ l ts,H t=some (.tup [.str "draw up",.ref l])/\H l=some (.lst ts)/\Yb H ts (ms.map pV)/\l∉A'.fp:=hd;refine⟨_,rfl,t,_,_,_,rfl,rfl,SqT.of ht,rfl,rfl,_,rfl,?_⟩;rw[Se ⋯];refine iteF (Z1 ?_);refine⟨_,rfl,t,_,_,_,rfl,rfl,SqT.of ht,rfl,rfl,_,rfl,?_⟩;rw[Se ⋯];refine iteF (Z1 ?_);refine⟨_,rfl,t,_,_,_,rfl,rfl,SqT.of ht,rfl,rfl,_,rfl,?_⟩;rw[Ci];refine iteT ?_;refine⟨_,rfl,A'.p,dx,_,rfl,a1,Ye ⋯,_,rfl,t,_,_,_,rfl,rfl,SqT.of ht,rfl,l0,ts,rfl,.inl (SqL.of hl0),fun l1 hl1=>?_⟩;have s1:=Zf (o:=.lst ts) hl1;have q1:upd H l1 (.lst ts) l1=some (.lst ts):=Zb;generalize upd H l1 (.lst ts)=H1 at s1 q1;refine⟨A',S,l1,ts,ms,rfl,SA.same s1,SqL.of q1,tl.same s1,sd.1,sd.2,by omega,po,?_⟩;by_cases c1:S.len<=S.led.length
   ·rw[if_pos c1];exact hE .seaOver (by simp only[refS];rw[if_pos c1]) H1 s1
   rw[if_neg c1];by_cases c2:S.cur.isSome=true
   ·rw[if_pos c2];exact hE .drawn (by simp only[refS];rw[if_neg c1,if_pos c2]) H1 s1
   rw[if_neg c2];refine⟨fun c3=>hE .manyM (by simp only[refS];rw[if_neg c1,if_neg c2,if_pos c3]) H1 s1,fun c3 c4=>hE .out (by simp only[refS];rw[if_neg c1,if_neg c2,if_neg ⋯,if_pos c4]) H1 s1,fun c3 c4 c5=>hE .same (by simp only[refS];rw[if_neg c1,if_neg c2,if_neg ⋯,if_neg c4,if_pos c5]) H1 s1,fun c3 c4 c5=>⟨fun c6 H' s'=>hE .manyD (by simp only[refS];rw[if_neg c1,if_neg c2,if_neg ⋯,if_neg c4,if_neg c5,if_pos c6]) H' (s1.trans s'),fun c6 l gv H' hl' SA' FP SP f' fl=>?_⟩⟩;exact h (by simp only[refS];rw[if_neg c1,if_neg c2,if_neg ⋯,if_neg c4,if_neg c5,if_neg ⋯]) _ A' _ H' (.draw hl' FP SP) SA' (.refl A' H) ((FrS.of A' s1).trans f') (fun l2 z _=>by cases z;exact s1.free fl)
 | close =>
   have ht:H t=some (.tup [.str "close"]):=hd;refine⟨_,rfl,t,_,_,_,rfl,rfl,SqT.of ht,rfl,rfl,_,rfl,?_⟩;rw[Se ⋯];refine iteF (Z1 ?_);refine⟨_,rfl,t,_,_,_,rfl,rfl,SqT.of ht,rfl,rfl,_,rfl,?_⟩;rw[Se ⋯];refine iteF (Z1 ?_);refine⟨_,rfl,t,_,_,_,rfl,rfl,SqT.of ht,rfl,rfl,_,rfl,?_⟩;rw[Se ⋯];refine iteF (Z1 ?_);refine⟨_,rfl,t,_,_,_,rfl,rfl,SqT.of ht,rfl,rfl,_,rfl,?_⟩;rw[Ci];refine iteT ?_;refine⟨_,rfl,A'.p,dx,_,rfl,a1,Ye ⋯,A',S,rfl,SA,htot,hl,hol,fun s hs=>?_,?_⟩
   ·obtain⟨c1,c2,c3,c4,c5⟩:=co s hs;refine⟨c2.one,?_,by omega⟩;rw[c2.len,c4];unfold mayS;rw[zsk]
   by_cases c1:S.len<=S.led.length
   ·rw[if_pos c1];exact hE .seaOver (by simp only[refS];rw[if_pos c1]) H (Same.refl _)
   rw[if_neg c1];exact⟨fun z=>hE .notDrawn (by simp only[refS];rw[if_neg c1,if_pos z]) H (Same.refl _),fun s x H' hs SA' f' fx=>h (by simp only[refS];rw[if_neg c1,if_neg (by rw[hs];exact fun z=>nomatch z)]) _ { A' with lt:=x } _ H' (.close hs) SA' ⟨x,rfl,.inr fx⟩ f' (fun l2 z=>nomatch z)⟩
 | back =>
   have ht:H t=some (.tup [.str "take back"]):=hd;refine⟨_,rfl,t,_,_,_,rfl,rfl,SqT.of ht,rfl,rfl,_,rfl,?_⟩;rw[Se ⋯];refine iteF (Z1 ?_);refine⟨_,rfl,t,_,_,_,rfl,rfl,SqT.of ht,rfl,rfl,_,rfl,?_⟩;rw[Se ⋯];refine iteF (Z1 ?_);refine⟨_,rfl,t,_,_,_,rfl,rfl,SqT.of ht,rfl,rfl,_,rfl,?_⟩;rw[Se ⋯];refine iteF (Z1 ?_);refine⟨_,rfl,t,_,_,_,rfl,rfl,SqT.of ht,rfl,rfl,_,rfl,?_⟩;rw[Se ⋯];refine iteF (Z1 ?_);refine⟨_,rfl,A'.p,dx,_,rfl,a1,Ye ⋯,A',S,rfl,SA,fun z=>hE .nothing (by simp only[refS];rw[if_pos z]) H (Same.refl _),fun std d s he=>?_⟩;have hne:S.std≠[]:=by rw[he];simp
   obtain⟨S0,hs0⟩:=hbk rfl hne;obtain⟨d0,e1,e2,e3,e4,e5,e6⟩:=id hs0;rw[e1] at he;obtain⟨he1,he2⟩:=List.append_inj' he rfl;have he2:(d0,S0.cur)=(d,s):=by simpa using he2
   cases he2;subst he1;refine⟨S0.ppl,S0.out,e2,fun t' H' ht' SA' f'=>?_⟩;have eS:{ S with ppl:=S0.ppl,out:=S0.out,cur:=S0.cur,std:=S0.std }=S0:=by
    cases S;cases S0;simp only at e3 e4 e5 e6 ⊢;subst e3 e4 e5 e6;rfl
   rw[eS] at SA';exact h (by simp only[refS];rw[if_neg hne]) _ A' S0 H' (.back e1 ht' hs0) SA' (.refl A' H) f' (fun l2 z hx=>by cases z;obtain⟨xs,hx⟩:=hx;rw[ht'] at hx;cases hx)
abbrev Xh:Stmt:=top 75
theorem Le:Zl ["_law_script","_law_crowd","_law_many"] ["_law_script","_law_crowd"] (Zj Xh):=fnS
@[irreducible] def Tr:List Expr:=zbw (Ce (Q8 (Xj (Zp Xh) 0)))
@[irreducible] def Lg:Pos:=zbx (Ce (Q8 (Xj (Zp Xh) 0)))
theorem Hm:Zp Xh=[.Assign (zd2 (Xj (Zp Xh) 0)) (.Subscript (.List Tr Lg) (zfj (Q8 (Xj (Zp Xh) 0))) (zfk (Q8 (Xj (Zp Xh) 0)))) (stP (Xj (Zp Xh) 0)),Xj (Zp Xh) 1]:=by unfold Tr Lg;kernel_rfl
theorem Hn:Jb Tr [4,3,5,4,6,10,4,8]:=by unfold Tr;exact⟨by kernel_rfl,by kernel_rfl⟩
theorem Cw(F:Fun K "_law_pool" "_law_pool" Xh f fd)(T:Tx K mg a)(zke:Z4 P w K mg base "_law_at" 1 ["_law_script","_law_k"] (zbb K))(zoe:Z4 P w K mg base "_law_clubs" 1 ["_law_cell","_law_many"] A5)(znn:Z4 P w K mg base "_law_numbers" 1 ["_law_cell","_law_many"] K0):FnOk P w K mg base (CX1 P w) 2 f fd ["_law_script","_law_crowd"] (D9 K):=by
 refine F.okX Le ⋯ fun _ _ _ _ H _ Q E hr h=>?_;obtain⟨b,ns,cr,rfl,hS,hc1,hc2,h⟩:=h;rw[Hm];refine⟨_,(Zc (pS 2 Le.nd (pI (iL K) (Z8 (Q4 [4,3,5,4,6,10,4,8] Hn)) (Zq Y7 (Zq Xi (pF zke hr (Za (pv 0) (Za Zi Zd))) Zi) Zi)))
 (Ze (Zm (Yc (Za (pF zoe hr (Za (pF zke hr (Za (pv 0) (Za Zi Zd))) (Za (pv 2) Zd))) (Za (pF znn hr (Za (pF zke hr (Za (pv 0) (Za Zi Zd))) (Za (pv 1) Zd))) Zd)))))),?_⟩
 refine zho [4,3,5,4,6,10,4,8] ⋯ fun l H1 q1 s1 fl=>?_;have h0:=zts (Ym ns 0/4) (show (8:Int)≠0 by decide);have h1:=ztl (Ym ns 0/4) (show (0:Int)<8 by decide);refine⟨_,rfl,b,ns,0,rfl,s1.seq hS,_,_,rfl,rfl,⟨by decide,by decide⟩,_,_,rfl,rfl,(show (0:Int)<8 by decide),l,_,_,_,rfl,rfl,SqL.of q1,Wx (xs:=[4,3,5,4,6,10,4,8]) h0 (by show _<((8:Nat):Int);omega),?_⟩;obtain⟨m,hm,hm1,hm2⟩:∃ m:Nat,([4,3,5,4,6,10,4,8]:List Int).getD (Ym ns 0/4%8).toNat 0=m/\3<=m/\m<=10:=by
  have hk:(Ym ns 0/4%8).toNat<8:=by omega
  generalize (Ym ns 0/4%8).toNat=k at hk
  match k,hk with
  | 0,_=>exact⟨4,rfl,by decide,by decide⟩
  | 1,_=>exact⟨3,rfl,by decide,by decide⟩
  | 2,_=>exact⟨5,rfl,by decide,by decide⟩
  | 3,_=>exact⟨4,rfl,by decide,by decide⟩
  | 4,_=>exact⟨6,rfl,by decide,by decide⟩
  | 5,_=>exact⟨10,rfl,by decide,by decide⟩
  | 6,_=>exact⟨4,rfl,by decide,by decide⟩
  | 7,_=>exact⟨8,rfl,by decide,by decide⟩
 rw[hm];refine⟨_,rfl,b,ns,3,rfl,s1.seq hS,_,rfl,_,m,rfl,by omega,fun lc H2 hlc s2 f2=>?_⟩;refine⟨_,rfl,b,ns,2,rfl,(s1.trans s2).seq hS,_,rfl,_,cr,rfl,by omega,fun ln H3 hln s3 f3=>?_⟩;refine⟨sz2,fun t ht=>?_⟩;have s4:=Zf (o:=.tup [.ref lc,.ref ln]) ht;have s13:=s1.trans (s2.trans s3);refine h t lc ln _ _ _ ⟨Zb,s4 _ _ (s3 _ _ hlc),s4 _ _ hln,by rw[Ir];exact⟨hm1,hm2⟩,Cb _ hm2,zbu _ _,by rw[O6];exact⟨hc1,hc2⟩,Cc _ ⋯,zbv _ _⟩ (O6 _ _) (s13.trans s4) (s13.free ht) (s1.free f2) ((s1.trans s2).free f3)
abbrev Yd:Stmt:=top 76
theorem Yu:Zl ["_law_script","_law_pool_here","_law_clubs_here","_law_numbers_here","_law_many","_law_grades","_law_rest_here","_law_deeds_here","_law_k"] ["_law_script","_law_pool_here"] (Zj Yd):=fnS
@[irreducible] def V8:List Expr:=zbw (Q8 (Xj (Zp Yd) 3))
@[irreducible] def Pn:Pos:=zbx (Q8 (Xj (Zp Yd) 3))
theorem Ke:Zp Yd=[Xj (Zp Yd) 0,Xj (Zp Yd) 1,Xj (Zp Yd) 2,.Assign (zd2 (Xj (Zp Yd) 3)) (.List V8 Pn) (stP (Xj (Zp Yd) 3)),Xj (Zp Yd) 4,Xj (Zp Yd) 5,Xj (Zp Yd) 6,Xj (Zp Yd) 7]:=by unfold V8 Pn;kernel_rfl
theorem Kf:Jb V8 [1,2,3,4,5,6,7,8,9,9,9,9,9,8,8,7,6,5]:=by unfold V8;exact⟨by kernel_rfl,by kernel_rfl⟩
theorem Ho(F:Fun K "_law_people" "_law_people" Yd f fd)(T:Tx K mg a)(zke:Z4 P w K mg base "_law_at" 1 ["_law_script","_law_k"] (zbb K))(zlr:Z4 P w K mg base "_law_mix" 1 ["_law_cell","_law_k"] A4):FnOk P w K mg base (CX1 P w) 2 f fd ["_law_script","_law_pool_here"] (Ji K):=by
 refine F.okX Yu ⋯ fun _ _ _ _ H _ Q E hr h=>?_;obtain⟨b,t,lc,ln,ns,cs,nu,rfl,hS,PA,h⟩:=h;rw[Ke];refine⟨_,(Zc (Ko (pv 1) (Wm (K:=K) (n:=2) rfl rfl (Zy (pN 2 Yu.nd) (Zy (pN 3 Yu.nd) Wl))))
 (Zc (pS 4 Yu.nd (Zq Y7 (pF zke hr (Za (pv 0) (Za Zi Zd))) (Zq Yg (Zt (cL K) (by rfl) T.zkj PySem.boot_len (Za (pv 3) Zd)) Zi)))
 (Zc (Z6 (Zo Vt (Zq Y7 (Zq Xi (pF zke hr (Za (pv 0) (Za Zi Zd))) (Zq Yg (Zt (cL K) (by rfl) T.zkj PySem.boot_len (Za (pv 3) Zd)) Zi)) Zi) Zi (Zw _))
  (Ze (pS 4 Yu.nd (Zq Ru (Zt (cL K) (by rfl) T.zkj PySem.boot_len (Za (pv 3) Zd)) (Zq Y7 (pv 4) Zi))))
  Zs)
 (Zc (pS 5 Yu.nd (Z8 (Q4 [1,2,3,4,5,6,7,8,9,9,9,9,9,8,8,7,6,5] Kf)))
 (Zc (pS 6 Yu.nd (pF zke hr (Za (pv 0) (Za Zi Zd))))
 (Zc (pS 7 Yu.nd (Z8 Zd))
 (Zc (Yy PassesOwn.leaving rfl (Y5 rfl T.zk0 (Za (pv 4) Zd)) (pN 8 Yu.nd)
  (Zc (Yk (pv 7) (Yc (Za Zr (Za (pI (iL K) (pv 3) (pv 8)) (Za (pI (iL K) (pv 5) (Zq Y7 (pv 6) Zi)) (Za (pI (iL K) (pv 2) (Zq Y7 (Zq Xi (pv 6) Zi) (Zt (cL K) (by rfl) T.zkj PySem.boot_len (Za (pv 2) Zd)))) Zd))))))
  (Ze (pS 6 Yu.nd (pI (iL K) (Z8 (Za (Zq Xi (Zq Xi (pv 6) Zi) (Zt (cL K) (by rfl) T.zkj PySem.boot_len (Za (pv 2) Zd))) (Za (pF zlr hr (Za (pv 6) (Za (pv 8) Zd))) Zd))) (Zq Y7 (pF zke hr (Za (pv 0) (Za Zi Zd))) Zi))))))
 (Ze (Zm (pv 7)))))))))),?_⟩
 show let y1:TS:=_;let y2:TS:=Z0 _ y1;let y3:TS:=Z0 _ y2;let y4:TS:=Z0 _ y3;let y5:TS:=Z0 _ y4;let y6:TS:=Z0 _ y5;let y7:TS:=Z0 _ y6;Z0 _ y7 _ _ _;intro y1 y2 y3 y4 y5 y6 y7;have sz0:([]:List V).length<=sizeLine:=zs9 _;have hw:(0:Int)<(nu.length:Int)+1:=by omega
 obtain⟨c1,c2⟩:=PA.few;obtain⟨n1,n2⟩:=PA.nfew;refine⟨_,rfl,t,_,rfl,SqT.of PA.tup,rfl,_,_,rfl,_,_,rfl,rfl,?_⟩;walk_at "if";refine⟨_,rfl,b,ns,4,rfl,hS,_,rfl,ln,_,rfl,.inl (SqL.of PA.nums),_,_,rfl,rfl,?_⟩;rw[zsk];refine⟨_,_,rfl,rfl,hw,?_⟩;walk_at "if";have u0:=zts (Ym ns 4) (show (nu.length:Int)+1≠0 by omega);have u1:=ztl (Ym ns 4) hw
 let jv5:L2.St->Hp->Prop:=fun σ' H'=>H'=H/\∃ m:Nat,σ'=[some (.ref b),some (.ref t),some (.ref lc),some (.ref ln),some (.int m),none,none,none,none]/\m<=nu.length
 refine Df (b:=decide (V.int (Ym ns 4/((nu.length:Int)+1)%2)=V.int 1)) jv5 (fun Q q=>?_) (fun _ N hN=>?_) (fun _ N hN=>?_) ?_
 ·refine⟨_,rfl,b,ns,4,rfl,hS,_,rfl,ln,_,rfl,.inl (SqL.of PA.nums),_,_,rfl,rfl,?_⟩;rw[zsk];exact⟨_,_,rfl,rfl,⟨hw,by omega⟩,_,_,rfl,rfl,by omega,rfl,_,rfl,q⟩
 ·refine⟨_,rfl,ln,_,rfl,.inl (SqL.of PA.nums),?_⟩;rw[zsk];refine⟨_,rfl,_,_,rfl,rfl,by omega,_,_,rfl,rfl,hN _ _ ⟨rfl,((nu.length:Int)-Ym ns 4%((nu.length:Int)+1)%2).toNat,?_,by omega⟩⟩;rw[zum ⋯];rfl
 ·refine Z1 (hN _ _ ⟨rfl,(Ym ns 4%((nu.length:Int)+1)).toNat,?_,by omega⟩);rw[zum ⋯];rfl
 rintro σ H' ⟨rfl,m,rfl,hm⟩;refine Cg [1,2,3,4,5,6,7,8,9,9,9,9,9,8,8,7,6,5] ⋯ fun lg H2 hg s2 fg=>?_;refine⟨_,rfl,b,ns,5,rfl,s2.seq hS,sz0,fun r fr=>?_⟩;have s1:=s2.trans (Zf (o:=.lst []) fr);have q1:=Zb (H:=H2) (a:=r) (o:=.lst []);have hg1:=Zf (o:=.lst []) fr _ _ hg;walk_at "if";generalize upd H2 r (.lst [])=H1 at s1 q1 hg1 ⊢;have fr0:=s2.free fr;have frg:lg≠r:=Zg hg fr
 let jv6:Nat->L2.St->Hp->Prop:=fun i σ H3=>(∃ v8 R,σ=[some (.ref b),some (.ref t),some (.ref lc),some (.ref ln),some (.int m),some (.ref lg),some (.int R),some (.ref r),v8])/\(∀ x o,H1 x=some o->x≠r->H3 x=some o)/\∃ ts es,H3 r=some (.lst ts)/\Yb H3 ts ((es:List P3).map enV)/\es.length=i/\es.map (·.1)=nu.take i/\(∀ x∈es,1<=x.2.1/\x.2.1<=9/\x.2.2∈cs)
 refine⟨_,rfl,_,rfl,by omega,by omega,Xl jv6
  ⟨⟨_,_,rfl⟩,fun _ _ e _=>e,[],[],q1,.nil,rfl,rfl,(fun m z=>nomatch z)⟩ ?_ ?_⟩
 ·rintro i σ H3 hi ⟨⟨v8,R,rfl⟩,k,ts,es,hr',tl,hml,enu,eok⟩;rw[zs0] at hi;rw[ztx];have s3:Same H' H3:=fun x o e=>k _ _ (s1 _ _ e) (Zg e fr0);have hg3:=k _ _ hg1 frg;have PA3:=PA.same s3;have hcl:(0:Int)<(cs.length:Int):=by omega
  have w0:=zts R (show (18:Int)≠0 by omega);have w1:=ztl R (show (0:Int)<18 by omega);have y0:=zts (R/18) (show (cs.length:Int)≠0 by omega);have y1:=ztl (R/18) hcl;have hgr:=Wx (xs:=Ec) w0 (by show _<((18:Nat):Int);omega);have rgr:=B3 (R%18).toNat ⋯;generalize hgv:Ec.getD (R%18).toNat 0=gv at hgr rgr;have hcs:=Wx (xs:=cs) y0 ⋯;have mcs:=Q5 (ns:=cs) (i:=(R/18%(cs.length:Int)).toNat) ⋯;generalize cs.getD (R/18%(cs.length:Int)).toNat 0=c at hcs mcs;have hni:i<nu.length:=by omega
  have hnu:nu[i]?=some (nu[i]'hni):=zsl hni;have etk:nu.take (i+1)=nu.take i++[nu[i]'hni]:=ztg hni;generalize nu[i]'hni=n at hnu etk;walk_at "if";refine⟨_,rfl,r,_,rfl,hr',?_⟩;refine⟨_,rfl,_,rfl,ln,_,_,_,rfl,rfl,SqL.of PA3.nums,Z9 (by rw[zsr,hnu];rfl),_,rfl,_,rfl,_,_,rfl,rfl,⋯,lg,_,_,_,rfl,rfl,SqL.of hg3,hgr,?_⟩;refine⟨_,rfl,_,rfl,_,_,rfl,rfl,⟨by omega,by omega⟩,_,rfl,lc,_,rfl,.inl (SqL.of PA3.clubs),?_⟩;rw[zsk];refine⟨_,_,rfl,rfl,hcl,lc,_,_,_,rfl,rfl,SqL.of PA3.clubs,hcs,(by show 4<=sizeLine;rw[sizeLine_eq];decide),fun tt ft=>?_⟩;have s4:=Zf (o:=.tup [.str "enrol",.int n,.int gv,.int c]) ft;have q4:=Zb (H:=H3) (a:=tt) (o:=.tup [.str "enrol",.int n,.int gv,.int c]);generalize upd H3 tt (.tup [.str "enrol",.int n,.int gv,.int c])=H4 at s4 q4 ⊢;have tln:=tl.length;rw[zsk] at tln;refine⟨ts,s4 _ _ hr',szN ⋯,?_⟩;have k5:∀ x o,H4 x=some o->x≠r->upd H4 r (.lst (ts++[.ref tt])) x=some o:=fun x o e n=>by rw[Zh n];exact e
  have q5:=Zb (H:=H4) (a:=r) (o:=.lst (ts++[.ref tt]));have kt5:∀ x ys,H4 x=some (.tup ys)->upd H4 r (.lst (ts++[.ref tt])) x=some (.tup ys):=fun x ys e=>k5 _ _ e (Yp e (s4 _ _ hr') (by intro z;cases z));dsimp only;generalize upd H4 r (.lst (ts++[.ref tt]))=H5 at k5 q5 kt5 ⊢;have s05:Same H' H5:=fun x o e=>k5 _ _ (s4 _ _ (s3 _ _ e)) (Zg e fr0);have PA5:=PA.same s05;obtain⟨mx,hmx,hmx1⟩:∃ mx:Nat,Ym ns 0%2=mx/\mx<=1:=⟨(Ym ns 0%2).toNat,by omega,by omega⟩;obtain⟨z,hz⟩:=at2 (R/18/(cs.length:Int)) (mixS R (i:Int)) hmx1;refine⟨_,rfl,_,_,rfl,rfl,⟨by omega,by omega⟩,_,rfl,lc,_,rfl,.inl (SqL.of PA5.clubs),?_⟩;rw[zsk];refine⟨_,_,rfl,rfl,⟨hcl,by omega⟩,_,rfl,_,rfl,_,_,rfl,sz2,fun l2 f2=>?_⟩;have s6:=Zf (o:=.lst [.int (R/18/(cs.length:Int)),.int (mixS R (i:Int))]) f2;have q6:=Zb (H:=H5) (a:=l2) (o:=.lst [.int (R/18/(cs.length:Int)),.int (mixS R (i:Int))]);generalize upd H5 l2 (.lst [.int (R/18/(cs.length:Int)),.int (mixS R (i:Int))])=H6 at s6 q6 ⊢;refine⟨_,rfl,b,ns,0,rfl,(s05.trans s6).seq hS,_,_,rfl,rfl,⋯,l2,_,_,_,rfl,rfl,SqL.of q6,(by rw[hmx];exact hz),?_⟩;refine⟨⟨_,_,rfl⟩,fun x o e n=>s6 _ _ (k5 _ _ (s4 _ _ (k _ _ e n)) n),ts++[.ref tt],es++[(n,gv,c)],s6 _ _ q5,?_,by rw[zsn,hml];rfl,?_,?_⟩
  ·rw[zsq];exact(tl.mono fun x ys e=>s6 _ _ (kt5 _ _ (s4 _ _ e))).snoc (s6 _ _ (kt5 _ _ q4))
  ·rw[zsq,enu,etk];rfl
  ·intro m hm;rcases zsv.mp hm with hm|hm
   ·exact eok m hm
   ·rw[zsp.mp hm];exact⟨rgr.1,rgr.2,mcs⟩
 ·rintro σ H3 ⟨⟨v8,R,rfl⟩,k,ts,es,hr',tl,hml,enu,eok⟩;rw[zs0] at hml enu;refine⟨_,rfl,h r ts es H3 hr' tl (by rw[hml];exact enu) ⋯ eok (fun x o e=>k _ _ (s1 _ _ e) (Zg e fr0)) fr0⟩
abbrev Tb:Stmt:=top 77
theorem Ug:Zl ["_law_season","_law_pages","_law_deeds_here","_law_deed"] ["_law_season","_law_pages","_law_deeds_here"] (Zj Tb):=fnS
theorem Kg(F:Fun K "_law_enrolled" "_law_enrolled" Tb f fd)(T:Tx K mg a)(zl5:Z4 P w K mg base "_law_do" 8 ["_law_season","_law_deed"] (Ld K (ca a)))(zll:Z4 P w K mg base "_law_paged" 3 ["_law_pages","_law_deed"] (Ea K)):FnOk P w K mg base (CX1 P w) 9 f fd ["_law_season","_law_pages","_law_deeds_here"] (Jk K (ca a)):=by
 refine F.okX Ug ⋯ fun _ _ _ _ H _ Q E hr h=>?_;obtain⟨mb,A',l,le,ts,es,ds,d,P0,S,nu,n,rfl,SA,hl,hlo,F,hle,hlf,tl,nd,eok,hp30,hn90,hcur,hlen,h⟩:=h;refine⟨_,(Zc (Yy PassesOwn.leaving rfl (Yj (K:=K) rfl (pv 2)) (pN 3 Ug.nd)
  (Zc (Z2 (pF zl5 hr (Za (pv 0) (Za (pv 3) Zd))))
  (Ze (pS 1 Ug.nd (pF zll hr (Za (pv 1) (Za (pv 3) Zd)))))))
 (Ze (Zm (pv 1)))),?_⟩
 have tln:=tl.length;rw[zsk] at tln
 let jv7:Nat->L2.St->Hp->Prop:=fun i σ H1=>∃ A1 l1 ds1 d1 P1 S1 v,σ=[some (.ref A'.p),some (.ref l1),some (.ref le),v]/\Zv (ca a) H1 A1 S1/\H1 l1=some (.lst ((ds1++[d1]).map V.ref))/\l1∉A1.fp/\Si mb (·∉A1.fp) H1 nu (n+i) ds1 d1 P1 S1/\FrN A' A1 H H1/\S1.cur=none/\S1.led=S.led/\S1.len=S.len/\S1.ppl=S.ppl++es.take i
 refine⟨_,rfl,le,rfl,⟨_,SqL.of hle⟩,Xv (K:=K) (a:=le) (xs:=ts) jv7
  ⟨A',l,ds,d,P0,S,_,rfl,SA,hl,hlo,F,.refl _ _,hcur,rfl,rfl,by simp⟩ (fun i σ H1 _ ⟨A1,_,_,_,_,_,_,_,_,_,_,_,f,_⟩=>SqL.of (f.k _ _ hle hlf).1) ?_ ?_⟩
 ·rintro i x σ H1 hx ⟨A1,l1,ds1,d1,P1,S1,v,rfl,SA1,hl1,ho1,F1,f1,e1,e2,e3,e4⟩;have hi:i<ts.length:=(zsm.mp hx).1;have hie:i<es.length:=by omega
  have hex:es[i]?=some (es[i]'hie):=zsl hie;have etk:=X8 hex;have hmem:es[i]'hie∈es:=ztf hie;obtain⟨t,ht1,ht2⟩:∃ t,x=.ref t/\H t=some (.tup (enV (es[i]'hie))):=by
   obtain⟨t,r,z1,z2,z3⟩:=tl.get hx;rw[zsr,hex] at z2;cases z2;exact⟨t,z1,z3⟩
  have hfr:(es[i]'hie).1∉(es.take i).map (·.1):=fun z=>by
   obtain⟨y,hy,ey⟩:=zsu.mp z;obtain⟨j,hj,rfl⟩:=ztn hy;rw[zub] at hj;rw[List.getElem_take] at ey;have h1:(es.map (·.1))[j]'(by rw[zsk];omega)=(es.map (·.1))[i]'(by rw[zsk];omega):=by rw[List.getElem_map,List.getElem_map];exact ey
   have:=(List.getElem_inj nd).mp h1;omega
  have hok:=eok _ hmem;generalize es[i]'hie=x0 at hex etk hmem ht2 hfr hok;obtain⟨k,gr,c⟩:=x0;subst ht1;have hD:X2 (·∉A1.fp) H1 t (.enrol k gr c):=f1.kt _ _ ht2;have g:To S1 (.enrol k gr c):=by
   refine⟨by rw[e2,e3];exact hlen,e1,hok.2.1,?_,?_⟩
   ·rw[e4,zsq];intro z;rcases zsv.mp z with z|z
    ·exact hok.2.2 z
    ·exact hfr z
   ·rw[e4,zsn,zub];omega
  obtain⟨b1,b2,b3,b4,b5,b6,b7,b8,b9,b10⟩:=F1.pre g ⋯;refine⟨_,rfl,_,rfl,Ld.of (E':=E) ⟨A1,S1,t,_,(by rw[f1.p];rfl),SA1,hD,g,b1,b2,b3,b4,b5,b6,b7,b8,b9,b10,fun v' A2 S2 H2 af SA2 nx fr _=>?_⟩⟩;have f12:=FrN.next SA1 nx fr;obtain⟨c1,c2,c3,c4,c5⟩:=F1.pre2 g ⋯
  refine⟨_,rfl,_,rfl,(·∉A2.fp),l1,t,ds1,d1,P1,.enrol k gr c,rfl,(f12.k _ _ hl1 ho1).1,F1.pg.fr f12,hD.fr f12,c1,c2,c3,c4,c5,fun l3 d3 H3 hl3 pg s3 fl3 fd3=>?_⟩;obtain⟨ds2,d2,P2,ek,Pe,eP,_⟩:=turn F1 SA1 af SA2 nx fr g (fun k' gr' c' z=>by cases z;exact hok.1) pg s3 fd3;cases af with
  | enrol k gr c =>
    rw[ek] at hl3;refine⟨A2,l3,ds2,d2,P2,_,_,rfl,SA2.same s3,hl3,SA2.newOk _ fl3,Pe.full (fun s hs=>?_) (fun z=>?_),f1.trans (f12.trans (.of s3)),e1,e2,e3,?_⟩
    ·have hs:S1.cur=some s:=hs;rw[e1] at hs;cases hs
    ·rw[eP nofun];show P1.mv=_;rw[F1.re.mv z,Of e1];exact(Of e1).symm
    ·show S1.ppl++[(k,gr,c)]=_;rw[e4,etk,zt3]
 ·rintro σ H1 ⟨A1,l1,ds1,d1,P1,S1,v,rfl,SA1,hl1,ho1,F1,f1,e1,e2,e3,e4⟩;rw[tln] at F1;exact⟨_,rfl,h A1 l1 ds1 d1 P1 S1 H1 SA1 hl1 ho1 F1 f1 e1 e2 e3⟩
abbrev X6:Stmt:=top 78
theorem Cy:Zl ["_law_script"] ["_law_script"] (Zj X6):=fnS
@[irreducible] def Ts:List Expr:=zbw (Ce (zfi (Xj (Zp X6) 0)))
@[irreducible] def Lh:Pos:=zbx (Ce (zfi (Xj (Zp X6) 0)))
theorem Hq:Zp X6=[.Return (some (.Subscript (.List Ts Lh) (zfj (zfi (Xj (Zp X6) 0))) (zfk (zfi (Xj (Zp X6) 0))))) (stP (Xj (Zp X6) 0))]:=by unfold Ts Lh;kernel_rfl
theorem Hr:Jb Ts [0,1,2,3,4,5,6,7,8,9,10,0,0,0,1,1,1,2,2,0,1,3]:=by unfold Ts;exact⟨by kernel_rfl,by kernel_rfl⟩
theorem Cz(F:Fun K "_law_rest" "_law_rest" X6 f fd)(T:Tx K mg a)(zke:Z4 P w K mg base "_law_at" 1 ["_law_script","_law_k"] (zbb K)):FnOk P w K mg base (CX1 P w) 2 f fd ["_law_script"] (D8 K):=by
 refine F.okX Cy ⋯ fun _ _ _ _ H _ Q E hr h=>?_;obtain⟨b,ns,rfl,hS,h⟩:=h;rw[Hq];refine⟨_,(Ze (Zm (pI (iL K) (Z8 (Q4 [0,1,2,3,4,5,6,7,8,9,10,0,0,0,1,1,1,2,2,0,1,3] Hr)) (Zq Y7 (pF zke hr (Za (pv 0) (Za Zi Zd))) Zi)))),?_⟩;refine zhn M8 ⋯ fun l H1 q1 s1 fl=>?_;have h0:=zts (Ym ns 1) (show (22:Int)≠0 by decide);have h1:=ztl (Ym ns 1) (show (0:Int)<22 by decide);have hat:=Wx (xs:=M8) h0 (show _<((22:Nat):Int) by omega);have hb:0<=M8.getD (Ym ns 1%22).toNat 0/\M8.getD (Ym ns 1%22).toNat 0<=10:=by
  generalize (Ym ns 1%22).toNat=k;rw[ztc];cases e:M8[k]? with
  | none=>exact⟨by decide,by decide⟩
  | some x =>
    have hm:=zsy e;have:∀ x∈M8,0<=x/\x<=10:=by decide
    exact this x hm
 have hfin:=h (M8.getD (Ym ns 1%22).toNat 0).toNat H1 rfl ⋯ s1;rw[zum hb.1] at hfin;exact⟨_,rfl,b,ns,1,rfl,s1.seq hS,_,_,rfl,rfl,(show (0:Int)<22 by decide),l,_,_,_,rfl,rfl,SqL.of q1,hat,hfin⟩
abbrev Ri:Stmt:=top 79
theorem Hs:Zl ["_law_script"] ["_law_script"] (Zj Ri):=fnS
theorem Hu(F:Fun K "_law_rounds" "_law_rounds" Ri f fd)(T:Tx K mg a)(zke:Z4 P w K mg base "_law_at" 1 ["_law_script","_law_k"] (zbb K)):FnOk P w K mg base (CX1 P w) 2 f fd ["_law_script"] (Ja K):=by
 refine F.okX Hs ⋯ fun _ _ _ _ H _ Q E hr h=>?_;obtain⟨b,ns,rfl,hS,h⟩:=h;refine⟨_,(Ze (Zm (pI (iL K) (Z8 (Za Zi (Za (Zq Yg Zi (Zq Y7 (Zq Xi (pF zke hr (Za (pv 0) (Za Zi Zd))) Zi) Zi)) Zd))) (Zq Y7 (Zq Xi (pF zke hr (Za (pv 0) (Za Zi Zd))) Zi) Zi)))),?_⟩;refine⟨_,rfl,b,ns,1,rfl,hS,?_⟩;refine⟨_,_,rfl,rfl,⟨by decide,by decide⟩,_,_,rfl,rfl,(show (0:Int)<60 by decide),_,_,rfl,rfl,sz2,fun l hl=>?_⟩;have s1:=Zf (o:=.lst [V.int 60,V.int (1+Ym ns 1/22%60)]) hl;have q1:upd H l (.lst [V.int 60,V.int (1+Ym ns 1/22%60)]) l=some (.lst [V.int 60,V.int (1+Ym ns 1/22%60)]):=Zb;refine⟨_,rfl,b,ns,0,rfl,s1.seq hS,_,_,rfl,rfl,⟨by decide,by decide⟩,_,_,rfl,rfl,(show (0:Int)<2 by decide),?_⟩;have h01:Ym ns 0/2%2=0\/Ym ns 0/2%2=1:=by omega
 have hat:atI [V.int 60,V.int (1+Ym ns 1/22%60)] (Ym ns 0/2%2)=some (.int (((Qc ns).toNat:Nat):Int))/\1<=(Qc ns).toNat/\(Qc ns).toNat<=60:=by
  unfold Qc;rcases h01 with e|e
  ·rw[e,if_pos rfl];exact⟨rfl,by decide,by decide⟩
  ·rw[e,if_neg ⋯,zum ⋯];exact⟨rfl,by omega,by omega⟩
 exact⟨l,_,_,_,rfl,rfl,SqL.of q1,hat.1,h _ _ rfl hat.2.1 hat.2.2 s1⟩
abbrev Uh:Stmt:=top 80
theorem Yz:Zl ["_law_found","_law_page","_law_k","_law_listed","_law_goes","_law_moves","_law_may","_law_due"] ["_law_found","_law_page"] (Zj Uh):=fnS
theorem Mr(F:Fun K "_law_facts_are" "_law_facts_are" Uh f fd)(T:Tx K mg a)(znf:Z4 P w K mg base "_law_rows_are" 4 ["_law_found","_law_due"] (Gs K)):FnOk P w K mg base (CX1 P w) 5 f fd ["_law_found","_law_page"] (Jn K):=by
 refine F.okX Yz ⋯ fun _ _ _ _ H _ Q E hr h=>?_;obtain⟨ok,l,d,ls,P0,rfl,hl,PA,PO,rl,h⟩:=h;have hu:=Wa hr;refine⟨_,(Zc (Z6 (PW.pt (Td (Vd (W3 (Zt (Up (K:=K) rfl) (by rfl) T.zky PyProof.Rows.boot_isinstance (Za (pv 0) (Za (Qt rfl T.zlw PyProof.Rows.boot_list (show RelV (.ty "list") _ from rfl)) Zd))))) (Vx (Zo An (Zt (cL K) (by rfl) T.zkj PySem.boot_len (Za (pv 0) Zd)) (Zt (cL K) (by rfl) T.zkj PySem.boot_len (Za (pD hu (pv 1) Zr) Zd)) (Zw _)))))
  (Ze (Zm We))
  Zs)
 (Zc (Yy PassesOwn.leaving rfl (Y5 rfl T.zk0 (Za (Zt (cL K) (by rfl) T.zkj PySem.boot_len (Za (pv 0) Zd)) Zd)) (pN 2 Yz.nd)
  (Zc (Ko (pI (iL K) (pD hu (pv 1) Zr) (pv 2)) (Wm (K:=K) (n:=4) rfl rfl (Zy (pN 3 Yz.nd) (Zy (pN 4 Yz.nd) (Zy (pN 5 Yz.nd) (Zy (pN 6 Yz.nd) Wl))))))
  (Zc (Tp (i:=7) Yz.nd rfl rfl rfl (cT ["_law_goes","_law_listed"] [4,3]) (Y5 rfl T.zk0 (Za (Zt (cL K) (by rfl) T.zkj PySem.boot_len (Za (pv 3) Zd)) Zd)) (fun _ _ _ _ _=>V7) (fun _ _ _ _ _=>(Yc (Za (pI (iU K) (pI (iL K) (pv 2) (pv 0)) Zi) (Za (pI (iU K) (pI (iL K) (pv 2) (pv 0)) Zi) (Za (pI (iU K) (pI (iL K) (pv 2) (pv 0)) Zi) (Za (pI (iL K) (pv 1) (pv 0)) Zd)))))))
  (Ze (Z6 (Vd (W3 (pF znf hr (Za (pI (iL K) (pv 0) (pv 2)) (Za (pv 7) Zd)))))
   (Ze (Zm We))
   Zs)))))
 (Ze (Zm We)))),?_⟩
 obtain⟨lp,lo,lv,dv,li,lg,lm,a1,PB,okd⟩:=id PA.split;obtain⟨vts,u1,u2,u3⟩:=PB.vv;have hvl:=u2.length;have hll:=rl.length;rw[zsk] at hll;have hz:=PO.1;refine⟨_,rfl,_,_,_,_,rfl,.of (.lst hl),.inl ⟨_,rfl⟩,Bo K,_,rfl,?_⟩;refine iteF ?_;refine⟨_,rfl,l,_,rfl,.inl (SqL.of hl),_,rfl,d,_,rfl,DGet.k (k:=.inr "over") a1,lv,vts,rfl,.inl (SqL.of u1),rfl,_,rfl,?_⟩;rw[show (ls.map V.ref).length=vts.length by rw[zsk];omega,zss rfl];refine iteF (Z1 ?_);dsimp only
 let jv8:Nat->L2.St->Hp->Prop:=fun i σ H'=>(∃ v2 v3 v4 v5 v6 v7,σ=[some (.ref l),some (.ref d),v2,v3,v4,v5,v6,v7])/\Same H H'
 refine⟨_,rfl,l,_,rfl,.inl (SqL.of hl),_,rfl,by omega,by rw[zsk];omega,Xl jv8 ⟨⟨_,_,_,_,_,_,rfl⟩,Same.refl _⟩ ?_ ?_⟩
 ·rintro i σ H1 hi ⟨⟨v2,v3,v4,v5,v6,v7,rfl⟩,s1⟩;rw[zs0,zsk] at hi;rw[ztx];have hiv:i<vts.length:=by omega
  obtain⟨t,l1,g1,m1,y1,ts,s,ex,hs,ht,hl1,tl1,hg1,_,_⟩:=u2.get (zsl hiv);have hvt:vts[i]?=some (.ref t):=by rw[zsl hiv,ex]
  obtain⟨lr,trs,w1,w2,w3⟩:=rl.getR (i:=i) (rs:=Z5 s) (by rw[zsr,hs];rfl);obtain⟨p1,p2,p3⟩:=PO.2.2 s (zsy hs);have tln:ts.length=s.ms.length:=by rw[tl1.length,zsk]
  have rln:(Z5 s).length=s.ms.length:=by unfold Z5;rw[zuk,p2,Nat.min_self]
  walk_at "if";refine⟨_,rfl,d,_,rfl,DGet.k (k:=.inr "over") (s1 _ _ a1),_,rfl,lv,_,_,_,rfl,rfl,SqL.of (s1 _ _ u1),Z9 hvt,t,_,rfl,SqT.of (s1 _ _ ht),rfl,_,_,rfl,_,_,rfl,_,_,rfl,_,_,rfl,rfl,?_⟩;walk_at "if";refine⟨_,rfl,l1,ts,rfl,.inl (SqL.of (s1 _ _ hl1)),_,rfl,by omega,by omega,?_⟩;rw[zs0];refine Pw (fun j ys H'=>Same H1 H'/\Yb H' ys (((Z5 s).take j).map row4)/\ys.length=j) ⟨Same.refl _,.nil,rfl⟩ (szN ⋯) (fun j ys H' ⟨_,_,e⟩=>by omega) (fun j ys H' hj p=>?_) (fun ys H' p l' hl'=>?_)
  ·obtain⟨s2,tl2,hyl⟩:=p;have s02:=s1.trans s2;rw[ztx];have hj2:j<s.gv.length:=by omega
   have hgj:s.gv[j]?=some (s.gv[j]'hj2):=zsl hj2;have hone:=p3 _ (ztf hj2);generalize s.gv[j]'hj2=xv at hgj hone;obtain⟨tj,mj,e1,hmj,htj⟩:=K1 tl1 (zsl hj);have htj':ts[j]?=some (.ref tj):=by rw[zsl hj,e1]
   have hr3:(Z5 s)[j]?=some (K5 mj xv):=by unfold Z5;rw[List.getElem?_zipWith,hmj,hgj]
   unfold tYes;dsimp only;rw[if_pos rfl];refine⟨_,rfl,_,rfl,l1,_,_,_,rfl,rfl,SqL.of (s02 _ _ hl1),Z9 htj',tj,_,_,_,rfl,rfl,SqT.of (s02 _ _ htj),(show atI (pV mj) 0=some _ from rfl),?_⟩;refine⟨_,rfl,_,rfl,l1,_,_,_,rfl,rfl,SqL.of (s02 _ _ hl1),Z9 htj',tj,_,_,_,rfl,rfl,SqT.of (s02 _ _ htj),(show atI (pV mj) 1=some _ from rfl),?_⟩;refine⟨_,rfl,_,rfl,l1,_,_,_,rfl,rfl,SqL.of (s02 _ _ hl1),Z9 htj',tj,_,_,_,rfl,rfl,SqT.of (s02 _ _ htj),(show atI (pV mj) 2=some _ from rfl),?_⟩;refine⟨_,rfl,_,rfl,g1,_,_,_,rfl,rfl,SqL.of (s02 _ _ hg1),Z9 hgj,(by show 4<=sizeLine;rw[sizeLine_eq];decide),fun t9 f9=>?_⟩;have s9:=Zf (o:=.tup [.int mj.1,.int mj.2.1,.int mj.2.2,xv]) f9;refine⟨s2.trans s9,?_,by rw[zsn,hyl];rfl⟩;rw[X8 hr3,zsq];refine(tl2.same s9).snoc ?_;have er:row4 (K5 mj xv)=[.int mj.1,.int mj.2.1,.int mj.2.2,xv]:=by
    rcases hone with rfl|⟨w,rfl⟩<;>rfl
   rw[er];exact Zb
  ·obtain⟨s2,tl2,hyl⟩:=p;rw[tln,<- rln,zs7] at tl2;have s3:=s2.trans (Zf (o:=.lst ys) hl');have q3:=Zb (H:=H') (a:=l') (o:=.lst ys);have tl3:=tl2.same (Zf (o:=.lst ys) hl');show Vb 7 (V.ref l') _ (upd H' l' (.lst ys)) _;generalize upd H' l' (.lst ys)=H3 at s3 q3 tl3 ⊢;have s03:=s1.trans s3;walk_at "if";refine⟨_,rfl,_,rfl,l,_,_,_,rfl,rfl,SqL.of (s03 _ _ hl),Z9 (by rw[zsr,w1];rfl),_,rfl,lr,l',trs,ys,(Z5 s).map row4,rfl,s03 _ _ w2,SqL.of q3,w3.same s03,tl3,fun r hr=>?_,by rw[zsk];omega,true,rfl,iteF (Z1 ⟨⟨_,_,_,_,_,_,rfl⟩,s03⟩)⟩;obtain⟨q,_,rfl⟩:=zsu.mp hr;refine⟨by show 4<=1000;decide,fun x hx=>?_⟩;simp[row4] at hx;rcases hx with rfl|rfl|rfl|rfl
   ·exact .inr ⟨_,rfl⟩
   ·exact .inr ⟨_,rfl⟩
   ·exact .inr ⟨_,rfl⟩
   ·cases q.w with
    | none=>exact .inl rfl
    | some n=>exact .inr ⟨_,rfl⟩
 ·rintro σ H1 ⟨⟨v2,v3,v4,v5,v6,v7,rfl⟩,s1⟩;exact h H1 s1
abbrev Qp:Stmt:=top 83
theorem Wn:Zl ["_law_page","_law_cell","_law_pool_here","_law_mixed","_law_at_here","_law_deeds_here","_law_day","_law_share","_law_here"] ["_law_page","_law_cell","_law_pool_here","_law_mixed"] (Zj Qp):=fnS
theorem El(F:Fun K "_law_deeds" "_law_deeds" Qp f fd)(T:Tx K mg a)(zno:Z4 P w K mg base "_law_matches" 2 ["_law_cell","_law_clubs_here","_law_most","_law_mixed"] (Lb K)):FnOk P w K mg base (CX1 P w) 3 f fd ["_law_page","_law_cell","_law_pool_here","_law_mixed"] (Jo K):=by
 refine F.okX Wn ⋯ fun _ _ _ _ H _ Q E hr h=>?_;obtain⟨ok,d,t,lc,ln,P0,cell,cs,nu,mixed,rfl,PA,PL,hmx,hov,hpp,h⟩:=h;have hu:=Wa hr;refine⟨_,(Zc (pS 4 Wn.nd (Zq Yg (Zt (cL K) (by rfl) T.zkj PySem.boot_len (Za (pD hu (pv 0) Zr) Zd)) Zi))
 (Zc (pS 5 Wn.nd (Z8 (Za (Yc (Za Zr (Za (pF zno hr (Za (Zq Xi (pv 1) Zi) (Za (pI (iU K) (pv 2) Zi) (Za Zi (Za (pv 3) Zd))))) Zd))) Zd)))
 (Zc (Yy PassesOwn.leaving rfl (Yj (K:=K) rfl (Z8 (Za (Yc (Za (pv 4) (Za Zi Zd))) (Za (Yc (Za (Zq Yg (pv 4) Zi) (Za Zi Zd))) Zd)))) (Wm (K:=K) (n:=2) rfl rfl (Zy (pN 6 Wn.nd) (Zy (pN 7 Wn.nd) Wl)))
  (Zc (Tp (i:=8) Wn.nd rfl rfl rfl (cT ["_law_day","_law_page"] [6,0]) (Yj (K:=K) rfl (pD hu (pv 0) Zr)) (fun _ _ _ _ _=>Kk (Zo (Ll (K:=K) rfl hr.units) (Yc (Za (pv 1) (Za (pI (iU K) (pv 0) Zi) Zd))) (pD hu (pv 2) Zr) (by with_unfolding_all rfl))) (fun _ _ _ _ _=>(pI (iU K) (pv 0) Zi)))
  (Ze (Z6 (PW.pt (Fe (Zo (ze8 (K:=K) rfl hr.units) (pv 8) (Z8 Zd) (Zw _)) (Fe (Zo Rw (Zq Y7 (pv 1) (pv 7)) Zi (Zw _)) (Fd (Zo zcj (pv 6) (pD hu (pv 0) Zr) (Zw _))))))
   (Ze (Yk (pv 5) (Yc (Za Zr (Za (pv 6) (Za (pI (iL K) (pv 8) (Zq Y7 (Zq Xi (pv 1) Zi) (Zt (cL K) (by rfl) T.zkj PySem.boot_len (Za (pv 8) Zd)))) Zd))))))
   Zs))))
 (Ze (Zm (pv 5)))))),?_⟩
 obtain⟨lp,lo,lv,dv,li,lg,lm,a1,PB,okd⟩:=id PA.split;obtain⟨vts,v1,v2,v3⟩:=PB.vv;obtain⟨pts,p1,p2,p3⟩:=PB.pp;obtain⟨ots,o1,o2,o3⟩:=PB.oo;have hpl:pts.length=P0.ppl.length:=by rw[p2.length,zsk]
 refine⟨_,rfl,d,_,rfl,DGet.k (k:=.inr "over") a1,lv,vts,rfl,.inl (SqL.of v1),_,_,rfl,rfl,?_⟩;rw[v2.length];walk_at "if";have few:=PL.few;refine⟨_,rfl,_,_,rfl,rfl,⟨by omega,by omega⟩,_,rfl,t,_,_,_,rfl,rfl,SqT.of PL.tup,rfl,_,rfl,lc,cs,_,5,mixed,rfl,PL.clubs,by omega,by omega,PL.cnd,PL.crng,by omega,hmx,fun lm' ms' ms H1 hlm tl hml gm s1 flm=>⟨sz2,fun tt ft=>⟨(by show 1<=sizeLine;rw[sizeLine_eq];decide),fun lD flD=>?_⟩⟩⟩;have s2:=Zf (o:=.tup [.str "draw up",.ref lm']) ft;have q2:=Zb (H:=H1) (a:=tt) (o:=.tup [.str "draw up",.ref lm']);generalize upd H1 tt (.tup [.str "draw up",.ref lm'])=H2 at s2 q2 flD ⊢;have s3:=Zf (o:=.lst [.ref tt]) flD;have q3:=Zb (H:=H2) (a:=lD) (o:=.lst [.ref tt]);have s13:=(s1.trans s2).trans s3;have DL:Xr (fun x=>H x=none/\x≠lD) (upd H2 lD (.lst [.ref tt])) [.ref tt] [.draw ms]:=⟨rfl,fun i x hx=>by
  match i,hx with
  | 0,hx=>cases hx;exact⟨tt,.draw ms,rfl,rfl,lm',ms',s3 _ _ q2,s3 _ _ (s2 _ _ hlm),(tl.same s2).same s3,flm,Zg (s2 _ _ hlm) flD⟩
  | i+1,hx=>cases hx⟩
 have fD:H lD=none:=(s1.trans s2).free flD;generalize upd H2 lD (.lst [.ref tt])=H3 at s3 q3 s13 DL ⊢;walk_at "if";refine⟨_,rfl,sz2,fun t1 f1=>⟨_,rfl,_,_,rfl,rfl,sz2,fun t2 f2=>⟨sz2,fun l2 f3=>?_⟩⟩⟩;have s4:=Zf (o:=.tup [.int ((P0.over.length:Int)+1),.int 3]) f1;have q4:=Zb (H:=H3) (a:=t1) (o:=.tup [.int ((P0.over.length:Int)+1),.int 3]);generalize upd H3 t1 (.tup [.int ((P0.over.length:Int)+1),.int 3])=H4 at s4 q4 f2 f3 ⊢;have s5:=Zf (o:=.tup [.int ((P0.over.length:Int)+1+1),.int 4]) f2;have q5:=Zb (H:=H4) (a:=t2) (o:=.tup [.int ((P0.over.length:Int)+1+1),.int 4]);generalize upd H4 t2 (.tup [.int ((P0.over.length:Int)+1+1),.int 4])=H5 at s5 q5 f3 ⊢;have s6:=Zf (o:=.lst [.ref t1,.ref t2]) f3;have q6:=Zb (H:=H5) (a:=l2) (o:=.lst [.ref t1,.ref t2]);have s36:=(s4.trans s5).trans s6;have n26:l2≠lD:=fun z=>by have:=(s4.trans s5) _ _ q3;rw[<- z,f3] at this;cases this
 generalize upd H5 l2 (.lst [.ref t1,.ref t2])=H6 at s6 q6 s36 ⊢;have s06:=s13.trans s36;have tx:∀ (i:Nat) x,([V.ref t1,V.ref t2]:List V)[i]?=some x->∃ t sh,x=.ref t/\H6 t=some (.tup [.int ((P0.over.length:Int)+1+(i:Int)),.int sh])/\0<sh:=fun i x hx=>by
  match i,hx with
  | 0,hx=>cases hx;exact⟨t1,3,rfl,by rw[(s5.trans s6) _ _ q4];simp,by decide⟩
  | 1,hx=>cases hx;exact⟨t2,4,rfl,s6 _ _ q5,by decide⟩
  | i+2,hx=>cases hx
 let jv1:Nat->L2.St->Hp->Prop:=fun i σ H'=>(∃ v6 v7 v8,σ=[some (.ref d),some (.int cell),some (.ref t),some (.int mixed),some (.int ((P0.over.length:Int)+1)),some (.ref lD),v6,v7,v8])/\(∀ x o,H6 x=some o->x≠lD->H' x=some o)/\∃ ts ws,H' lD=some (.lst ts)/\Xr (fun x=>H x=none/\x≠lD) H' ts (.draw ms :: (ws:List (Int×Int)).map Cq)/\(∀ w∈ws,(P0.over.length:Int)<w.1/\w.1<=P0.len/\w.2∈P0.ppl.map (·.1)/\w∉P0.out/\w.1<(P0.over.length:Int)+1+(i:Int))/\ws.Nodup/\ws.length<=i
 refine⟨_,rfl,⟨_,SqL.of q6⟩,Xv (K:=K) (a:=l2) (xs:=[.ref t1,.ref t2]) jv1 ⟨⟨_,_,_,rfl⟩,fun _ _ e _=>e,_,[],s36 _ _ q3,DL.same s36,nofun,.nil,zst _⟩ (fun i σ H' _ ⟨_,z,_⟩=>SqL.of (z _ _ q6 n26)) ?_ ?_⟩
 ·rintro i x σ H7 hx ⟨⟨v6,v7,v8,rfl⟩,kp,ts,ws,hD,dl,hws,wnd,wl⟩;obtain⟨te,sh,rfl,hte,hsh⟩:=tx i x hx;have hi2:i<2:=(zsm.mp hx).1;have s7:Same H H7:=fun x o e=>kp _ _ (s06 _ _ e) (Zg e fD);have hte7:=kp _ _ hte (Yp hte (s36 _ _ q3) (by intro z;cases z));obtain⟨day,hday⟩:∃ day:Int,day=(P0.over.length:Int)+1+(i:Int):=⟨_,rfl⟩;rw[<- hday] at hte7 hws;refine⟨te,_,rfl,SqT.of hte7,rfl,_,_,rfl,_,_,rfl,rfl,?_⟩;walk_at "if";refine⟨_,rfl,d,_,rfl,DGet.k (k:=.inr "people") (s7 _ _ a1),lp,rfl,⟨_,SqL.of (s7 _ _ p1)⟩,Vc (K:=K) (a:=lp) (xs:=pts) (fun i ys H'=>Same H7 H'/\ys=(((P0.ppl.take i).filter fun x=>!decide ((day,x.1)∈P0.out)).map (·.1)).map V.int) ⟨Same.refl _,rfl⟩ (fun i ys H' _ ⟨z,_⟩=>SqL.of (z _ _ (s7 _ _ p1))) (szN ⋯) (fun i ys H' ⟨_,e⟩=>by rw[e,zsk,zsk];exact zs2 (ztt _ _) (zua _ _)) ?_ ?_⟩
  ·rintro j x ys H8 hx3 ⟨s8,rfl⟩;obtain⟨tp,pp,rfl,hpp',htp⟩:=K1 p2 hx3;have sh3:=s7.trans s8;refine⟨_,rfl,_,rfl,tp,_,_,_,rfl,rfl,SqT.of (sh3 _ _ htp),(show atI (pV pp) 0=some _ from rfl),sz2,fun t3 f3=>?_⟩;have s4':=Zf (o:=.tup [.int day,.int pp.1]) f3;have q4':=Zb (H:=H8) (a:=t3) (o:=.tup [.int day,.int pp.1]);generalize upd H8 t3 (.tup [.int day,.int pp.1])=H9 at s4' q4' ⊢;have sh4:=sh3.trans s4';refine⟨_,rfl,d,_,rfl,DGet.k (k:=.inr "out") (sh4 _ _ a1),t3,lo,ots,_,_,P0.out,rfl,rfl,SqT.of q4',SqL.of (sh4 _ _ o1),o2.same sh4,_,rfl,?_⟩;rw[if_pos rfl,X8 hpp',zuq,zsq,zsq];refine itB (fun hb=>?_) (fun hb=>?_)
   ·refine⟨_,rfl,tp,_,_,_,rfl,rfl,SqT.of (sh4 _ _ htp),(show atI (pV pp) 0=some _ from rfl),s8.trans s4',?_⟩;rw[zt9 (p:=fun x:P3=>!decide ((day,x.1)∈P0.out)) (a:=pp) hb,List.filter_nil];rfl
   ·refine⟨s8.trans s4',?_⟩;rw[zt8 (p:=fun x:P3=>!decide ((day,x.1)∈P0.out)) (a:=pp) (by rw[hb];decide),List.filter_nil];simp
  rintro ys H8 ⟨s8,rfl⟩ lh flh;rw[hpl,zs7];obtain⟨he,hhe⟩:∃ he,he=(P0.ppl.filter fun x=>!decide ((day,x.1)∈P0.out)).map (·.1):=⟨_,rfl⟩;rw[<- hhe];have hel:he.length<=100:=by rw[hhe,zsk];exact zs2 (ztt _ _) hpp
  have hem:∀ n∈he,n∈P0.ppl.map (·.1)/\(day,n)∉P0.out:=fun n hn=>by
   rw[hhe] at hn;obtain⟨x,hx,rfl⟩:=zsu.mp hn;obtain⟨hx1,hx2⟩:=ztp.mp hx;exact⟨zsu.mpr ⟨x,hx1,rfl⟩,by simpa using hx2⟩
  have s9:=s8.trans (Zf (o:=.lst (he.map V.int)) flh);have q9:=Zb (H:=H8) (a:=lh) (o:=.lst (he.map V.int));show Vb 8 (V.ref lh) _ (upd H8 lh (.lst (he.map V.int))) _;generalize upd H8 lh (.lst (he.map V.int))=H9 at s9 q9 ⊢;walk_at "if";have s09:=s7.trans s9;have fin:∀ {Hz:Hp} {w7 w8:Option V},Same H9 Hz->((∃ v6 v7 v8,([some (.ref d),some (.int cell),some (.ref t),some (.int mixed),some (.int ((P0.over.length:Int)+1)),some (.ref lD),some (.int day),w7,w8]:L2.St)=[some (.ref d),some (.int cell),some (.ref t),some (.int mixed),some (.int ((P0.over.length:Int)+1)),some (.ref lD),v6,v7,v8])/\(∀ x o,H6 x=some o->x≠lD->Hz x=some o)/\∃ ts ws,Hz lD=some (.lst ts)/\Xr (fun x=>H x=none/\x≠lD) Hz ts (.draw ms :: (ws:List (Int×Int)).map Cq)/\(∀ w∈ws,(P0.over.length:Int)<w.1/\w.1<=P0.len/\w.2∈P0.ppl.map (·.1)/\w∉P0.out/\w.1<(P0.over.length:Int)+1+((i+1:Nat):Int))/\ws.Nodup/\ws.length<=i+1):=fun sz=>⟨⟨_,_,_,rfl⟩,fun x o e n=>sz _ _ (s9 _ _ (kp _ _ e n)),ts,ws,sz _ _ (s9 _ _ hD),(dl.same s9).same sz,fun w hw=>by have:=hws w hw;exact⟨this.1,this.2.1,this.2.2.1,this.2.2.2.1,by omega⟩,wnd,by omega⟩
  refine zdm (b:=!he.isEmpty&&(decide (0<cell%sh)&&decide (day<=(P0.len:Int)))) (zb1 (Co rfl q9) (fun H5 s5=>Qx (zbh (fun Q q=>⟨_,rfl,_,rfl,_,_,rfl,rfl,hsh,_,_,rfl,rfl,_,rfl,q⟩) (fun Q q=>⟨_,rfl,_,rfl,d,_,rfl,DGet.k (k:=.inr "rounds") (s5 _ _ (s09 _ _ a1)),_,_,rfl,rfl,_,rfl,q⟩)))) (fun H10 s10=>itB (fun hb=>?_) (fun _=>Z1 ?_))
  ·rw[zt2,zt2,decide_eq_true_eq,decide_eq_true_eq] at hb;obtain⟨hb1,hb2,hb3⟩:=hb;have hne:he.length≠0:=by intro z;rw[List.length_eq_zero_iff.mp z] at hb1;exact absurd hb1 ⋯
   have hpos:(0:Int)<(he.length:Int):=by omega
   have y0:=zts (cell/12) (show (he.length:Int)≠0 by omega);have y1:=ztl (cell/12) hpos;have hix:=Wx (xs:=he) y0 ⋯;have mix:=Q5 (ns:=he) (i:=(cell/12%(he.length:Int)).toNat) ⋯;generalize he.getD (cell/12%(he.length:Int)).toNat 0=n at hix mix;have s910:=s9.trans s10;refine⟨_,rfl,lD,_,rfl,s910 _ _ hD,_,rfl,_,rfl,_,rfl,_,_,rfl,rfl,⟨by omega,by omega⟩,_,rfl,lh,_,rfl,.inl (SqL.of (s10 _ _ q9)),?_⟩;rw[zsk];refine⟨_,_,rfl,rfl,hpos,lh,_,_,_,rfl,rfl,SqL.of (s10 _ _ q9),hix,(by show 3<=sizeLine;rw[sizeLine_eq];decide),fun tt' ft'=>?_⟩;have s11:=Zf (o:=.tup [.str "away",.int day,.int n]) ft';have q11:=Zb (H:=H10) (a:=tt') (o:=.tup [.str "away",.int day,.int n]);generalize upd H10 tt' (.tup [.str "away",.int day,.int n])=H11 at s11 q11 ⊢;have s711:=s910.trans s11;have tsl:=dl.len;rw[zs8,zsk] at tsl;refine⟨ts,s711 _ _ hD,szN ⋯,?_⟩;have k12:∀ x o,H11 x=some o->x≠lD->upd H11 lD (.lst (ts++[.ref tt'])) x=some o:=fun x o e n=>by rw[Zh n];exact e
   have q12:=Zb (H:=H11) (a:=lD) (o:=.lst (ts++[.ref tt']));have kt12:∀ x ys,H11 x=some (.tup ys)->upd H11 lD (.lst (ts++[.ref tt'])) x=some (.tup ys):=fun x ys e=>k12 _ _ e (Yp e (s711 _ _ hD) (by intro z;cases z));refine⟨⟨_,_,_,rfl⟩,fun x o e n=>k12 _ _ (s711 _ _ (kp _ _ e n)) n,ts++[.ref tt'],ws++[(day,n)],q12,?_,fun w hw=>?_,?_,by rw[zsn];show ws.length+1<=i+1;omega⟩
   ·rw[zsq];refine(((dl.same s711).keep (fun x o ox e=>k12 _ _ e ox.2) kt12).snoc (D:=.away day n) ?_);exact kt12 _ _ q11
   ·rcases zsv.mp hw with z|z
    ·have:=hws w z;exact⟨this.1,this.2.1,this.2.2.1,this.2.2.2.1,by omega⟩
    ·rw[zsp.mp z];exact⟨by show _<day;omega,hb3,(hem n mix).1,(hem n mix).2,by show day<_;omega⟩
   ·refine List.nodup_append.mpr ⟨wnd,by simp,fun x hx y hy=>?_⟩;rw[zsp.mp hy];rintro rfl;have:=(hws _ hx).2.2.2.2;exact absurd this (by show ¬ day<day;omega)
  exact fin s10
 ·rintro σ H7 ⟨⟨v6,v7,v8,rfl⟩,kp,ts,ws,hD,dl,hws,wnd,wl⟩;have s7:Same H H7:=fun x o e=>kp _ _ (s06 _ _ e) (Zg e fD);exact⟨_,rfl,h lD ts ms ws H7 hD (dl.imp fun _ z=>z.1) hml gm (fun w hw=>by have:=hws w hw;exact⟨this.1,this.2.1,this.2.2.1,this.2.2.2.1⟩) wnd wl s7 fD⟩
abbrev Ow:Stmt:=top 81
theorem Qq:Zl ["_law_season","_law_page","_law_may","_law_found"] ["_law_season","_law_page"] (Zj Ow):=fnS
theorem C0(F:Fun K "_law_fits" "_law_fits" Ow f fd)(T:Tx K mg a)(zmf:Z4 P w K mg base "_law_open" 2 ["_law_page"] (B0 K))(zli:Zu P w K mg base a.zj1 "goes" 4 ["self","at"] (Bw (ca a)))(zmc:Z4 P w K mg base "_law_is_filling" 2 ["_law_may","_law_given"] (M3 K))(zlj:Z4 P w K mg base "_law_left_just_where" 2 ["_law_may","_law_given"] (Ig K)):FnOk P w K mg base (CX1 P w) 5 f fd ["_law_season","_law_page"] (Cr K (ca a)):=by
 refine F.okX Qq ⋯ fun _ _ _ _ H _ Q E hr h=>?_;obtain⟨A',S,d,P0,sh,nu,n,mb,rfl,SA,PA,RB,so,hcur,h⟩:=h;have hu:=Wa hr;refine⟨_,(Zc (pS 2 Qq.nd (pF zmf hr (Za (pv 1) Zd)))
 (Zc (pS 3 Qq.nd (Xd (pv 0) T.zj2 zli (hr.mono ⋯) Zk (Za (Zq Yg (Zt (cL K) (by rfl) T.zkj PySem.boot_len (Za (pD hu (pv 1) Zr) Zd)) Zi) Zd)))
 (Ze (Zm (Fg (pF zmc hr (Za (pv 2) (Za (pv 3) Zd))) (Ff (pF zlj hr (Za (pv 2) (Za (pv 3) Zd))))))))),?_⟩
 obtain⟨k1,k2,k3,k4,k5⟩:=so.cur sh hcur;have hlis:P0.lis=some sh.ms:=by rw[RB.lis,hcur];rfl
 obtain⟨lp,lo,lv,dv,li,lg,lm,a1,PB,okd⟩:=id PA.split;obtain⟨vts,u1,u2,u3⟩:=PB.vv;have hvl:(vts.length:Int)+1=atV S:=by rw[u2.length];exact RB.at so
 have hml:sh.may.length=sh.ms.length:=by rw[k4];unfold mayS;rw[zsk]
 have hgl:sh.gv.length=sh.may.length:=k2.len;have hpl:P0.ppl.length<=100:=by rw[RB.ppl];have:=so.few;omega
 refine⟨_,rfl,(·∉A'.fp),d,P0,sh.ms,rfl,PA,RB.ovok so,hlis,by omega,hpl,fun lw ls H1 hlw ilw s1 flw _=>?_⟩;rw[RB.may so,<- k4] at ilw;walk_at "if";obtain⟨⟨dx,vv,ob,_⟩,_⟩:=id SA;refine⟨_,rfl,A'.p,dx,_,rfl,s1 _ _ ob,Ye ⋯,_,rfl,d,_,rfl,DGet.k (k:=.inr "over") (s1 _ _ a1),lv,vts,rfl,.inl (SqL.of (s1 _ _ u1)),_,_,rfl,rfl,A',S,atV S,(by rw[<- hvl];rfl),SA.same s1,zed so hcur fun lf H2 hlf s2 flf=>?_⟩;walk_at "if";exact⟨_,rfl,_,rfl,lw,lf,ls,sh.may,sh.gv,rfl,s2 _ _ hlw,ilw.same s2,by omega,hlf,k2,fun H3 s3=>⟨true,rfl,iteT ⟨_,rfl,_,rfl,lw,lf,ls,sh.may,sh.gv,rfl,(s2.trans s3) _ _ hlw,ilw.same (s2.trans s3),by omega,s3 _ _ hlf,k2,k3,fun H4 s4=>h H4 (((s1.trans s2).trans s3).trans s4)⟩⟩⟩
abbrev Qr:Stmt:=top 82
theorem Xo:Zl ["_law_season","_law_rounds_here","_law_number","_law_hits","_law_deed","_law_day"] ["_law_season","_law_rounds_here","_law_number"] (Zj Qr):=fnS
theorem Em(F:Fun K "_law_ended" "_law_ended" Qr f fd)(T:Tx K mg a)(zl5:Z4 P w K mg base "_law_do" 8 ["_law_season","_law_deed"] (Ld K (ca a)))(zk7:Zu P w K mg base a.zj1 "away" 7 ["self","at","number"] (Bv (ca a)))(zkw:Zu P w K mg base a.zj1 "take_back" 2 ["self"] (Ob (ca a))):FnOk P w K mg base (CX1 P w) 9 f fd ["_law_season","_law_rounds_here","_law_number"] (zao K (ca a)):=by
 refine F.okX Xo ⋯ fun _ _ _ _ H _ Q E hr h=>?_;obtain⟨A',S,r,k,nu,n,rfl,SA,hled,hlen,hcur,hstd,so,hn,hk1,hk2,h⟩:=h;refine⟨_,(Zc (pS 3 Xo.nd Zi)
 (Zc (Yy PassesOwn.leaving rfl (Yj (K:=K) rfl (Z8 (Za (Yc (Za Zr (Za (pv 2) (Za Zi (Za Zi Zd))))) (Za (Yc (Za Zr (Za (Z8 Zd) Zd))) (Za (Yc (Za Zr Zd)) Zd))))) (pN 4 Xo.nd)
  (Ze (Fo (as:=[]) Qv T.zp5 rfl T.zp7
   (fun E1 lk1 pn1 EX1 hl1 hO hP =>
   (Ze (Z2 (Dd zl5 (hr.mono ⋯) hP rfl (Za (pv 0) (Za (pv 4) Zd))))))
   (fun a1 =>
   (Ze (pS 3 Xo.nd (Zq Yg (pv 3) Zi)))))))
 (Zc (Yy PassesOwn.leaving rfl (Hy rfl T.zk0 (Za Zi (Za (Zq Yg (pv 1) Zi) Zd))) (pN 5 Xo.nd)
  (Ze (Fo (as:=[]) Qv T.zp8 rfl T.zqb
   (fun E1 lk1 pn1 EX1 hl1 hO hP =>
   (Ze (Z2 (Xd (pv 0) T.zj2 zk7 (hr.mono ⋯) hP (Za (pv 5) (Za (pv 2) Zd))))))
   (fun a1 =>
   (Ze (pS 3 Xo.nd (Zq Yg (pv 3) Zi)))))))
 (Zc (Fo (as:=[]) Qv T.zp2 rfl T.zp1
  (fun E1 lk1 pn1 EX1 hl1 hO hP =>
  (Ze (Z2 (Xd (pv 0) T.zj2 zk7 (hr.mono ⋯) hP (Za (Zq Yg (pv 1) Zi) (Za (pv 2) Zd))))))
  (fun a1 =>
  (Ze (pS 3 Xo.nd (Zq Yg (pv 3) Zi)))))
 (Zc (Fo (as:=[]) Qv T.zn8 rfl T.zn6
  (fun E1 lk1 pn1 EX1 hl1 hO hP =>
  (Ze (Z2 (Yi (pv 0) T.zj2 zkw (hr.mono ⋯) hP))))
  (fun a1 =>
  (Ze (pS 3 Xo.nd (Zq Yg (pv 3) Zi)))))
 (Ze (Zm (Oy Vt (pv 3) (Zq Yg (pv 1) Zi) (Zw _))))))))),?_⟩
 show let y1:TS:=_;let y2:TS:=Z0 _ y1;let y3:TS:=Z0 _ y2;let y4:TS:=Z0 _ y3;let y5:TS:=Z0 _ y4;Z0 _ y5 _ _ _;intro y1 y2 y3 y4 y5;have n1:=so.num;have n2:=so.len;have n3:=so.olen;have n4:=so.tot;have sl:S.std.length=0:=by rw[hstd];rfl
 refine⟨_,rfl,(by show 4<=sizeLine;rw[sizeLine_eq];decide),fun t1 f1=>⟨zs9 _,fun l0 f0=>⟨sz2,fun t2 f2=>⟨(by show 1<=sizeLine;rw[sizeLine_eq];decide),fun t3 f3=>⟨(by show 3<=sizeLine;rw[sizeLine_eq];decide),fun l4 f4=>?_⟩⟩⟩⟩⟩;have s1:=Zf (o:=.tup [.str "enrol",.int k,.int 5,.int 5]) f1;have q1:=Zb (H:=H) (a:=t1) (o:=.tup [.str "enrol",.int k,.int 5,.int 5]);generalize upd H t1 (.tup [.str "enrol",.int k,.int 5,.int 5])=H1 at s1 q1 f0 f2 f3 f4 ⊢;have s2:=Zf (o:=.lst []) f0;have q2:=Zb (H:=H1) (a:=l0) (o:=.lst []);generalize upd H1 l0 (.lst [])=H2 at s2 q2 f2 f3 f4 ⊢;have s3:=Zf (o:=.tup [.str "draw up",.ref l0]) f2;have q3:=Zb (H:=H2) (a:=t2) (o:=.tup [.str "draw up",.ref l0]);generalize upd H2 t2 (.tup [.str "draw up",.ref l0])=H3 at s3 q3 f3 f4 ⊢;have s4:=Zf (o:=.tup [.str "close"]) f3;have q4:=Zb (H:=H3) (a:=t3) (o:=.tup [.str "close"]);generalize upd H3 t3 (.tup [.str "close"])=H4 at s4 q4 f4 ⊢;have s5:=Zf (o:=.lst [.ref t1,.ref t2,.ref t3]) f4;have q5:=Zb (H:=H4) (a:=l4) (o:=.lst [.ref t1,.ref t2,.ref t3]);generalize upd H4 l4 (.lst [.ref t1,.ref t2,.ref t3])=H5 at s5 q5 ⊢;have s35:=s4.trans s5;have s25:=s3.trans s35;have s15:=s2.trans s25;have s05:=s1.trans s15;have SA5:=SA.same s05;have ol0:l0∉A'.fp:=SA.newOk _ (s1.free f0);have tx:∀ (i:Nat) x,([V.ref t1,V.ref t2,V.ref t3]:List V)[i]?=some x->∃ t D,x=.ref t/\X2 (·∉A'.fp) H5 t D/\B7 D/\refS S D=some .seaOver/\D≠.back:=fun i x hx=>by
  match i,hx with
  | 0,hx=>cases hx;exact⟨t1,.enrol k 5 5,rfl,s15 _ _ q1,⟨Z7 ⋯ ⋯,Z7 ⋯ ⋯,Z7 ⋯ ⋯⟩,if_pos ⋯,nofun⟩
  | 1,hx=>cases hx;exact⟨t2,.draw [],rfl,⟨l0,[],s35 _ _ q3,s25 _ _ q2,.nil,ol0⟩,⟨nofun,zs9 _⟩,if_pos ⋯,nofun⟩
  | 2,hx=>cases hx;exact⟨t3,.close,rfl,s5 _ _ q4,True.intro,if_pos ⋯,nofun⟩
  | i+3,hx=>cases hx
 let jv1:Nat->L2.St->Hp->Prop:=fun i σ H'=>(∃ v4 v5,σ=[some (.ref A'.p),some (.int r),some (.int k),some (.int (i:Nat)),v4,v5])/\Same H5 H'
 refine⟨_,rfl,⟨_,SqL.of q5⟩,Xv (K:=K) (a:=l4) (xs:=[.ref t1,.ref t2,.ref t3]) jv1 ⟨⟨_,_,rfl⟩,.refl _⟩ (fun i σ H' _ ⟨_,z⟩=>SqL.of (z _ _ q5)) ?_ ?_⟩
 ·rintro i x σ H6 hx ⟨⟨v4,v5,rfl⟩,s6⟩;obtain⟨t,D,rfl,hD,hs,hr,hb⟩:=tx i x hx;walk_at "if";refine⟨_,rfl,_,rfl,A',S,t,D,rfl,SA5.same s6,hD.same s6,hs,so.cur,so.pok,by omega,by omega,by omega,by omega,by omega,fun z=>absurd z hb,fun r' hr' H' s'=>?_,fun hn=>absurd (hr.symm.trans hn) nofun⟩;rw[hr] at hr';cases hr';refine⟨_,rfl,T.zkm,_,rfl,_,_,rfl,rfl,?_⟩;exact⟨⟨_,_,rfl⟩,s6.trans s'⟩
 rintro σ H6 ⟨⟨v4,v5,rfl⟩,s6⟩;have SA6:=SA5.same s6;have s06:=s05.trans s6;obtain⟨⟨dx,vv,ob,_⟩,_⟩:=id SA6;dsimp only;refine⟨_,rfl,_,_,rfl,rfl,_,_,rfl,⟨by omega,by omega,by omega,by omega⟩,?_⟩;rw[show ((r:Int)+1-1).toNat=r by omega]
 let jv2:Nat->L2.St->Hp->Prop:=fun i σ H'=>(∃ v4 v5,σ=[some (.ref A'.p),some (.int r),some (.int k),some (.int ((3+i:Nat):Int)),v4,v5])/\H'=H6
 refine Xl jv2 ⟨⟨_,_,rfl⟩,rfl⟩ ?_ ?_
 ·rintro i σ H' hi ⟨⟨v4,v5,rfl⟩,rfl⟩;refine⟨_,rfl,A'.p,dx,_,rfl,ob,Ye ⋯,_,rfl,_,rfl,A',S,1+(i:Int),k,rfl,SA6,Z7 ⋯ ⋯,Z7 ⋯ ⋯,by omega,by omega,so.pok,fun s hs=>(by rw[hcur] at hs;cases hs),?_⟩;rw[if_neg ⋯,if_pos ⋯];refine⟨_,rfl,T.zkq,_,rfl,_,_,rfl,rfl,?_⟩;exact⟨⟨_,_,rfl⟩,rfl⟩
 rintro σ H' ⟨⟨v4,v5,rfl⟩,rfl⟩;dsimp only;refine⟨_,rfl,A'.p,dx,_,rfl,ob,Ye ⋯,_,rfl,_,_,rfl,rfl,_,rfl,A',S,(r:Int)+1,k,rfl,SA6,Z7 ⋯ ⋯,Z7 ⋯ ⋯,by omega,by omega,so.pok,fun s hs=>(by rw[hcur] at hs;cases hs),?_⟩;rw[if_pos ⋯];refine⟨_,rfl,T.zkh,_,rfl,_,_,rfl,rfl,?_⟩;walk_at "if";refine⟨_,rfl,A'.p,dx,_,rfl,ob,Ye ⋯,A',S,rfl,SA6,fun _=>⟨_,rfl,T.zj8,_,rfl,_,_,rfl,rfl,?_⟩,fun std d s e=>absurd (hstd.symm.trans e) (by simp)⟩;walk_at "if";refine⟨_,rfl,_,rfl,_,_,rfl,rfl,?_⟩;have hh:=h H' s06;rw[show V.bl true=V.bl (decide (V.int (((3+r:Nat):Int)+1+1)=V.int ((r:Int)+5))) by rw[zss (congrArg V.int ⋯)]] at hh;exact⟨rfl,hh⟩
abbrev Fb:Stmt:=top 84
theorem Tc:Zl ["_law_script","_law_mixed","_law_rounds_here","_law_season","_law_pool_here","_law_pages","_law_k","_law_cell","_law_deed"] ["_law_script"] (Zj Fb):=fnS
theorem zhr(F:Fun K "law" "law" Fb f fd)(T:Tx K mg a)(zke:Z4 P w K mg base "_law_at" 1 ["_law_script","_law_k"] (zbb K))(znv:Z4 P w K mg base "_law_rounds" 2 ["_law_script"] (Ja K))(zpt:Tt P w K mg base "Season" a.zj1 3 ["self","rounds","rest"] (zai (ca a)))(zn5:Z4 P w K mg base "_law_rest" 2 ["_law_script"] (D8 K))(zop:Z4 P w K mg base "_law_pool" 2 ["_law_script","_law_crowd"] (D9 K))(zna:Z4 P w K mg base "_law_enrolled" 9 ["_law_season","_law_pages","_law_deeds_here"] (Jk K (ca a)))(zn4:Z4 P w K mg base "_law_people" 2 ["_law_script","_law_pool_here"] (Ji K))(zn9:Z4 P w K mg base "_law_first" 1 ["_law_rounds_here","_law_rest_here"] zam)(zlr:Z4 P w K mg base "_law_mix" 1 ["_law_cell","_law_k"] A4)(zn7:Z4 P w K mg base "_law_deeds" 3 ["_law_page","_law_cell","_law_pool_here","_law_mixed"] (Jo K))(zl5:Z4 P w K mg base "_law_do" 8 ["_law_season","_law_deed"] (Ld K (ca a)))(zll:Z4 P w K mg base "_law_paged" 3 ["_law_pages","_law_deed"] (Ea K))(zon:Z4 P w K mg base "_law_fits" 5 ["_law_season","_law_page"] (Cr K (ca a)))(zli:Zu P w K mg base a.zj1 "goes" 4 ["self","at"] (Bw (ca a)))(zld:Z4 P w K mg base "_law_one_is" 2 ["_law_found","_law_due"] Fu)(zlc:Zu P w K mg base a.zj1 "close" 4 ["self"] (F6 (ca a)))(zmu:Z4 P w K mg base "_law_facts_are" 5 ["_law_found","_law_page"] (Jn K))(znh:Zu P w K mg base a.zj1 "facts" 3 ["self"] (G8 (ca a)))(zof:Z4 P w K mg base "_law_ended" 9 ["_law_season","_law_rounds_here","_law_number"] (zao K (ca a)))(zj3:Zu P w K mg base a.zj1 "at_hand" 2 ["self"] (Vg (ca a))):FnOk P w K mg base (CX1 P w) 10 f fd ["_law_script"] (A7 K):=by
 refine F.okX Tc ⋯ fun _ _ _ _ H _ Q E hr h=>?_;obtain⟨b,ns,rfl,hS,hlen,h⟩:=h;have hu:=Wa hr;refine⟨_,(Zc (pS 1 Tc.nd (Zq Y7 (pF zke hr (Za (pv 0) (Za Zi Zd))) Zi))
 (Zc (pS 2 Tc.nd (pF znv hr (Za (pv 0) Zd)))
 (Zc (pS 3 Tc.nd (Fp zpt (hr.mono ⋯) Zk rfl (Za (pv 2) (Za (pF zn5 hr (Za (pv 0) Zd)) Zd))))
 (Zc (pS 4 Tc.nd (pF zop hr (Za (pv 0) (Za Zi Zd))))
 (Zc (pS 5 Tc.nd (pF zna hr (Za (pv 3) (Za (Z8 (Za (pF zn9 hr (Za (pv 2) (Za (pF zn5 hr (Za (pv 0) Zd)) Zd))) Zd)) (Za (pF zn4 hr (Za (pv 0) (Za (pv 4) Zd))) Zd)))))
 (Zc (Yy PassesOwn.leaving rfl (Y5 rfl T.zk0 (Za (pv 2) Zd)) (pN 6 Tc.nd)
  (Zc (pS 7 Tc.nd (pI (iL K) (Z8 (Za (pF zke hr (Za (pv 0) (Za (Zq Yg Zi (pv 6)) Zd))) (Za (pF zlr hr (Za (pF zke hr (Za (pv 0) (Za (Zq Yg Zi (pv 6)) Zd))) (Za (pv 6) Zd))) Zd))) (pv 1)))
  (Zc (Yy PassesOwn.leaving rfl (Yj (K:=K) rfl (pF zn7 hr (Za (pI (iL K) (pv 5) (Kq Pp Zi)) (Za (pv 7) (Za (pv 4) (Za (pv 1) Zd)))))) (pN 8 Tc.nd)
   (Zc (Z2 (pF zl5 hr (Za (pv 3) (Za (pv 8) Zd))))
   (Zc (pS 5 Tc.nd (pF zll hr (Za (pv 5) (Za (pv 8) Zd))))
   (Ze (Z6 (Vd (W3 (pF zon hr (Za (pv 3) (Za (pI (iL K) (pv 5) (Kq Pp Zi)) Zd)))))
    (Ze (Zm We))
    Zs)))))
  (Zc (Yq hu (pI (iL K) (pv 5) (Kq Pp Zi)) Zr (Xw (Xc (K:=K) rfl) (by rfl) T.zlw PyProof.Rows.boot_list (Za (Xd (pv 3) T.zj2 zli (hr.mono ⋯) Zk (Za (Zq Yg (pv 6) Zi) Zd)) Zd)) rfl)
  (Zc (Z6 (Vd (W3 (pF zld hr (Za (Yi (pv 3) T.zj2 zlc (hr.mono ⋯) Zk) (Za (Zq Yg (pv 6) Zi) Zd)))))
   (Ze (Zm We))
   Zs)
  (Ze (pS 5 Tc.nd (pF zll hr (Za (pv 5) (Za (Yc (Za Zr Zd)) Zd))))))))))
 (Zc (Z6 (Vd (W3 (pF zmu hr (Za (Yi (pv 3) T.zj2 znh (hr.mono ⋯) Zk) (Za (pI (iL K) (pv 5) (Kq Pp Zi)) Zd)))))
  (Ze (Zm We))
  Zs)
 (Ze (Zm (Fg (pF zof hr (Za (pv 3) (Za (pv 2) (Za (pI (iL K) (pI (iU K) (pv 4) Zi) Zi) Zd)))) (Ff (pF zld hr (Za (Yi (pv 3) T.zj2 zj3 (hr.mono ⋯) Zk) (Za (Zq Yg (pv 2) Zi) Zd)))))))))))))),?_⟩
 show let y1:TS:=_;let y2:TS:=Z0 _ y1;let y3:TS:=_;let y4:TS:=Z0 _ y3;let y5:TS:=Z0 _ y4;let y6:TS:=Z0 (zch _ _ (Z0 _ y2)) y5;let y7:TS:=_;let y8:TS:=Z0 _ y7;let y9:TS:=Z0 (zch _ _ (Z0 _ y6)) y8;let y10:TS:=Z0 _ y9;let y11:TS:=Z0 _ y10;let y12:TS:=Z0 _ y11;let y13:TS:=Z0 _ y12;Z0 _ y13 _ _ _;intro y1 y2 y3 y4 y5 y6 y7 y8 y9 y10 y11 y12 y13;refine⟨_,rfl,b,ns,0,rfl,hS,_,_,rfl,rfl,(show (0:Int)<2 by decide),?_⟩;obtain⟨mx,hmx,hmx1⟩:∃ mx:Nat,Ym ns 0%2=(mx:Int)/\mx<=1:=⟨(Ym ns 0%2).toNat,by omega,by omega⟩;walk_at "if";rw[hmx];refine⟨_,rfl,b,ns,rfl,hS,fun rr H1 hrr hr1 hr60 s1=>?_⟩;walk_at "if";refine⟨_,rfl,_,rfl,b,ns,rfl,s1.seq hS,fun rq H2 hrq hq10 s2=>?_⟩;have s12:=s1.trans s2;have hS2:=s12.seq hS;intro p0 dx0 hp0 hdx0 ne0;refine⟨p0,dx0,rr,rq,rfl,Zb,Z7 ⋯ ⋯,Z7 ⋯ ⋯,?_⟩;rw[if_neg ⋯,if_neg ⋯];intro A1 H4 hAp SA4 k4 f4;rw[zs0,zs0] at SA4;have s4:Same H2 H4:=fun x o e=>k4 x o (by rw[Zh (Zg e hp0),Zh (Zg e hdx0)];exact e) (Zg e hp0);have ff:∀ x∈A1.fp,H2 x=none:=fun x hx=>by
  by_cases z:x=p0
  ·rw[z];exact hp0
  ·have:=f4 x hx z;rw[Zh z] at this;by_cases w:x=dx0
   ·rw[w];exact hdx0
   ·rw[Zh w] at this;exact this
 have SC4:Sh K A1 H4 b (ns.map V.int):=.make hS2 A1 H4 s4 ff;clear f4 k4;subst hAp;refine⟨rfl,?_⟩;walk_at "if";refine⟨_,rfl,b,ns,7,rfl,SC4.sq,by decide,by decide,fun t lc ln cs nu H6 PL hnu s6 ft flc fln=>?_⟩;have SA6:=SA4.same s6;have SC6:=SC4.fr (.of s6);have no5:=SA4.newOk;have PO6:Nf A1 H6 t lc ln cs nu:=⟨PL,no5 _ ft,no5 _ flc,no5 _ fln⟩;walk_at "if";refine⟨_,rfl,_,rfl,_,rfl,b,ns,rfl,SC6.sq,fun rq' H8 hrq' _ s8=>?_⟩;cases (hrq'.trans hrq.symm);refine⟨rr,rq,rfl,fun d9 H9 pg9 s9 fd9=>⟨(by show 1<=sizeLine;rw[sizeLine_eq];decide),fun l10 fl10=>?_⟩⟩;have SC9:=((SC6.fr (.of s8)).fr (.of s9));have SA9:=(SA6.same s8).same s9;have PO9:=(PO6.fr (.of s8)).fr (.of s9);have no8:=(SA6.same s8).newOk;have F9:=B6 (mb:=false) (nu:=nu) (n:=0) (pg9.imp (ok':=(·∉A1.fp)) fun x _ hx=>no8 x hx) hr60 hq10;have s10:=Zf (o:=.lst [.ref d9]) fl10;have q10:=Zb (H:=H9) (a:=l10) (o:=.lst [.ref d9]);have o10:=SA9.newOk _ fl10;generalize upd H9 l10 (.lst [.ref d9])=H10 at s10 q10 ⊢;have SA10:=SA9.same s10;have SC10:=SC9.fr (.of s10);have PO10:=PO9.fr (.of s10);have F10:=F9.same s10;clear SA9 SC9 PO9 F9 SA6 SC6 PO6 PL SC4 SA4 no5 no8 pg9 hS hS2 s12;have nfew:=PO10.at_.nfew;refine⟨_,rfl,_,rfl,b,t,lc,ln,ns,cs,nu,rfl,SC10.sq,PO10.at_,fun le ts es H11 hle tl en el eok s11 fle=>?_⟩;have SA11:=SA10.same s11;have nd11:(es.map (·.1)).Nodup:=by rw[en];exact PO10.at_.nnd.sublist (List.take_sublist _ _)
 refine⟨false,A1,l10,le,ts,es,[],d9,_,_,nu,0,rfl,SA11,s11 _ _ q10,o10,F10.same s11,hle,SA10.newOk _ fle,tl,nd11,fun x hx=>?_,(by show 0+es.length<=30;omega),by omega,rfl,(by show 0<rr;omega),fun A2 l2 ds2 d2 P2 S2 H12 SA12 hl12 ho12 F12 f12 hc12 he12 hn12=>?_⟩
 ·obtain⟨x1,x2,x3⟩:=eok x hx;have hxn:x.1∈nu:=by
   have:x.1∈es.map (·.1):=zsu.mpr ⟨x,hx,rfl⟩;rw[en] at this;exact List.mem_of_mem_take this
  refine⟨hxn,?_,nofun⟩;have:=PO10.at_.nrng _ hxn;have:=PO10.at_.crng _ x3;unfold badI;omega
 have SC12:=(SC10.fr (.of s11)).fr f12;have PO12:=(PO10.fr (.of s11)).fr f12;have hAp:=f12.p;have st12:S2.std.length<=30:=by have:=F12.so.num;omega
 have dl12:=F12.len;have led12:S2.led.length=0:=by rw[he12];rfl
 have len12:S2.len=rr:=hn12;walk_at "if";refine⟨_,rfl,_,rfl,by omega,by omega,?_⟩;rw[zs0];show ∃ W:Nat->Nat->L2.St->Hp->Prop,(∃ m,W 0 m [some (.ref b),some (.int mx),some (.int rr),some (.ref A1.p),some (.ref t),some (.ref l2),none,none,none] H12)/\_
 let jv1:Nat->L2.St->Hp->Prop:=fun k σ H'=>∃ A2 l2 ds2 d2 P2 S2 v6 v7 v8,σ=[some (.ref b),some (.int mx),some (.int rr),some (.ref A1.p),some (.ref t),some (.ref l2),v6,v7,v8]/\Zv (ca a) H' A2 S2/\H' l2=some (.lst ((ds2++[d2]).map V.ref))/\l2∉A2.fp/\PgR false (·∉A2.fp) H' nu (30+4*k) d2 P2 S2/\Sh K A2 H' b (ns.map V.int)/\Nf A2 H' t lc ln cs nu/\A2.p=A1.p/\S2.cur=none/\S2.led.length=k/\S2.len=rr/\S2.std.length<=30/\ds2.length<=30/\(0<k->S2.std=[])
 refine Xl jv1
  ⟨A2,l2,ds2,d2,P2,S2,_,_,_,rfl,SA12,hl12,ho12,⟨F12.pg,F12.re.b,F12.so.mono ⋯⟩,SC12,PO12,hAp,hc12,led12,len12,st12,by omega,fun z=>absurd z ⋯⟩ ?_ ?_
 ·clear SA12 hl12 ho12 F12 SC12 PO12 hAp hc12 led12 len12 st12 dl12 he12 hn12;rintro k σ H1 hk ⟨A2,l2,ds2,d2,P2,S2,v6,v7,v8,rfl,SA,hl2,ho2,R,SC,PO,eAp,hcur,hled,hlen2,hst,hds,_⟩;rw[ztx];walk_at "if";have e6:(6:Int)+(k:Int)=((6+k:Nat):Int):=by omega
  have hat:atI ((ds2++[d2]).map V.ref) (-1)=some (V.ref d2):=by rw[zsq];exact L2.atI_last _ _
  refine⟨_,rfl,_,rfl,_,_,rfl,rfl,b,ns,6+k,(by rw[<- e6];rfl),SC.sq,_,rfl,_,rfl,_,_,rfl,rfl,b,ns,6+k,(by rw[<- e6];rfl),SC.sq,_,rfl,_,_,rfl,sz2,fun l3 f3=>?_⟩;obtain⟨cell,hcell⟩:∃ cell:Int,atI [V.int (Ym ns (6+k)),V.int (mixS (Ym ns (6+k)) k)] (mx:Int)=some (.int cell):=by
   match mx,hmx1 with
   | 0,_=>exact⟨_,rfl⟩
   | 1,_=>exact⟨_,rfl⟩
  have s3:=Zf (o:=.lst [V.int (Ym ns (6+k)),V.int (mixS (Ym ns (6+k)) k)]) f3;have q3:=Zb (H:=H1) (a:=l3) (o:=.lst [V.int (Ym ns (6+k)),V.int (mixS (Ym ns (6+k)) k)]);generalize upd H1 l3 (.lst [V.int (Ym ns (6+k)),V.int (mixS (Ym ns (6+k)) k)])=H3 at s3 q3 ⊢;refine⟨_,rfl,l3,_,_,_,rfl,rfl,SqL.of q3,hcell,?_⟩;walk_at "if";have SA3:=SA.same s3;have R3:=R.same s3;have SC3:=SC.fr (.of s3);have PO3:=PO.fr (.of s3);have hl3:=s3 _ _ hl2;have hlt:P2.over.length<P2.len:=by
   have h1:=R.rb.olen;have h2:=R.so.olen;have h4:=R.rb.len;omega
  have hpp:P2.ppl.length<=100:=by rw[R.rb.ppl];have:=R.so.few;omega
  refine⟨_,rfl,_,rfl,l2,_,_,_,rfl,rfl,SqL.of hl3,hat,_,rfl,_,rfl,_,rfl,(·∉A2.fp),d2,t,lc,ln,P2,cell,cs,nu,mx,rfl,R3.pg,PO3.at_,hmx1,hlt,hpp,fun lD ts ms ws H4 hlD DL hm5 gm hws wnd wl s4 fD=>?_⟩;have SA4:=SA3.same s4;have R4:=R3.same s4;have SC4:=SC3.fr (.of s4);have PO4:=PO3.fr (.of s4);have hl4:=s4 _ _ hl3;have oD:=SA3.newOk _ fD;have DL4:Xr (·∉A2.fp) H4 ts (.draw ms :: ws.map Cq):=DL.imp fun x hx=>SA3.newOk x hx;have hov:(P2.over.length:Int)=k:=by
   have h1:=R.rb.olen;have h2:=R.so.olen;omega
  have hp2:=R.rb.ppl;have hlen2':=R.rb.len;have hout2:=R.rb.out;rw[hov,hp2,hlen2',hout2] at hws;have tsl:=DL4.len;rw[zs8,zsk] at tsl;clear SA R SC PO SA3 R3 SC3 PO3 DL
  let jv2:Nat->L2.St->Hp->Prop:=fun j σ H'=>∃ A3 l3 ds3 d3 P3 S3 v8,σ=[some (.ref b),some (.int mx),some (.int rr),some (.ref A1.p),some (.ref t),some (.ref l3),some (.int k),some (.int cell),v8]/\Zv (ca a) H' A3 S3/\H' l3=some (.lst ((ds3++[d3]).map V.ref))/\l3∉A3.fp/\PgR false (·∉A3.fp) H' nu (30+4*k+j) d3 P3 S3/\Sh K A3 H' b (ns.map V.int)/\Nf A3 H' t lc ln cs nu/\A3.p=A1.p/\S3.ppl=S2.ppl/\S3.led.length=k/\S3.len=rr/\S3.std.length=S2.std.length+j/\ds3.length=ds2.length+j/\(j=0->S3.cur=none)/\(0<j->S3.cur≠none)/\S3.out=S2.out++ws.take (j-1)/\H' lD=some (.lst ts)/\lD∉A3.fp/\Xr (·∉A3.fp) H' ts (.draw ms :: ws.map Cq)
  refine⟨_,rfl,⟨_,SqL.of hlD⟩,Xv (K:=K) (a:=lD) (xs:=ts) jv2
   ⟨A2,l2,ds2,d2,P2,S2,_,rfl,SA4,hl4,ho2,R4,SC4,PO4,eAp,rfl,hled,hlen2,rfl,rfl,fun _=>hcur,fun z=>absurd z ⋯,by simp,hlD,oD,DL4⟩ (fun j σ H' _ ⟨_,_,_,_,_,_,_,_,_,_,_,_,_,_,_,_,_,_,_,_,_,_,_,z,_⟩=>SqL.of z) ?_ ?_⟩
  ·clear SA4 hl4 ho2 R4 SC4 PO4 eAp hlD oD DL4;rintro j x σ H5 hx ⟨A3,l3',ds3,d3,P3,S3,v8,rfl,SA,hl3',ho3,R,SC,PO,eAp,g1,g2,g3,g4,g5,g6,g7,g8,hlD,oD,DL⟩;obtain⟨t',D,rfl,hDj,hD⟩:=DL.at_ j x hx;have hj:=(zsm.mp hx).1;have hjw:j<=ws.length:=by omega
   have hst3:S3.std.length<100:=by omega
   have hn3:30+4*k+j<=800:=by omega
   obtain⟨g,hnb,hnc,hne,hnx⟩:To S3 D/\D≠.back/\D≠.close/\(∀ k gr c,D=.enrol k gr c->k∈nu)/\∀ {H':Hp} {S':Sea} {v:V},Wo H' S3 D S' v->S'.ppl=S2.ppl/\S'.led.length=k/\S'.len=rr/\S'.std.length=S2.std.length+(j+1)/\S'.cur≠none/\S'.out=S2.out++ws.take (j+1-1):=by
    cases j with
    | zero =>
      cases hDj;refine⟨⟨by omega,g6 rfl,by omega,gm.1,gm.2⟩,nofun,nofun,nofun,fun af=>?_⟩;obtain⟨c1,c2,c3,c4,c5,c6⟩:=Aa af;exact⟨c1.trans g1,by rw[c3];exact g2,c2.trans g3,by rw[c4,g4],c6,by rw[c5,g8]⟩
    | succ j =>
      rw[List.getElem?_cons_succ,zsr] at hDj;obtain⟨w,hw,rfl⟩:=zuc.mp hDj;obtain⟨w1,w2,w3,w4⟩:=hws w (zsy hw);have etk:ws.take (j+1)=ws.take j++[w]:=by rw[ztv,hw];rfl
      have hnw:w∉ws.take j:=fun z=>by
       obtain⟨i,hi,ei⟩:=ztn z;rw[zub] at hi;rw[List.getElem_take] at ei;have hjl:=(zsm.mp hw);have:=(List.getElem_inj wnd).mp (ei.trans hjl.2.symm);omega
      refine⟨⟨by rw[g2];exact w1,by rw[g3,<- hlen2];exact w2,by rw[g1];exact w3,?_⟩,nofun,nofun,nofun,fun af=>?_⟩
      ·rw[g8];intro z;rcases zsv.mp z with z|z
       ·exact w4 z
       ·exact hnw z
      ·obtain⟨c1,c2,c3,c4,c5,c6⟩:=Ab af;exact⟨c1.trans g1,by rw[c3];exact g2,c2.trans g3,by rw[c4,g4];rfl,c6 (g7 ⋯),by rw[c5,g8,zt3];show _=S2.out++ws.take (j+1);rw[etk];rfl⟩
   obtain⟨b1,b2,b3,b4,b5,b6,b7,b8,b9,b10⟩:=zfs R.so g hst3 hn3 hnb;walk_at "if";refine⟨_,rfl,_,rfl,Ld.of (E':=E) ⟨A3,S3,t',D,(by rw[eAp];rfl),SA,hD,g,b1,b2,b3,b4,b5,b6,b7,b8,b9,b10,fun v' A6 S6 H6 af SA6 nx fr _=>?_⟩⟩;have f6:=FrN.next SA nx fr;obtain⟨c1,c2,c3,c4⟩:=G9 R.rb R.so g hn3;dsimp only;refine⟨_,rfl,_,rfl,(·∉A6.fp),l3',t',ds3,d3,P3,D,rfl,(f6.k _ _ hl3' ho3).1,R.pg.fr f6,hD.fr f6,c1,c2,c3,by omega,c4,fun l7 d7 H7 hl7 pg7 s7 fl7 fd7=>?_⟩
   have R7:=zf7 R af SA6 g hne hnb (fun z=>absurd z hnc) (pg7 hnb);have hk7:F8 ds3 d3 d7 D=(ds3++[d3])++[d7]:=by
    cases D with
    | back=>exact absurd rfl hnb
    | close=>exact absurd rfl hnc
    | enrol _ _ _=>rfl
    | away _ _=>rfl
    | draw _=>rfl
   rw[hk7] at hl7;have SA7:=SA6.same s7;have f7:=f6.trans (.of s7);have hat7:atI (((ds3++[d3])++[d7]).map V.ref) (-1)=some (V.ref d7):=by rw[zsq];exact L2.atI_last _ _
   obtain⟨k1,k2,k3,k4,k5,k6⟩:=hnx af;obtain⟨sh,hsh⟩:∃ sh,S6.cur=some sh:=by
    cases e:S6.cur with
    | none=>exact absurd e k5
    | some sh=>exact⟨sh,rfl⟩
   walk_at "if";refine⟨_,rfl,_,rfl,_,rfl,l7,_,_,_,rfl,rfl,SqL.of hl7,hat7,A6,S6,d7,_,sh,nu,_,false,(by rw[f6.p,eAp];rfl),SA7,R7.pg,R7.rb,R7.so,hsh,fun H8 s8=>⟨true,rfl,iteF (Z1 ?_)⟩⟩;have f8:=f7.trans (.of s8);exact⟨A6,l7,ds3++[d3],d7,_,S6,_,rfl,SA7.same s8,s8 _ _ hl7,SA6.newOk _ fl7,R7.same s8,SC.fr f8,PO.fr f8,f6.p.trans eAp,k1,k2,k3,k4,by rw[zsn,g5];rfl,fun z=>absurd z ⋯,fun _=>k5,k6,(f8.k _ _ hlD oD).1,(f8.k _ _ hlD oD).2,DL.fr f8⟩
  ·rintro σ H5 ⟨A3,l3',ds3,d3,P3,S3,v8,rfl,SA,hl3',ho3,R,SC,PO,eAp3,g1,g2,g3,g4,g5,g6,g7,g8,_⟩;dsimp only;have hcn:S3.cur≠none:=g7 (by rw[tsl];omega);obtain⟨sh,hsh⟩:∃ sh,S3.cur=some sh:=by
    cases e:S3.cur with
    | none=>exact absurd e hcn
    | some sh=>exact⟨sh,rfl⟩
   obtain⟨x1,x2,x3,x4,x5⟩:=R.so.cur sh hsh;have hml:sh.may.length=sh.ms.length:=by rw[x4];unfold mayS;rw[zsk]
   have hgl:sh.gv.length=sh.may.length:=x2.len;have at3:atV S3=(k:Int)+1:=by unfold atV;rw[g2]
   have hat3:atI ((ds3++[d3]).map V.ref) (-1)=some (V.ref d3):=by rw[zsq];exact L2.atI_last _ _
   obtain⟨⟨dx3,vv3,ob3,_⟩,_⟩:=id SA;rw[eAp3] at ob3;refine⟨_,rfl,A1.p,dx3,_,rfl,ob3,Ye ⋯,_,rfl,_,_,rfl,rfl,A3,S3,atV S3,(by rw[eAp3,at3];rfl),SA,zed R.so hsh fun lf H6 hlf s6 flf=>⟨lf,_,rfl,.inl (SqL.of hlf),fun lg flg=>?_⟩⟩;have s7:=s6.trans (Zf (o:=.lst sh.gv) flg);have q7:=Zb (H:=H6) (a:=lg) (o:=.lst sh.gv);have o7:=(SA.same s6).newOk _ flg;generalize upd H6 lg (.lst sh.gv)=H7 at s7 q7 ⊢;obtain⟨kvs,b1,b2,pg8⟩:=(R.pg.same s7).setGoes q7 o7;refine⟨_,rfl,_,rfl,l3',_,_,_,rfl,rfl,SqL.of (s7 _ _ hl3'),hat3,d3,_,rfl,DPut.k (k:=.inr "goes") b1 b2,?_⟩;obtain⟨_,_,_,_,_,_,_,_,_,okd3⟩:=R.pg.split;have SA8:=(SA.same s7).dictW (kvs':=putK kvs (.inr "goes") (.ref lg)) b1 okd3;have l8:=(Xg.dict b1 (kvs':=putK kvs (.inr "goes") (.ref lg))).1 _ _ (s7 _ _ hl3');have SC8:=(SC.fr (.of s7)).dictW (kvs':=putK kvs (.inr "goes") (.ref lg)) b1;have PO8:=(PO.fr (.of s7)).dictW (kvs':=putK kvs (.inr "goes") (.ref lg)) b1;generalize upd H7 d3 (.dK (putK kvs (.inr "goes") (.ref lg)))=H8 at pg8 SA8 l8 SC8 PO8 ⊢;have n1:=R.so.num;have n2:=R.so.len;have n3:=R.so.olen;have n4:=R.so.tot;have RB8:Sg false { P3 with gv:=sh.gv } S3:=⟨R.rb.len,R.rb.rest,R.rb.ppl,R.rb.out,R.rb.over,R.rb.lis⟩;have R8:PgR false (·∉A3.fp) H8 nu (30+4*k+ts.length) d3 { P3 with gv:=sh.gv } S3:=⟨pg8,RB8,R.so⟩;have RE8:Rel false { P3 with gv:=sh.gv } S3:=⟨RB8,fun s hs=>(by rw[hsh] at hs;cases hs;rfl),nofun⟩;have g:To S3 .close:=⟨by omega,hcn⟩;dsimp only;refine Fq ?_;obtain⟨⟨dx8,vv8,ob8,_⟩,_⟩:=id SA8;rw[eAp3] at ob8;refine⟨_,rfl,A1.p,dx8,_,rfl,ob8,Ye ⋯,A3,S3,(by rw[eAp3];rfl),SA8,by omega,by omega,by omega,fun s hs=>(by rw[hsh] at hs;cases hs;exact⟨x2.one,by omega,by omega⟩),?_⟩;rw[if_neg ⋯];refine⟨fun z=>absurd z hcn,fun s x H9 hs SA9 f9 fx=>?_⟩;rw[hsh] at hs;cases hs;have af:Wo H9 S3 .close (Nb S3 sh) (.int (atV S3)):=.close hsh;have nx9:Nd A3 { A3 with lt:=x } H8:=⟨x,rfl,.inr fx⟩;have f89:=FrN.next SA8 nx9 f9;refine⟨_,rfl,_,_,rfl,rfl,.int ((k:Int)+1),(by rw[at3];rfl),.inr ⟨_,rfl⟩,true,rfl,iteF (Z1 ?_)⟩
   dsimp only;obtain⟨c1,c2,c3,c4⟩:=G9 R8.rb R8.so g ⋯;refine⟨_,rfl,(by show 1<=sizeLine;rw[sizeLine_eq];decide),fun tc fc=>?_⟩;have s10:=Zf (o:=.tup [.str "close"]) fc;have q10:=Zb (H:=H9) (a:=tc) (o:=.tup [.str "close"]);generalize upd H9 tc (.tup [.str "close"])=H10 at s10 q10 ⊢;have f810:=f89.trans (.of s10);refine⟨(·∉({ A3 with lt:=x }:SAd).fp),l3',tc,ds3,d3,_,.close,rfl,(f810.k _ _ l8 ho3).1,R8.pg.fr f810,q10,c1,c2,c3,by omega,c4,fun l11 d11 H11 hl11 pg11 s11 fl11 fd11=>?_⟩;have SA10:=SA9.same s10;have R11:=zf7 R8 (af.same s10) SA10 g nofun nofun (fun _=>RE8) (pg11 nofun);have SA11:=SA10.same s11;have f811:=f810.trans (.of s11);exact⟨_,l11,[],d11,_,Nb S3 sh,_,_,_,rfl,SA11,hl11,SA10.newOk _ fl11,⟨R11.pg,R11.rb,R11.so.mono ⋯⟩,SC8.fr f811,PO8.fr f811,eAp3,rfl,by show (S3.led++[_]).length=_;rw[zsn,g2];rfl,g3,zs9 _,zs9 _,fun _=>rfl⟩
 ·rintro σ H1 ⟨A2,l2,ds2,d2,P2,S2,v6,v7,v8,rfl,SA,hl2,ho2,R,SC,PO,eAp,hcur,hled,hlen2,hst,hds,hsn⟩;dsimp only;have hat:atI ((ds2++[d2]).map V.ref) (-1)=some (V.ref d2):=by rw[zsq];exact L2.atI_last _ _
  obtain⟨⟨dx,vv,ob,_⟩,_⟩:=id SA;rw[eAp] at ob;obtain⟨k0,hk0,hkn⟩:∃ k0,atI (nu.map V.int) 0=some (.int k0)/\k0∈nu:=by
   cases nu with
   | nil=>cases hnu
   | cons x r=>exact⟨x,Z9 (j:=0) rfl,zte⟩
  refine Fq ?_;refine⟨_,rfl,A1.p,dx,_,rfl,ob,Ye ⋯,A2,S2,(by rw[eAp];rfl),SA,by omega,fun lf lfs H5 hlf rlf s5 _ _=>⟨_,rfl,_,rfl,l2,_,_,_,rfl,rfl,SqL.of (s5 _ _ hl2),hat,(·∉A2.fp),lf,d2,lfs,P2,rfl,hlf,R.pg.same s5,R.rb.ovok R.so,(by rw[R.rb.rows,<- R.so.led];exact rlf),fun H6 s6=>⟨true,rfl,iteF (Z1 ?_)⟩⟩⟩;have s56:=s5.trans s6;have PO6:=PO.fr (.of s56);have rng:=PO6.at_.nrng _ hkn;dsimp only;exact⟨_,rfl,_,rfl,_,rfl,t,_,_,_,rfl,rfl,SqT.of PO6.at_.tup,rfl,ln,_,_,_,rfl,rfl,SqL.of PO6.at_.nums,hk0,A2,S2,rr,k0,nu,_,(by rw[eAp];rfl),SA.same s56,hled,hlen2,hcur,hsn ⋯,R.so,by omega,rng.1,rng.2,fun H7 s7=>⟨true,rfl,iteT ⟨_,rfl,A1.p,dx,_,rfl,(s56.trans s7) _ _ ob,Ye ⋯,A2,S2,(by rw[eAp];rfl),SA.same (s56.trans s7),_,rfl,_,_,rfl,rfl,.int ((rr:Int)+1),(by unfold atV;rw[hled];rfl),.inr ⟨_,rfl⟩,h H7⟩⟩⟩
end
end K39
namespace K39
open PySem PySem.Spec PyProof.Rows L2 G PySem.W
theorem zhs{l:OpenLaw}{w:World}{K:Frag}{h:Heap}{mg:Str->Option Value}{fa zn3 zkp zk6 zkt zk1 zk2 zmk zl3 zka zko zki zle zm7 zmi zj7 zk9 zj4 zj5 zj6 zj1 f0 f1 f2 f3 f4 f5 f6 f7 f8 f9 f10 f11 f12 f13 f14 f15 f16 f17 f18 f19 f20 f21 f22 f23 f24 f25 f26 f27 f28 f29 f30 f31 f32 f33 f34 f35 f36 f37 f38 f39 f40 f41 f42 f43 f44 f45 f46 f47 f48 f49 f50 f51 f52 f53 f54 f55 f56 f57 f58 f59 f60 f61 f62 f63 f64 f65 f66 f67 f68 f69 f70 f71 f72 f73 f74 f75 f76 f77 f78 f79 f80 f81 f82 f83:Addr}{tk0 tk1 tk2 tk3 tk4 tk5 tk6 tk7:Tok}{u0 n0 u1 n1 u2 n2 u3 n3 u4 n4 u5 n5 u6 n6 u7 n7 u8 n8 u9 n9 u10 n10 u11 n11 u12 n12 u13 n13 u14 n14 u15 n15 u16 n16 u17 n17 u18 n18 u19 n19 u20 n20 u21 n21 u22 n22 u23 n23 u24 n24 u25 n25 u26 n26 u27 n27 u28 n28 u29 n29 u30 n30 u31 n31 u32 n32 u33 n33 u34 n34 u35 n35 u36 n36 u37 n37 u38 n38 u39 n39 u40 n40 u41 n41 u42 n42 u43 n43 u44 n44 u45 n45 u46 n46 u47 n47 u48 n48 u49 n49 u50 n50 u51 n51 u52 n52 u53 n53 u54 n54 u55 n55 u56 n56 u57 n57 u58 n58 u59 n59 u60 n60 u61 n61 u62 n62 u63 n63 u64 n64 u65 n65 u66 n66 u67 n67 u68 n68 u69 n69 u70 n70 u71 n71 u72 n72 u73 n73 u74 n74 u75 n75 u76 n76 u77 n77 u78 n78 u79 n79 u80 n80 u81 n81 u82 n82 u83 n83:Option Addr}{z0 z1 z2 z3 z4 z5 z6 z7 z8 z9 z10 z11 z12 z13 z14 z15 z16 z17 z18 z19 z20 z21 z22 z23 z24 z25 z26 z27 z28 z29 z30 z31 z32 z33 z34 z35 z36 z37 z38 z39 z40 z41 z42 z43 z44 z45 z46 z47 z48 z49 z50 z51 z52 z53 z54 z55 z56 z57 z58 z59 z60 z61 z62 z63 z64 z65 z66 z67 z68 z69 z70 z71 z72 z73 z74 z75 z76 z77 z78 z79 z80 z81 z82 z83:Array (Option Value)}{o0 v0 d0 m0 c0 t0 o1 v1 d1 m1 c1 t1 o2 v2 d2 m2 c2 t2 o3 v3 d3 m3 c3 t3 o4 v4 d4 m4 c4 t4 o5 v5 d5 m5 c5 t5 o6 v6 d6 m6 c6 t6 o7 v7 d7 m7 c7 t7 o8 v8 d8 m8 c8 t8 o9 v9 d9 m9 c9 t9 o10 v10 d10 m10 c10 t10 o11 v11 d11 m11 c11 t11 o12 v12 d12 m12 c12 t12 o13 v13 d13 m13 c13 t13 o14 v14 d14 m14 c14 t14 o15 v15 d15 m15 c15 t15 o16 v16 d16 m16 c16 t16 o17 v17 d17 m17 c17 t17 o18 v18 d18 m18 c18 t18 o19 v19 d19 m19 c19 t19 o20 v20 d20 m20 c20 t20 o21 v21 d21 m21 c21 t21 o22 v22 d22 m22 c22 t22 o23 v23 d23 m23 c23 t23 o24 v24 d24 m24 c24 t24 o25 v25 d25 m25 c25 t25 o26 v26 d26 m26 c26 t26 o27 v27 d27 m27 c27 t27 o28 v28 d28 m28 c28 t28 o29 v29 d29 m29 c29 t29 o30 v30 d30 m30 c30 t30 o31 v31 d31 m31 c31 t31 o32 v32 d32 m32 c32 t32 o33 v33 d33 m33 c33 t33 o34 v34 d34 m34 c34 t34 o35 v35 d35 m35 c35 t35 o36 v36 d36 m36 c36 t36 o37 v37 d37 m37 c37 t37 o38 v38 d38 m38 c38 t38 o39 v39 d39 m39 c39 t39 o40 v40 d40 m40 c40 t40 o41 v41 d41 m41 c41 t41 o42 v42 d42 m42 c42 t42 o43 v43 d43 m43 c43 t43 o44 v44 d44 m44 c44 t44 o45 v45 d45 m45 c45 t45 o46 v46 d46 m46 c46 t46 o47 v47 d47 m47 c47 t47 o48 v48 d48 m48 c48 t48 o49 v49 d49 m49 c49 t49 o50 v50 d50 m50 c50 t50 o51 v51 d51 m51 c51 t51 o52 v52 d52 m52 c52 t52 o53 v53 d53 m53 c53 t53 o54 v54 d54 m54 c54 t54 o55 v55 d55 m55 c55 t55 o56 v56 d56 m56 c56 t56 o57 v57 d57 m57 c57 t57 o58 v58 d58 m58 c58 t58 o59 v59 d59 m59 c59 t59 o60 v60 d60 m60 c60 t60 o61 v61 d61 m61 c61 t61 o62 v62 d62 m62 c62 t62 o63 v63 d63 m63 c63 t63 o64 v64 d64 m64 c64 t64 o65 v65 d65 m65 c65 t65 o66 v66 d66 m66 c66 t66 o67 v67 d67 m67 c67 t67 o68 v68 d68 m68 c68 t68 o69 v69 d69 m69 c69 t69 o70 v70 d70 m70 c70 t70 o71 v71 d71 m71 c71 t71 o72 v72 d72 m72 c72 t72 o73 v73 d73 m73 c73 t73 o74 v74 d74 m74 c74 t74 o75 v75 d75 m75 c75 t75 o76 v76 d76 m76 c76 t76 o77 v77 d77 m77 c77 t77 o78 v78 d78 m78 c78 t78 o79 v79 d79 m79 c79 t79 o80 v80 d80 m80 c80 t80 o81 v81 d81 m81 c81 t81 o82 v82 d82 m82 c82 t82 o83 v83 d83 m83 c83 t83:Value}(X:K.In h)(G:h.Ns mainGlobals mg)(hfa:mg "law"=some (.ref fa))
  (zoc:NsB K "BookError" zn3)
  (zmz:NsB K "OutOfRange" zkp)
  (zl9:NsB K "KnownReferee" zk6)
  (zlk:NsB K "TooManyReferees" zkt)
  (zlp:NsB K "UnknownReferee" zk1)
  (zls:NsB K "TooManyMatches" zk2)
  (znx:NsB K "SameClub" zmk)
  (znm:NsB K "NoSuchMatch" zl3)
  (zmm:NsB K "NoSuchRound" zka)
  (znj:NsB K "RoundOver" zko)
  (zmy:NsB K "SeasonOver" zki)
  (zmn:NsB K "AwayAlready" zle)
  (zoi:NsB K "DrawnUp" zm7)
  (znz:NsB K "NotDrawn" zmi)
  (zla:NsB K "NothingToTakeBack" zj7)
  (zl8:NsB K "TooManyDeeds" zk9)
  (zos:NsB K "Ledger" zj4)
  (zor:NsB K "Roster" zj5)
  (zpm:NsB K "Sheet" zj6)
  (zow:NsB K "Season" zj1)
  (zo6:plainGet K zj4 Str.empty=true)
  (zpg:hasDictIn K zj4=true)
  (zph:plainOver K zj4=true)
  (zo2:findIn K (.ref zj4) "__setattr__"=some (some (.builtin "object.__setattr__")))
  (zpa:makesIn K zj4=true)
  (zpl:keepIn K (.ref zj4)=true)
  (zly:findIn K (.ref zj4) "rounds"=some none)
  (zlm:findIn K (.ref zj4) "meetings"=some none)
  (zoz:plainGet K zj5 Str.empty=true)
  (zpd:hasDictIn K zj5=true)
  (zo0:plainOver K zj5=true)
  (zo9:findIn K (.ref zj5) "__setattr__"=some (some (.builtin "object.__setattr__")))
  (zo3:makesIn K zj5=true)
  (zpf:keepIn K (.ref zj5)=true)
  (zk3:findIn K (.ref zj5) "entries"=some none)
  (zpy:plainGet K zj6 Str.empty=true)
  (zpv:hasDictIn K zj6=true)
  (zp4:plainOver K zj6=true)
  (zp3:findIn K (.ref zj6) "__setattr__"=some (some (.builtin "object.__setattr__")))
  (zpr:makesIn K zj6=true)
  (zp0:keepIn K (.ref zj6)=true)
  (zma:findIn K (.ref zj6) "listed"=some none)
  (zov:findIn K (.ref zj6) "lists"=some none)
  (zml:findIn K (.ref zj6) "given"=some none)
  (zob:findIn K (.ref zj6) "gaps"=some none)
  (zpe:plainGet K zj1 Str.empty=true)
  (zpk:hasDictIn K zj1=true)
  (zo1:plainOver K zj1=true)
  (zpc:findIn K (.ref zj1) "__setattr__"=some (some (.builtin "object.__setattr__")))
  (zpj:makesIn K zj1=true)
  (zpi:keepIn K (.ref zj1)=true)
  (zm2:findIn K (.ref zj1) "length"=some none)
  (zo5:findIn K (.ref zj1) "rest"=some none)
  (zlf:findIn K (.ref zj1) "roster"=some none)
  (zlg:findIn K (.ref zj1) "ledger"=some none)
  (zl4:findIn K (.ref zj1) "absent"=some none)
  (zm1:findIn K (.ref zj1) "sheets"=some none)
  (zkx:findIn K (.ref zj1) "sheet"=some none)
  (zk8:findIn K (.ref zj1) "standing"=some none)
  (znq:XcB K zka)
  (znw:XcB K zkp)
  (zme:XcB K zk2)
  (zol:XcB K zmk)
  (zm3:XcB K zk6)
  (zl7:XcB K zkt)
  (zmd:XcB K zk1)
  (zn1:XcB K zki)
  (zo7:XcB K zm7)
  (znb:XcB K zk9)
  (zoo:XcB K zmi)
  (zoa:XcB K zko)
  (znl:XcB K zle)
  (zlx:XcB K zj7)
  (zpz:NzB K "max")
  (zkj:NzB K "len")
  (zoh:NzB K "tuple")
  (zlw:NzB K "list")
  (zmp:NzB K "enumerate")
  (zk0:NzB K "range")
  (zqd:NzB K "zip")
  (zky:NzB K "isinstance")
  (zqe:NzB K "int")
  (zpn:NzB K "bool")
  (zpw:NzB K "dict")
  (zne:typeIn K (.ref zka)=some (.type "type"))
  (zl6:mroIn K zka (.type "BaseException")=some true)
  (zln:typeIn K (.ref zj7)=some (.type "type"))
  (zk5:mroIn K zj7 (.type "BaseException")=some true)
  (znp:typeIn K (.ref zki)=some (.type "type"))
  (zmo:mroIn K zki (.type "BaseException")=some true)
  (znu:typeIn K (.ref zko)=some (.type "type"))
  (zmw:mroIn K zko (.type "BaseException")=some true)
  (zkh:mroIn K zka (.ref zka)=some true)
  (zkm:mroIn K zki (.ref zki)=some true)
  (zkq:mroIn K zko (.ref zko)=some true)
  (zj8:mroIn K zj7 (.ref zj7)=some true)
  (zlz:nsIn K mainGlobals "MOST_NUMBER"=some (some (.int 999 tk0)))
  (zlq:nsIn K mainGlobals "MOST_GRADE"=some (some (.int 9 tk1)))
  (zlo:nsIn K mainGlobals "MOST_CLUB"=some (some (.int 99 tk2)))
  (zk4:nsIn K mainGlobals "MOST_REFEREES"=some (some (.int 30 tk3)))
  (zlb:nsIn K mainGlobals "MOST_MATCHES"=some (some (.int 20 tk4)))
  (zl0:nsIn K mainGlobals "MOST_ROUNDS"=some (some (.int 60 tk5)))
  (zmq:nsIn K mainGlobals "MOST_REST"=some (some (.int 10 tk6)))
  (zlu:nsIn K mainGlobals "MOST_DEEDS"=some (some (.int 100 tk7)))
  (l0:LN K "met_lately" "met_lately" S5 f0 o0 v0 d0 m0 c0 t0 u0 n0 z0)
  (l1:LN K "reasons" "reasons" Mb f1 o1 v1 d1 m1 c1 t1 u1 n1 z1)
  (l2:LN K "takers" "takers" Jv f2 o2 v2 d2 m2 c2 t2 u2 n2 z2)
  (l3:LM K zj4 "__init__" "Ledger.__init__" Vj f3 o3 v3 d3 m3 c3 t3 u3 n3 z3)
  (l4:LM K zj4 "write" "Ledger.write" Uy f4 o4 v4 d4 m4 c4 t4 u4 n4 z4)
  (l5:LM K zj4 "over" "Ledger.over" Tu f5 o5 v5 d5 m5 c5 t5 u5 n5 z5)
  (l6:LM K zj4 "facts" "Ledger.facts" Uz f6 o6 v6 d6 m6 c6 t6 u6 n6 z6)
  (l7:LM K zj4 "met" "Ledger.met" S7 f7 o7 v7 d7 m7 c7 t7 u7 n7 z7)
  (l8:LN K "check_range" "check_range" Tv f8 o8 v8 d8 m8 c8 t8 u8 n8 z8)
  (l9:LN K "check_count" "check_count" Tw f9 o9 v9 d9 m9 c9 t9 u9 n9 z9)
  (l10:LN K "check_ranges" "check_ranges" U0 f10 o10 v10 d10 m10 c10 t10 u10 n10 z10)
  (l11:LN K "check_clubs" "check_clubs" Tz f11 o11 v11 d11 m11 c11 t11 u11 n11 z11)
  (l12:LN K "checked" "checked" Mc f12 o12 v12 d12 m12 c12 t12 u12 n12 z12)
  (l13:LM K zj5 "__init__" "Roster.__init__" Vl f13 o13 v13 d13 m13 c13 t13 u13 n13 z13)
  (l14:LM K zj5 "check_new" "Roster.check_new" W6 f14 o14 v14 d14 m14 c14 t14 u14 n14 z14)
  (l15:LM K zj5 "check_known" "Roster.check_known" Wj f15 o15 v15 d15 m15 c15 t15 u15 n15 z15)
  (l16:LM K zj5 "add" "Roster.add" S8 f16 o16 v16 d16 m16 c16 t16 u16 n16 z16)
  (l17:LM K zj5 "strike" "Roster.strike" Uc f17 o17 v17 d17 m17 c17 t17 u17 n17 z17)
  (l18:LM K zj5 "numbers" "Roster.numbers" V1 f18 o18 v18 d18 m18 c18 t18 u18 n18 z18)
  (l19:LM K zj5 "entry" "Roster.entry" U1 f19 o19 v19 d19 m19 c19 t19 u19 n19 z19)
  (l20:LM K zj5 "person" "Roster.person" Ud f20 o20 v20 d20 m20 c20 t20 u20 n20 z20)
  (l21:LN K "places_taken" "places_taken" U2 f21 o21 v21 d21 m21 c21 t21 u21 n21 z21)
  (l22:LN K "steps_into" "steps_into" S9 f22 o22 v22 d22 m22 c22 t22 u22 n22 z22)
  (l23:LN K "free_referee" "free_referee" U3 f23 o23 v23 d23 m23 c23 t23 u23 n23 z23)
  (l24:LN K "traced" "traced" Jw f24 o24 v24 d24 m24 c24 t24 u24 n24 z24)
  (l25:LN K "chain" "chain" Ee f25 o25 v25 d25 m25 c25 t25 u25 n25 z25)
  (l26:LN K "stepped" "stepped" Mh f26 o26 v26 d26 m26 c26 t26 u26 n26 z26)
  (l27:LN K "fill" "fill" Ah f27 o27 v27 d27 m27 c27 t27 u27 n27 z27)
  (l28:LN K "place_of" "place_of" Ol f28 o28 v28 d28 m28 c28 t28 u28 n28 z28)
  (l29:LM K zj6 "__init__" "Sheet.__init__" V2 f29 o29 v29 d29 m29 c29 t29 u29 n29 z29)
  (l30:LM K zj6 "barred" "Sheet.barred" U4 f30 o30 v30 d30 m30 c30 t30 u30 n30 z30)
  (l31:LM K zj6 "fallen_out" "Sheet.fallen_out" W7 f31 o31 v31 d31 m31 c31 t31 u31 n31 z31)
  (l32:LM K zj6 "matches" "Sheet.matches" Ue f32 o32 v32 d32 m32 c32 t32 u32 n32 z32)
  (l33:LM K zj6 "goes" "Sheet.goes" Rb f33 o33 v33 d33 m33 c33 t33 u33 n33 z33)
  (l34:LM K zj6 "where" "Sheet.where" T1 f34 o34 v34 d34 m34 c34 t34 u34 n34 z34)
  (l35:LM K zj6 "chains" "Sheet.chains" U5 f35 o35 v35 d35 m35 c35 t35 u35 n35 z35)
  (l36:LM K zj6 "rows" "Sheet.rows" Rc f36 o36 v36 d36 m36 c36 t36 u36 n36 z36)
  (l37:LN K "drawn_sheet" "drawn_sheet" T2 f37 o37 v37 d37 m37 c37 t37 u37 n37 z37)
  (l38:LM K zj1 "__init__" "Season.__init__" Vm f38 o38 v38 d38 m38 c38 t38 u38 n38 z38)
  (l39:LM K zj1 "check_not_over" "Season.check_not_over" Xy f39 o39 v39 d39 m39 c39 t39 u39 n39 z39)
  (l40:LM K zj1 "check_undrawn" "Season.check_undrawn" X3 f40 o40 v40 d40 m40 c40 t40 u40 n40 z40)
  (l41:LM K zj1 "check_round" "Season.check_round" Wk f41 o41 v41 d41 m41 c41 t41 u41 n41 z41)
  (l42:LM K zj1 "check_room" "Season.check_room" Wt f42 o42 v42 d42 m42 c42 t42 u42 n42 z42)
  (l43:LM K zj1 "note" "Season.note" T5 f43 o43 v43 d43 m43 c43 t43 u43 n43 z43)
  (l44:LM K zj1 "sheet_at_hand" "Season.sheet_at_hand" X4 f44 o44 v44 d44 m44 c44 t44 u44 n44 z44)
  (l45:LM K zj1 "sheet_of" "Season.sheet_of" Vn f45 o45 v45 d45 m45 c45 t45 u45 n45 z45)
  (l46:LM K zj1 "takers_of" "Season.takers_of" W8 f46 o46 v46 d46 m46 c46 t46 u46 n46 z46)
  (l47:LM K zj1 "enrol" "Season.enrol" U6 f47 o47 v47 d47 m47 c47 t47 u47 n47 z47)
  (l48:LM K zj1 "draw_up" "Season.draw_up" V3 f48 o48 v48 d48 m48 c48 t48 u48 n48 z48)
  (l49:LM K zj1 "away" "Season.away" T6 f49 o49 v49 d49 m49 c49 t49 u49 n49 z49)
  (l50:LM K zj1 "step_in" "Season.step_in" V4 f50 o50 v50 d50 m50 c50 t50 u50 n50 z50)
  (l51:LM K zj1 "close" "Season.close" U7 f51 o51 v51 d51 m51 c51 t51 u51 n51 z51)
  (l52:LM K zj1 "take_back" "Season.take_back" W9 f52 o52 v52 d52 m52 c52 t52 u52 n52 z52)
  (l53:LM K zj1 "at_hand" "Season.at_hand" V5 f53 o53 v53 d53 m53 c53 t53 u53 n53 z53)
  (l54:LM K zj1 "goes" "Season.goes" T7 f54 o54 v54 d54 m54 c54 t54 u54 n54 z54)
  (l55:LM K zj1 "facts" "Season.facts" U8 f55 o55 v55 d55 m55 c55 t55 u55 n55 z55)
  (l56:LN K "_law_whole" "_law_whole" Qi f56 o56 v56 d56 m56 c56 t56 u56 n56 z56)
  (l57:LN K "_law_at" "_law_at" J9 f57 o57 v57 d57 m57 c57 t57 u57 n57 z57)
  (l58:LN K "_law_mix" "_law_mix" Ml f58 o58 v58 d58 m58 c58 t58 u58 n58 z58)
  (l59:LN K "_law_numbers" "_law_numbers" Yn f59 o59 v59 d59 m59 c59 t59 u59 n59 z59)
  (l60:LN K "_law_clubs" "_law_clubs" Y4 f60 o60 v60 d60 m60 c60 t60 u60 n60 z60)
  (l61:LN K "_law_one_is" "_law_one_is" Rg f61 o61 v61 d61 m61 c61 t61 u61 n61 z61)
  (l62:LN K "_law_tuple_is" "_law_tuple_is" U9 f62 o62 v62 d62 m62 c62 t62 u62 n62 z62)
  (l63:LN K "_law_rows_are" "_law_rows_are" Ta f63 o63 v63 d63 m63 c63 t63 u63 n63 z63)
  (l64:LN K "_law_is_filling" "_law_is_filling" V6 f64 o64 v64 d64 m64 c64 t64 u64 n64 z64)
  (l65:LN K "_law_stuck" "_law_stuck" Ql f65 o65 v65 d65 m65 c65 t65 u65 n65 z65)
  (l66:LN K "_law_left_just_where" "_law_left_just_where" X9 f66 o66 v66 d66 m66 c66 t66 u66 n66 z66)
  (l67:LN K "_law_first" "_law_first" Qm f67 o67 v67 d67 m67 c67 t67 u67 n67 z67)
  (l68:LN K "_law_met" "_law_met" Mo f68 o68 v68 d68 m68 c68 t68 u68 n68 z68)
  (l69:LN K "_law_bars" "_law_bars" Ou f69 o69 v69 d69 m69 c69 t69 u69 n69 z69)
  (l70:LN K "_law_open" "_law_open" Ov f70 o70 v70 d70 m70 c70 t70 u70 n70 z70)
  (l71:LN K "_law_paged" "_law_paged" Qn f71 o71 v71 d71 m71 c71 t71 u71 n71 z71)
  (l72:LN K "_law_matches" "_law_matches" Yf f72 o72 v72 d72 m72 c72 t72 u72 n72 z72)
  (l73:LN K "_law_do" "_law_do" Ii f73 o73 v73 d73 m73 c73 t73 u73 n73 z73)
  (l74:LN K "_law_pool" "_law_pool" Xh f74 o74 v74 d74 m74 c74 t74 u74 n74 z74)
  (l75:LN K "_law_people" "_law_people" Yd f75 o75 v75 d75 m75 c75 t75 u75 n75 z75)
  (l76:LN K "_law_enrolled" "_law_enrolled" Tb f76 o76 v76 d76 m76 c76 t76 u76 n76 z76)
  (l77:LN K "_law_rest" "_law_rest" X6 f77 o77 v77 d77 m77 c77 t77 u77 n77 z77)
  (l78:LN K "_law_rounds" "_law_rounds" Ri f78 o78 v78 d78 m78 c78 t78 u78 n78 z78)
  (l79:LN K "_law_facts_are" "_law_facts_are" Uh f79 o79 v79 d79 m79 c79 t79 u79 n79 z79)
  (l80:LN K "_law_fits" "_law_fits" Ow f80 o80 v80 d80 m80 c80 t80 u80 n80 z80)
  (l81:LN K "_law_ended" "_law_ended" Qr f81 o81 v81 d81 m81 c81 t81 u81 n81 z81)
  (l82:LN K "_law_deeds" "_law_deeds" Qp f82 o82 v82 d82 m82 c82 t82 u82 n82 z82)
  (l83:LN K "law" "law" Fb f83 o83 v83 d83 m83 c83 t83 u83 n83 z83)
  : ∃ fd:FuncData,(∀ (s:Shared) (v:Value),BindsTo s fd ⟨[v],[]⟩ [("_law_script",v)])/\∀ base:Heap,K.In base->base.Ns mainGlobals mg->FnOk l.prog w K mg base (CX1 l.prog w) 10 fa fd ["_law_script"] (A7 K):=by
 have e:=hfa.symm.trans (mg_of X G l83.b);cases e
 let a:Ad:=⟨zn3,zkp,zk6,zkt,zk1,zk2,zmk,zl3,zka,zko,zki,zle,zm7,zmi,zj7,zk9,zj4,zj5,zj6,zj1⟩
 have T:Tx K mg a:=⟨⟨zo6,zpg,zph,zo2⟩,
  zly,
  zlm,
  ⟨zoz,zpd,zo0,zo9⟩,
  zk3,
  ⟨zpy,zpv,zp4,zp3⟩,
  zma,
  zov,
  zml,
  zob,
  ⟨zpe,zpk,zo1,zpc⟩,
  zm2,
  zo5,
  zlf,
  zlg,
  zl4,
  zm1,
  zkx,
  zk8,
  ⟨mg_of X G zmm,znq⟩,
  ⟨mg_of X G zmz,znw⟩,
  ⟨mg_of X G zls,zme⟩,
  ⟨mg_of X G znx,zol⟩,
  ⟨mg_of X G zl9,zm3⟩,
  ⟨mg_of X G zlk,zl7⟩,
  ⟨mg_of X G zlp,zmd⟩,
  ⟨mg_of X G zmy,zn1⟩,
  ⟨mg_of X G zoi,zo7⟩,
  ⟨mg_of X G zl8,znb⟩,
  ⟨mg_of X G znz,zoo⟩,
  ⟨mg_of X G znj,zoa⟩,
  ⟨mg_of X G zmn,znl⟩,
  ⟨mg_of X G zla,zlx⟩,
  mg_none_of X G zpz,
  mg_none_of X G zkj,
  mg_none_of X G zoh,
  mg_none_of X G zlw,
  mg_none_of X G zmp,
  mg_none_of X G zk0,
  mg_none_of X G zqd,
  mg_none_of X G zky,
  mg_none_of X G zqe,
  mg_none_of X G zpn,
  mg_none_of X G zpw,
  mg_of X G zoc,
  mg_of X G zmz,
  mg_of X G zl9,
  mg_of X G zlk,
  mg_of X G zlp,
  mg_of X G zls,
  mg_of X G znx,
  mg_of X G znm,
  mg_of X G zmm,
  mg_of X G znj,
  mg_of X G zmy,
  mg_of X G zmn,
  mg_of X G zoi,
  mg_of X G znz,
  mg_of X G zla,
  mg_of X G zl8,
  mg_of X G zos,
  mg_of X G zor,
  mg_of X G zpm,
  mg_of X G zow,
  ⟨zne,Su zl6,zl6⟩,
  ⟨zln,Su zk5,zk5⟩,
  ⟨znp,Su zmo,zmo⟩,
  ⟨znu,Su zmw,zmw⟩,
  zkh,
  zkm,
  zkq,
  zj8,
  ⟨_,mg_of X G zlz⟩,
  ⟨_,mg_of X G zlq⟩,
  ⟨_,mg_of X G zlo⟩,
  ⟨_,mg_of X G zk4⟩,
  ⟨_,mg_of X G zlb⟩,
  ⟨_,mg_of X G zl0⟩,
  ⟨_,mg_of X G zmq⟩,
  ⟨_,mg_of X G zlu⟩⟩
 refine⟨fnOf "law" "law" (Tg Fb) (Zp Fb) (Zj Fb) .none v83 d83 m83 n83 c83 t83,fun s v=>.of_eq rfl,fun base KX NX=>?_⟩;have Z:XG l.prog w base K mg h:=⟨X,G⟩;have zpp:=nM Z l3 zpa zpl zos fun F=>Oh F T;have zni:=mM Z l4 fun F=>Ln F T;have zj9:=mM Z l5 fun F=>Jq F T;have zm6:=mM Z l6 fun F=>Lp F T;have znt:=mM Z l7 fun F=>I9 F T;have zkc:=dN Z l8 fun F=>Js F T;have zns:=dN Z l9 fun F=>Jt F T;have znk:=dN Z l11 fun F=>Ju F T;have zpo:=nM Z l13 zo3 zpf zor fun F=>Oj F T;have zkl:=mM Z l15 fun F=>Rq F T;have zmr:=mM Z l17 fun F=>Me F T;have zlv:=mM Z l18 fun F=>Nh F T;have znc:=dN Z l21 fun F=>Lu F T;have zn0:=dN Z l22 fun F=>Hf F T;have znd:=dN Z l23 fun F=>Lv F T;have zou:=dN Z l24 fun F=>zb9 F T;have zmg:=dN Z l26 fun F=>Ag F T;have zoq:=dN Z l28 fun F=>Ct F T;have zmx:=nM Z l29 zpr zp0 zpm fun F=>Nj F T;have zms:=mM Z l32 fun F=>Mj F T;have zlt:=mM Z l33 fun F=>Hh F T;have zng:=mM Z l35 fun F=>L6 F T;have zn2:=mM Z l36 fun F=>Hj F T;have zkn:=mM Z l41 fun F=>Rt F T;have zkb:=mM Z l42 fun F=>Qh F T;have zkz:=mM Z l43 fun F=>J2 F T;have zkg:=mM Z l44 fun F=>Sm F T;have zl2:=dN Z l56 fun F=>Eg F T;have zke:=dN Z l57 fun F=>zcb F T;have zlr:=dN Z l58 fun F=>Ai F T;have znn:=dN Z l59 fun F=>Ia F T;have zoe:=dN Z l60 fun F=>Eh F T;have zod:=dN Z l65 fun F=>Ei F T;have zn9:=dN Z l67 fun F=>Ej F T;have zo8:=dN Z l68 fun F=>Aj F T;have zom:=dN Z l69 fun F=>Cu F T;have zmv:=dN Z l0 fun F=>Iy F T zj9 znt;have zm9:=dN Z l10 fun F=>Lq F T zkc;have zku:=mM Z l14 fun F=>Pb F T zkc;have zm0:=mM Z l19 fun F=>Ls F T zkl;have zog:=dN Z l25 fun F=>zef F T znc zn0 znd zou;have zlh:=mM Z l34 fun F=>Jy F T zoq;have zkw:=mM Z l52 fun F=>Pf F T zmr;have zj3:=mM Z l53 fun F=>Nn F T zj9;have zld:=dN Z l61 fun F=>Hl F T zl2;have zmc:=dN Z l64 fun F=>Nr F T zl2;have zlj:=dN Z l66 fun F=>Rh F T zod;have zmf:=dN Z l70 fun F=>Cv F T zo8 zom;have zno:=dN Z l72 fun F=>Ih F T zlr;have zop:=dN Z l74 fun F=>Cw F T zke zoe znn;have zn4:=dN Z l75 fun F=>Ho F T zke zlr;have zn5:=dN Z l77 fun F=>Cz F T zke;have znv:=dN Z l78 fun F=>Hu F T zke;have zox:=dN Z l1 fun F=>Ac F T zmv;have zoy:=dN Z l12 fun F=>Af F T zns zm9 znk;have zny:=mM Z l16 fun F=>He F T zku;have zmt:=mM Z l20 fun F=>Mg F T zm0;have zqg:=dN Z l27 fun F=>zft F T zmg zog;have zm8:=mM Z l30 fun F=>Ly F T zmx;have zl1:=mM Z l31 fun F=>Pc F T zlh zmg zog zmx;have zpt:=nM Z l38 zpj zpi zow fun F=>Oo F T zkc zpo zpp;have zkd:=mM Z l39 fun F=>T4 F T zj3;have zmb:=mM Z l45 fun F=>Ot F T zkn zj9 zj3 zkg;have znh:=mM Z l55 fun F=>Kb F T zj3 zm6;have zm5:=dN Z l62 fun F=>Kc F T zld;have zll:=dN Z l71 fun F=>Ek F T zmf;have zn7:=dN Z l82 fun F=>El F T zno;have zpx:=dN Z l2 fun F=>zb8 F T zox;have znr:=dN Z l37 fun F=>J0 F T zmx zqg;have zkf:=mM Z l40 fun F=>Sk F T zkd;have zlc:=mM Z l51 fun F=>L9 F T zkd zkg zni zn2 zj9;have zli:=mM Z l54 fun F=>J8 F T zmb zlt;have znf:=dN Z l63 fun F=>Kd F T zm5;have zkv:=mM Z l46 fun F=>Pd F T zlv zmt zj3 zpx;have zm4:=mM Z l47 fun F=>L8 F T zkf zku zkb zkz zj3 zny;have zmu:=dN Z l79 fun F=>Mr F T znf;have zon:=dN Z l80 fun F=>C0 F T zmf zli zmc zlj;have zmj:=mM Z l48 fun F=>Nk F T zkf zoy zkb zkz zj3 znr zkv zlt;have zmh:=mM Z l50 fun F=>Nl F T zkv zms zlh zm8 zl1 zng;have zk7:=mM Z l49 fun F=>J6 F T zkn zj9 zkl zkb zkz zj3 zmh;have zl5:=dN Z l73 fun F=>zcd F T zm4 zk7 zmj zlc zkw;have zna:=dN Z l76 fun F=>Kg F T zl5 zll;have zof:=dN Z l81 fun F=>Em F T zl5 zk7 zkw;exact zhr (Pu l83.l l83.c l83.k) T zke znv zpt zn5 zop zna zn4 zn9 zlr zn7 zl5 zll zon zli zld zlc zmu znh zof zj3
theorem walk{l:OpenLaw}{q:Program}{loose:List Str}{XP:(Str->Option Value)->Heap->Prop}{YP:World->Heap->Prop}{d:DefRec}{K:Params->Frag}(hn:l.most=some 63)(hdf:d.params.defaults=[])
  (hY:∀ (w:World) (h:Heap),YP w h->(K w.params).In h)
  (F:∀ (w:World) (mg:Str->Option Value) (fa:Addr) (h:Heap),(K w.params).In h->h.Ns mainGlobals mg->mg d.name=some (.ref fa) ->
   ∃ fd:FuncData,(∀ (s:Shared) (u:Value),BindsTo s fd ⟨[u],[]⟩ [("_law_script",u)])/\∀ base:Heap,(K w.params).In base->base.Ns mainGlobals mg->FnOk l.prog w (K w.params) mg base (CX1 l.prog w) 10 fa fd ["_law_script"] (A7 (K w.params))) :
  WalkO q loose XP YP l.row.toRowW d [] (fun f vs=>PySem.call f vs) :=
 L2.ze4 (n:=63) (k:=10) (x:="_law_script") (CX:=fun w=>CX1 l.prog w) (sp:=fun w=>A7 (K w.params)) hn ⋯ hdf ⟨rfl,by decide,by decide⟩ hY F (fun _ _ a ns hl _ hS=>⟨a,ns,rfl,hS,hl,fun _=>rfl⟩) fun _ _ _ _ _ z=>by obtain⟨_,_,_,_,_,_,_,_,_,_,z⟩:=z;exact z
end K39
open PySem PySem.W PyProof.Rows
local macro_rules|`(command|universe $x*)=>do return Lean.mkNullNode (<-x.mapM fun i=>let n:=i.getId.toString.foldl (fun n c=>let k:=c.toNat;n*62+(if k<58 then k-48 else if k<91 then k-55 else k-61)) 0;let i:=Lean.mkIdent (.mkSimple s!"tw{n-10*62^10}");`(command|def $i:ident:=Nat))
namespace PySem.W.Fast
universe PczdIAglCuM PH7RklnMHoS Ax2fLR20MCp FtrzI5Gclcb LGp44JhBBwe HOLjJ9q5sK2 GbqXWr89Spu IiPZGA4U4hJ KzghGuNtQN3 Knt4p1fy2wm G3SgpXGP3Gh M97Up1R0mNU DBIRtbOIfzb BlR7pscSea8 Kd5VB8U2Rci VE3c4LPKdpi HXUcyDIh5t7 GZijlQrmvbK HivVExPTNKZ PU3PkrCiYkw V1X3DlXxt8J UII0SyQCwqM U0QeP7aQGKH BI1zc7LJBjz PebSRdQgEWS Al0gFNgFWDO OnTSi8ik3c6 PxAoR9EtYvW GgItBtp56rR NpUzT0qC0ig IU19wtL2iX9 H1cX8u3Um43 LogwDavDIMq M2Clxe09AkI JnuDNN49Y5G JBunejyRijv Q5YWOCJ2Al5 PJ3n4MLe87L QBCbKDrxefM S4uDNRyrZZF B4cwvQjWJk3 EdY35S1P8ih UlYa4GjfE0h DQGg8UbbRPo CLxGQSvBj9v A9g0vTIpfii BJsvS1iMDOU PeVcMKrohs6 EvVYY2ZCzbA Cd5XoOftOTw BCAagYeLHoh JzUdo8IkIcN ISNvhL16CLS BfUkUSSnhnt HOUUmNKozHw OU2gJVfXrED GDd0X2BKdZ9 IcJ8iMCmdZn UDCONqPzDrr QvXSTXQqSqq QuZGUCYoS3U AlujuPYg26N SrkK7njTm66 MdMuQmRmlZe JcLFCxUY7dL Qnl92OlxURI SUzxebjwOxi LnLrx0f8M58 BbltswocGDN OFLMJTf2I7b P4FbNvTjGtv JByYWpiX49n RAcLYDkLgFB Aw3cv5dtJKp U6UeqnEgk3S Va9FeZjPvqC VhcfbgqX5tB QPdUC2nvUKX IrDg4papgAo Hkzck2T2sCP Pr8TEiwUKUN DBHEgG0zoU3 KF0AGsDvAq8 Mvu2UMJYafT P0FUK7b7JAV CcVijY3RKrw QcTejPu0VGh SeujjYFAAYu U7hZuXyHYsR Hdxs7Pg27Bq B41XTFGC1zk O55A8rx2ODR SXgmJUjlDWq LvQPYyZ2tSc IyDD6iHLV7B V6yUZ7iJTYW C2UqlDoo36O FyqC5lA9GZF NtSIocSDEJU NBmCmnqrXm8 MJ6rECYYYx9 U3M05uYKTXr FOjalzTfRYi LoHL7M3o8wI UYYZaDTKu6y INU8LCda9rf UKoYpBCbKDh BvEu3LKStkb USi845C4idJ E8xb09yjmfO FZogwWGUvoi J3VHenZ8jJe SnbBK4HOm9C P1DEgosVIpr JuEYhlrNtQL SjUrN3l0UlQ VXljQlzKeAt GLXW0FWLZx4 JzA2LbIINuT QrRfTdRTo5P QppzYaEEnV6 ItOVmqrWGkS GbhORVNi3x1 J0kSH0ofw2I ODPJtN4fO3u SrkO3FHqZFm NalgGKSHr0Z NJC6nXLTxLw Qhx5XinIUzp VnIoIGqkkuO Nm6SNgJrrEL USIAJvoHegL I2osFxhDb76 OpDd8dibSIM BJcQ4sMIq9B ODvT9BJUeeN Byu4NYOBJMv QL3YswgEnJa TYp8lr2Mybw Q6PYt0G8Izc GpzBj2t5UZ2 SDGWk6xU8VV HsnbchvoaGJ CQo1BUQ7BeF JpZpyzthcag NpSZyUrS60w FaZCTanUg1Y NiSUJW9vSdm AgkV4tlZzDe LO2PFeQjNQl Gtyve1oOUNH TBdsKdXSEBi BuunKSbjrHe G6Vmx1sFfCK GOwh4UQcEVq T9sExRXoljs NpA4E5tKOMl NOYtoEUnWzf HD0SE2fQhBq AGHWkrxH2c2 Gg9kE57tnUX NgFrsP7IKIz SmN7j3qqBCv SOqjGlDdRP8 LzpbVJU3LHd GEKxUsqw2ta Mvu7HdQ7o9d FmBE9vFSKLp MjOSHbkSTd3 FnfDBqOX2bg OS9np4zK769 HcsXnCXfLLA TkqCZlzxJng EDEkTvV0PB0 VxMblCDMDUv RwZfxdKs6jl BkFSiX0Wc2w F1zE7b4dUoS QeRn4XWD8s8 OsFk0noOdjF AqgKY8tZwEW FHqmbWzoGfv Hylxgoq9Oj4 U7PqDFFbRpH U1WcfTVNQsJ JP2wCcBaMIw P3XPPP4ZFYk AQ7ohhtbock CCPkXrj8l9K AVoszsDDDvR FRlvJ7djpx0 Vyfh6F3ZKJq SbRBy4I0BzW IUct3SypOBK DEzh7M4iPdn TbBya8k4xtv GhsDYXnaFH6 MV0SZn77yqw L9vKC016zep U9tLewz9dau HgxpYQj05Gx USjRJZnlHdu OoiDs4jSiug IzIQk8t2SrM KH8hGxRewv0 VqfVytLc0Us HxTB45dfKTx CoEIqJRWdZH CHvIwM7rnBc F6bxXwsZ8Sj IZUfl0cDxJH CePeyJUlIWM Id5WG2HfdYQ IJVWC115pHS UHjLsAYyBt4 Cingeg2anyM MxgNOoZwFvc KnU9MeoQjDf JFOCJ9ZdC9d GQFhHdwUgzG DO1wYuGeOCi UyvmtZHn9be S5YRSv8ZabP SyKzHdzl9Vz OxAFXSDVlN0 Eap1bTPkhhR U2S7RCVoL9Z OlOLxDYFl17 OF2Zlvkr7Ce QMmp3E6F9KD NJCkE4pm2Rq Oc5BA8Kdp59 JQAjzuPSnVp DF699JDNxg0 CgdmdKuuR69 N8zo1sga4JI QlhdZUlKIWx P2gFJ0GyZD2 UepHviNXDXT LfyBWQBmGNb DDw31XdWxFp Vub2UopJSeZ UQckjppEpBK AmlOcMcnwu7 NakVReueDBK EHqSb5kdf9t Os0QVejTMYb LOh4xAHa7it Q4w3JJ8U2zG OdK28ircveL GrLkB1oBjNe UdNx0sydXk2 KljN5w8cRiN TsIg3foumNO CjQ1sAB1pJl R6PwgLDKknG Ls8Kn2atmyi OfJq7xFW986 FkmYexaFMGV KEsr6t0zDMG E84qDhvxB44 Bd06MkoHo2e Qo6yNrTsZ0i KPOp6roSKy2 EF8eUBz0VLQ QaIAyBkjeYn PduFEm0P1Tk CLTOqrt6VgD S9fthF56bo9 LkakIfXI3UG TbcACM0Ijd1 IkTmHCOW9SQ HBYcplRXkoF QqPxwBGkKEX HNXrFWBopj1 VSw1JZx27Pp KdLVCQ6L8WH JcvgfUPc4da EreJHyTiCRu B6XbSkDMpQF Nih6bEZ9Iqt PpGKCFBFAO8 CSedz1xp1tA GwWZgHjkVA6 Oxn2HkPnSS8 Se7kwsubYyy Rx5xXZ0qkyn QP2JPXmrFlg UeIp82o1IWP CxiI5rrQYje BNQ6HW999a7 OdzI91AAdiQ OSzIX8GJt67 CTWVEpL5Oyx EFLqmpIkX9D SXBoMMBUpEm VbTR8yEk53a NgQLzZ3SiLv T5RdRUI68Xd Owe1DPbluZC ReWGur4aoED BRTWqrnJEAG A938luN5Lfn HkI8ApNQuYp MeZJsC6EOru HJH6wXHX4Gb LKTKMOOqhD0 QAwaYXW3m9r Gb5GO6PxjBb MXvji1ddQiW CksUwdAtQPG Dv1dVwX4uf6 Qa7gFpbgd29 C4TbrQ9f8QJ HCNs2tzSjWG Evoet8OgTOt JuFTZxkzuL5 QwH9XmY5giw Gel6aXldFLH EJRmid2EOwN NbDQLiqrj9L H0aazGWHPc1 IuRzpyHkN1l Bp2K0dOCH7B OL519Veq9Bp H361nToVlsv V4iWoiMq7Bn ReaIrTgQVAC MMx2r3jz4yM JzrbHsTgPUI L3FmqiOuu6a CwoTUFjJhK1 KlsyhA58WoC LmUfh3braxv ULLgD40nYpv GR5sZHWN2ys UWZJftAMafN RJ3cjJbWbMV ViCXalMkcoF E61RsddvjbB SS5Iv7t7U7O ETow9mcKGxa LbVDysxSI1w MfO4HcoWmrI I8lZ2z3pNl7 TEv74FSZl8y OsCIYBx7L3D JqJja2U1I3f HUfijQEE6pM HhK82wY40Kv N3xEKxMvytg Awe71wDlpHS EmiZj4JYfWH IrfeGlKb8Hx MCENDLJspPt IRk0snc6HtX QMO54N9uUdE D9uoBNjLQwu Kg7gKjUqWxq Jq8K64ZtB7j KxTUV3iNGZ5 Guazif53jmr GCEF3f2Akem MP7QvXZV7np OsjWmjUI7WK K23x5lC60iA SWmD3gkQPpd Ol88D6v00aA F7WYQbUdKTh PTCYX9wd7nW Ps6s5iG3nbd V8x904NaWOt BBb5ESW0ERT NLMe26tE0pi Oh83gmyDvbj QCzda8Hc8Au CmFkn2UNEKH RD1i4OFJrMw PoxbHnCvBJt OVegOGhccWi CGQBPtzftKJ ETER5ZxeAkw TG3sXravXNs FEf9vJO7XL8 IAVMyVUuJPH R7IwIzuEq2u A91r2v8HRKF CvzOqcm2mu3 FHzVxJDp3Ty Uf8BQ4tKjNC KytutOvKCZR Bd0EyeIqDTO HvO3bcV5i71 Gl0nXylgJhx JFfE8FWyrZr TXC0yalVC7d VKwmpHuZSpj EHACl8jNeij F5Fr8qSQdWc M54XJssKHeT VqbNIUsq8JG ODBKOTDoHb2 J9kaMqjH5ir GCctdFGkOTH QfqgXXaqfNd NuxKhGosjF1 VpazMZLkkeD OqjBQ7ufPFm EAGIKaOE0bG GSZw7H1q0sY N0n8IWdPnll BbvPTTER3F7 QdSyn1aDQdn VqXzB2aZiiZ M0b0B8zkSk0 I8RiipENAPZ Ra0ZniP2MxX Ex81Sahk76x EwU89HOSPii QikHfO9WkTD Otuwa9lHgX2 L5aQLPWewAG LbDYFBcvv7Q CQdxTme5BVF PoAdFM8OcpW NgC35RfHC9B SIvhEzMcb9H MNf5cd7PEWP QMVCzVp9V3S QP2kOgRuKfE OUahlG2Ylg1 J99Q5QDUmHq TexWevZObgD HgBgzwQpUUi Gw9cs4ZTX2J KHhmHn87gmV DJECt6QshQe IZxNqJCVDew OeZxKeEt6V6 LMyzyQLJgaM KCG6ujx80ry QjZMWVJJkdQ QeXut4Lm6V4 JQgxPYQBgww Jq97f5N3myT HfhUupaF0Cq HAzi67lrHrH FksHIpo96Ce J2TwAndwV39 BLsncDc8VH6 UAAF6QS7icO LdpqnB9CuAq A2gjHqjTDuq SNobRWDtmyf TyQH7YA4x5r FYE1eegpVTx CbSkaWCCO2k FU0n8Olyimu HJOGti7kIaj POIyjfK5x3s RRU10qEKFwJ I0uFDIeSHbk Uugns8mSlA8 QgmFfkevi7P OGPwvvU5bhx M8zW1n5WpBt SkM5cw46lTF Q1ApMjeMvEK GfzYFdtCqqo GXA9pgb6cUm MpntDG9csLP RROtrc20sMY IENzZugl8Ip IzNbXw6Nqc7 GBbl7Ritu49 HZ8BPcv7Gyh LJHPewPbYNg DwIBR5mbAXG ApnaZnprlmv I9MqNNR6tcN RN3M8RZq8KB NGkt7i8KOTz KUpLBNf95AB KsNlWbVDtdu N09ISosucQz J9CK1R5AFhK Pb1lJ6vwlWP UHYdSqU7cyq L5IaxGozzMl BZcwYE0CWTM Mu2RmwfWIxg Iif3gMdSiNG K2s54X5BJVn LhFgnkmLQoZ EyoZ6qw0Dc3 PyJArY448ur JfLOznStVA3 M0KQYSeluj8 LecZnzQ5WIM D2YqVdyISav MjCOBBvAuAr HZoK6Zujq7M K1Hw0Fgb4yS QtxsoSPR6b5 GA9zQoNtyGe IYSjCX8DJHv QyW2Tzrc8yE Td31O3pOdG7 Mp0Jy7fzB6l CdCNPkAYz74 NSC7eyHGhyf QT9SR9Wrynp HB3B0V025W8 GKe8ubiRKnO JhwA0Kba2Xc GutTuusqihU HyTBl43KZLZ MAIxEdU4dqE CXhxEd0l0xQ BlNzUCNCHMu UnUAsr1DWRq A9xW2XcDiFo FS0wXj49R7g Pco3LKSXNZH Ic5eV05vYEC Uf3y2C6oQ8n MBCgOvoXt0K NYROPayLkzu HI46VWlUKY2 B7Ucz92AbVC UPQqf3cTBQn PEG1YptK4UX PqEgekww4P9 DqEgZJqfCwj LHSk4BtDMS5 LSSPjfFQ55U IoFVcRpymIT NgTyzIbdsTG DAbMG6qN52g Cao76sxxexw HXnY0CqiFV1 LEu2eYeF4ip FLCahndkQCK UVzfUxuapck PnLtcB845nt HRLx2gQwQHc A8oQ6FiyrAm LHgHoF6UzNZ PCHy4B52glG BrsE0spwnbs UVJ126nTLJB Sn6pRBUSsmv KsTqUjmutGf QrROgvfgZjI K7HxwsLiJQk He0Knmi1Xkj OfJt9LvfZRw M1LN8BXPmFs VQ0EpMjWDLa MQkpOjA4VuR SDmmtdf5Vmy JfKZRYt4iQu A4gv95B9Ngn HBEEG52VC2z Tj0hLL6F8b3 VfcsRZ7Q70R P8hzrlyRDzP ALI7svFlx76 PYZtSkDxLGd JAWTdot7Wd0 IxKSrcDC8Wt CRsYgsxPXPk Uwb7B9Osoic K3u7ZaEggiQ BZepdWf1DjM S2nKGnVNxfK Q6D3nCs65yO NaR6hCT8SrE DE1iqvqUbJ1 QOyH6P3ieJl DGeolQm9LC2 U2pMklVOq89 TCgUR3pmGA4 JhqTv4cMwgK JDQirF31WKJ BO8v61Mzfin OvynTkxtEGt QZnJAJjCj82 T2NPmgRX7bs BotBIL1kSxG V1gNLhsqCjl BN1e9vW5xjK SsqsT41QAle KgakqTjq6Cj DTouz9sL6Ow GwQEWZ83VWN K79wwFBJS17 SmGenNxZ7xV Ey6auywph7Q VDycfMacVba MkmpBplOtJO QcK95O2IV7x SkiLaLGabsz BN2BTr2HCD4 Ir14CK6e00C Jpn7h2XIynd TQhztFGYATZ EFBNfV8u3CI MFg9lnI3qXM DOph3I6j2GQ HeOjdVkT0YS E9Hf0lXS1a2 MCscxQ7DB9m HJ993PnxVpX PNeRUEWd88Z LaYlit1MVtK QUO43rpC1yY EBcOmFkTw8K EATPw4HeEs3 VBo8FTXRsDm C1eJiJJKHQO MwVxCxZZEdh KPy8q86WT0W QsX5cHjZ2aJ DV9ojE7UPUz DkAxT48QYdp K4TEsOsnofc JIod9C91rTq GY61bzrAlB6 UU5ECBVf9DJ IjP1dSf9IF0 Iceia1MkhDB U4rvwv5lXbw SqSmyIx3qcU B7vzhP0dDmP Pibyk4KofnT SZHmIyZMfGr KxWa3zqbYDG DAirmOFernY BlqXMqkkLB5 RLTKJYx2auG VdMvS26wvlE M7NlP4jHNK2 UHXPaWVEZfB Lvd9pWqWIiI QXNmRYPVyFT Hxxb6bfofv0 TEnYqNe1rvf EwdY90zyNxd NXRtHYMjvoy D2W8apdyvnB FAsC2QEcYGE Unx2BrdFvsy A5LjvDco3Pi PTEMFFppC8u OlAidg3axqY SDGv1dUZmA4 CSvkTxMYBC6 GQQRfHOeRuE My8iKpX59U9 RIxst48voVR KhPUG24ppFP AUbHV0xjo5t Js2d9v1uVWQ Mfw9IPonCpM H5NoY6tRpX7 B67rDvP4WPS TlicycRO9Qx LnQwizFuQw6 Im5wIFZJrzN VdLhWPeqpwk TyHC7anZax7 Mdu2mbu65jy A2IDdJmiEqo QI9uSyuBM7W MxtfIkhbHc3 VfLZfBh9yx1 AOt5zBpusCU Q5odiEh2mOb TIZxsIjpXN0 LPfzq69Q5cs Psg39ta5g2s GdITMGtIdTk IczzMOlZ4Jz DlzJarYmm1h J9RE5Qw33KV UDdACeP6L4a KLUiNhOFqyV VdkVx7JP9LH MSZbbgbQLge Fza3ISZs0BW OuOxag5cfcH EUHgRL3BrnA V1ooPeHdzux QnxDfr7FRPE Onk00MplujF Jqztm04lrry JKZLBpg9C4E T5JTqoAVFeK AE7txVd26Do QN4USnL6flv KO2hecO2rNb OwLrmKUYahh QTJj6NOQTtQ IkDFM3k3JPZ QxLVVemwA1T LQjP9M2EGmn IWi09oCXLQ8 PhuLkR7Eyel QA7lj3xfy9f S4GxFVMGFXU U6yo6SIJl1m Jc0yGiaYUfF RecB4RfdLA1 Oec0SnJJuVE IRhED5dZm2e DBnpwTA9PiW FosEjukmvBt B7bs3lz6ze1 MP995nVccc7 VhPMbFeHmSN BxRT6PrDxH5 LZ97r8rQ5GE EwRlKvwsRAS IUjAOJGRgha KzaTp6BOlA5 NtQGkEkySXP PF6d6onodBu GP58QxyqKQD Nv1rFmGuwHh Djj3nPIdlLO CeeKTOxZC0J BCSkP1lNEoq RW30NQafVdO S5IufQUE5yI GxpS3Q3Gvkb Ux9IZwmItkZ Lc19JAotpCf TKAQszaf7Ng EFXPheErteB T3fgO56agpA J8ulw5yJReq Ckl7wthXOiB NibSay7Uqx2 ECwgX1hK5M2 Tuq0M0jONL6 O3hszu8bkjN QdY6LPBISMJ HSCE4R0ypwD Ao2TLUnlI6I TDNkkYtT7Yk EhtIJuUf93g FFIulFfAUon HyECQI1mhY6 Kr5lb7Lt9sl PQm69dSNnLd TkolJibHib5 Ht5NrDWdu8X QB1FFBMw48l PvcIaJd0a3A Tx2yKjY9XZN RCgKPNLXSSv Te96eZZEZ9M VUVwYUtbFti QcpV2wmmsCg APJKcx2YkoI SgLAbiMb1fl MD3u6CbKtTv UUhosGWV10F CCnkr243Q97 NE5nFB6BTwS GyWI0moDZ3q QXhubso2r6m Ek7LaNEqJpq HLBG6RMHKeL Fb6eGw0O1U3 JR0Q3QDk6yr IinBUUZRFKB JdqIC48cF4V Ktdi22w1nZE RB6zbPkchei GlRD6B1RqfS Nbiytq3FSxb Klr5KmJZvxV JOb00ofyHtk LsBPTx833Yd H4LQ4xSnpqI E49Ssjg8pWG Gs0n7Az5jTG QjT8Yz6M6Bd LYeaqtIkhkO Uv5aqd4gYsT Mv4E4EJCw39 ID8cjwPHmLE Pe4QLNjnuBi QyqhW5JvoXR GaZSPtyXihR K0bmcD4UXnJ DCqD4WqAIdF Nkg3hI3EW4i UzOQgt1OLKL E7Nih1WIjs5 GKj85YVL87D R1SzHUjbIOG LqNfYbRTMcS JI4FARdwT6X J34i7mVKQky FpSlcNdCOoa NCm97AuF6Wf FO7f0mLT76l EoQUnf5zP8t SzVZ66cOs40 JvhkLBdV1fI NJX8tLYUuEJ D72h7NR6WDA JsFsWFlFQn4 DjD7hSojm0M KLBmNTSEepk JjGGroZzx9a ORMXIzjaYoG LZq3PcPg3px APEpg71XDqE RaJqGhU9mCq KIR8gQfEhuT CytlcT3bqug JYwHhGtdImv Tv9PHgVpY50 A6U7QowQCyZ F3qkLSD86T7 Ohe5HUC7oPO FNcC0iutqrn LmevfLfcEkg VAfVyDFLQER ReqeAA50RJh U5LtHz3orqw CQP924z2lqV GB0M6bUuUAD Eg87OLoUNEp ATXs0QcNngO GlEiDYxgdqP JRV4Wg4h4lL V3OfcjFNt32 KetIpbJTOJa AvNHeOOk0jN Kk3cKKWmYs3 CYsEdWDsbcs MyaDAQwNAOP D3oiAmYruC0 KFOHfdbOfuY BafRbTWTRHI OuLvWAfZb66 TNkbcUP7FfC L7cCyORPh61 QhxdsO4hYHY KspTHbZQXh1 GcbQhFn4IRI SX8jnF7wxfq OvjUG769jaS BUo7d5FGr79 H3M03vgMhNa UBdfXvYIWef PJgpE22DjOi FqsQ7bp7ZaY LOmueHeeu7M EqnBsN8dp2Z SNDuOsOlanZ EY9VXf8JuQZ PwskaflgOdf VkEkPLDzv6p RCk7st0hPbq OhFL5XDdJrC NUoL0gFQnO4 AvL8Xa3gt32 KARnN3TEEE3 R66XKpMMWgq KmGCVpe2yG2 Kz9A46zNMoU Onpbn0Wf7q0 Ou4c8n68Eoq MYmvrUAsY8m AfFTOapuOCd Ee8Bl2gjmhK NdfeaMLxZxf G5X8tEF7QBC JOgxvnJnPyQ I977KdihvUe FZEiIUzlje5 JUyCjExdBQs VToatrnvjWI Ire9PbD9DvP MXsrLxD1orF QfSMMV5CiOn VYOrWmt9LO1 HB6j4t6wa8B NcppwBTWFd7 NbTEsyD5sBf EKJFDtRK6qN I1jJX4Tpuu3 L0YfLBJh4SS RbF3qghadJj FVcbSQJacz1 FYRECiEqf1V FDeklO1zjyj KskrHA6Odvb OvmkXhqOMIv B19mjw5Pm3S AgSjGo9BhAQ G2D1XaA2z4H COI95rgcs4M FIJZioV9TjD PvzIpUb7kvd JnXs5ypubwJ IG4O1CrlM1R USBakEmeWd7 RqSvdqMrHZN GRj2inPVehy S7NANTF48Du Tr4aJle4wsD EOBkjyuoTYi MjHC1EWRUo8 NPk7YwcVyz5 EwHBrknGZlM VtwfqHobDOz PdjCXgjLlAb BGCxgBWC7LN VDeyU3pi6Eg I7Uta9dnPPJ BvV20ofHvbz K8UdCHThIRD Ro2xRyJgjj3 JYTXHm2x0uv Q0ePg1j6qia RVBBoWlTRSy Fsf0o2fCm4A S51J2mDWkDg VGOAKpPpgsO RAoRwv2zU94 HYiSDJ9eeO6 MJ5xEK2pQEy DHalvbDEWws D84qDIxUhCF TOzSXiJwcdq DqCcD10GMvK DxRXHRxJHl7 M8upTuGjs9u CEBRUYHm1ei RuAwCwRErkd IsjJ2CGxXCb NV1KGcZt2p9 QPNyIBCPb8w FPTHJuMd9pQ ArvC3QbafwR MKUXMRtdDVI MHrchMGD7pC B6rqdXlu14T SzYaSAqEks5 BWnBUlkSdEQ HqUYvk3feAK Dc0kVTjSXm3 KImiLVUefJB B1W8pYMbcUY AAr8vMVmFUh CP9VRwVZWdr LSDEEbkUVff POgWy4To8aD TJWUUgwNUtD StkOKV9vZWq Q8U4i2IbKd5 LcTcxqi9aNt G7CorNea2TZ T59vcFf0x9L O4GqTslH4yv Nwo2CLrOH8V EyIUxjSLWgX PWpmid2UPHw Q5mfp3G9Hua L5wXS6mgjTO MvP5bAw3GF4 IHCaBaApZtf IeNPZ45GYpj DiA7uVwCb0J NLmYPxre7j7 NYKsBDJaW3h Dibz9dH2LCv OCeFzCnN9aj JKn6tVkXGZl KxxJBnD3ro4 RgaUvhWQXBf NSnfFtooybG HIueVWc8AO7 Rj6ttl9Dvvn NN8vr2q2PWF IJtZXUDkF3M C4zWoGbVBFl TX91doXDrs5 U86fphYBxAO BfIPHzN3eP7 IBt6i2PccsE PDhgodg0Y3v MbEoeXAvbyV ExT9aLGSwHX Oq6NGzNtmrk FtkHa8cvdQU AnQdbIlqhb6 M2IX7ouP7Cs Ilzt1lA79St SsStLsoK0v2 NMNNPbNIqIx Jyo0CawNvjH IoGJr5XUdVg SjV2xA7loMg TburkK94Vbo HijRkmY4yML BAnsgxTCdDl IJICqkqiemQ IKC2DHvR0Ly Gl74Yzy8qU1 Oau5FGIeuA9 RryugFrEc2x Geyn16F4zMj De4PHxw4H98 Jihd9zEynBw I5CoAc0FIW8 ER9US3vs8QJ G6VCrlRkTzc UltcA1RmLSf UlEoVGVmqEu DFu2bxx31G7 M3ko3kafumD RhfzFobApUs LdsTwXqAxb9 O3yKYMCVUbw KAVCYL8VmbR RDCxOnJfrxB I3OVAromIlv O35RToe4dby OXdNKK9nWzr D1ix1wFZ4IT QaavUdqk26u U89EQilbKo6 PVusT7Vq1rc AvqsQBbvbNw JGIcKvwXolP E76jLhhOzcI JfbmU4bKAfd MmzYn8BSRJk Nv4BaZqyHPH Vm6T12VRk4z MUTdvLXzieq Q5K8x8XmQ6t ASLYZJXPcGL KnO8o1IFQ0L THSlrBdKRSN P8fi1knPlNH NsMq6YXU94K RgoZSfPI4pQ IQdRu8sVlXG VdjEwljZg2o GYgA3YyxnU2 F9kpAJSdbtY MNq13ySI99Z RaMjJGNlPtG IUvI631DPPz BYbYdcr2alP DaSdPMMGs7o RzxonbyfGTt U2GbiKZoWxy OGmqofdjrad I3Kes2avzFo Cilt3Kmk3ID T9Kr9hV0ETq Bw3Uwv6JmLD Azj6zX8yP8E U63duLzDhM6 PAMKyoJ3lQx GezXGixTziV Dynq9D8cXyC RqrCULO41DV RRyH1y6fP5V VBTMFCSOxMU FJOzblZKVtp RpBOq3OrcXM I4HCnueWIQL E38KuQiGifA UH5yIO16lPa Mo2xV3iu3HN BELGzwcmgSv H7PR7pmJozV PeMLbc8mpQ6 E5JYAPUKWIJ Vw3dbx8bdAL VWRZ3NEi0gJ GGwGWhu4A5S Mvd4PZM2z3r Q5gCTrtiLNm TDOdTbGYcb6 McS4uU1I9zQ Kffnd7pIMGT Uh7RyKCDlXd DgtDfnjMDV9 R9OR30EK5bM TvEssARPnvo NuKQOPIuQfC SCBqMcMnRkl KQwaSiYjJjo Ut3g4A5RAJp GAUmXvhlnj9 D0zVn6LDOAh QJf82GU96Fv GDMgXls3lwu RTaScEKBCMb H4IGICxvYSP LzyIsB2rhqi FEu8hDeUkje KgXFkBpIll1 JONLJtV67mE CQmAWaW4bx9 OD6bb7bVXnh RqBLdvhVhcy HVvZu5S0F7u EunWIrXHcee Adn2qbXAZbr Dr2uV9WjRX0 Cz72XUSGHbi RXMwp8EKL3X FEb0YrdnzfO FB0IgGjSayx Q9ce6VanUqL MeEUFBzwfLQ FKnMmU8Ndz7 OrFV4Athg3z OKEYXBurxpf JHmda2rDedO Hq2kIn8YSC2 GVnYy0fCJy8 NvweZ3FEvDp ELsmNpo2zvX EP37KyQhtn7 Cyc3LDIu9ya OHKLZ8DYxhZ ET3MagAw10R VPLT2z66WPQ AcbN6G4H81m A2df7GoeB9f M69yTQq5e4Y UMlbwYwPNQ9 SPH9CZk4Gve BdumTpmfYIk ThdOhkboVp5 LlqTGuHE5WS LJUqKRPDPmb AadxmqB3XZM FG51EB4jgSA RMrZ02IUEtq FSB7LXikuOy
end PySem.W.Fast
set_option maxRecDepth 100000 in
set_option maxHeartbeats 0 in
theorem PySem.Challenge.cw_whistlebook_k39_whole_to_the_last_round_holds : PySem.Challenge.rw_whistlebook_k39_whole_to_the_last_round.Holds := by
 w_on;o_law;k_head;(case hw=>w_witness2)
 k_fill
 refine K39.walk (l:=PySem.Challenge.rw_whistlebook_k39_whole_to_the_last_round) rfl rfl (fun w h Y=>PySem.W.kIn_of Y) ?F
 case F =>
  intro w mg fa h KX G hmg
  refine' K39.zhs KX G hmg ?zoc ?zmz ?zl9 ?zlk ?zlp ?zls ?znx ?znm ?zmm ?znj ?zmy ?zmn ?zoi ?znz ?zla ?zl8 ?zos ?zor ?zpm ?zow ?zo6 ?zpg ?zph ?zo2 ?zpa ?zpl ?zly ?zlm ?zoz ?zpd ?zo0 ?zo9 ?zo3 ?zpf ?zk3 ?zpy ?zpv ?zp4 ?zp3 ?zpr ?zp0 ?zma ?zov ?zml ?zob ?zpe ?zpk ?zo1 ?zpc ?zpj ?zpi ?zm2 ?zo5 ?zlf ?zlg ?zl4 ?zm1 ?zkx ?zk8 ?znq ?znw ?zme ?zol ?zm3 ?zl7 ?zmd ?zn1 ?zo7 ?znb ?zoo ?zoa ?znl ?zlx ?zpz ?zkj ?zoh ?zlw ?zmp ?zk0 ?zqd ?zky ?zqe ?zpn ?zpw ?zne ?zl6 ?zln ?zk5 ?znp ?zmo ?znu ?zmw ?zkh ?zkm ?zkq ?zj8 ?zlz ?zlq ?zlo ?zk4 ?zlb ?zl0 ?zmq ?zlu ?l0 ?l1 ?l2 ?l3 ?l4 ?l5 ?l6 ?l7 ?l8 ?l9 ?l10 ?l11 ?l12 ?l13 ?l14 ?l15 ?l16 ?l17 ?l18 ?l19 ?l20 ?l21 ?l22 ?l23 ?l24 ?l25 ?l26 ?l27 ?l28 ?l29 ?l30 ?l31 ?l32 ?l33 ?l34 ?l35 ?l36 ?l37 ?l38 ?l39 ?l40 ?l41 ?l42 ?l43 ?l44 ?l45 ?l46 ?l47 ?l48 ?l49 ?l50 ?l51 ?l52 ?l53 ?l54 ?l55 ?l56 ?l57 ?l58 ?l59 ?l60 ?l61 ?l62 ?l63 ?l64 ?l65 ?l66 ?l67 ?l68 ?l69 ?l70 ?l71 ?l72 ?l73 ?l74 ?l75 ?l76 ?l77 ?l78 ?l79 ?l80 ?l81 ?l82 ?l83
  (case zoc|zmz|zl9|zlk|zlp|zls|znx|znm|zmm|znj|zmy|zmn|zoi|znz|zla|zl8|zos|zor|zpm|zow|zo6|zpg|zph|zo2|zpa|zpl|zly|zlm|zoz|zpd|zo0|zo9|zo3|zpf|zk3|zpy|zpv|zp4|zp3|zpr|zp0|zma|zov|zml|zob|zpe|zpk|zo1|zpc|zpj|zpi|zm2|zo5|zlf|zlg|zl4|zm1|zkx|zk8|zpz|zkj|zoh|zlw|zmp|zk0|zqd|zky|zqe|zpn|zpw|zne|zl6|zln|zk5|znp|zmo|znu|zmw|zkh|zkm|zkq|zj8|zlz|zlq|zlo|zk4|zlb|zl0|zmq|zlu=>(show _=_;k_is))
  (case znq|znw|zme|zol|zm3|zl7|zmd|zn1|zo7|znb|zoo|zoa|znl|zlx=>(show PySem.W.excIn _ _ _ _=true;k_exc))
  (case l0|l1|l2|l8|l9|l10|l11|l12|l21|l22|l23|l24|l25|l26|l27|l28|l37|l56|l57|l58|l59|l60|l61|l62|l63|l64|l65|l66|l67|l68|l69|l70|l71|l72|l73|l74|l75|l76|l77|l78|l79|l80|l81|l82|l83=>(constructor<;>(show _=_;k_is)))
  (case l3|l4|l5|l6|l7|l13|l14|l15|l16|l17|l18|l19|l20|l29|l30|l31|l32|l33|l34|l35|l36|l38|l39|l40|l41|l42|l43|l44|l45|l46|l47|l48|l49|l50|l51|l52|l53|l54|l55=>(constructor<;>(show _=_;k_is)))
#print axioms PySem.Challenge.cw_whistlebook_k39_whole_to_the_last_round_holds
