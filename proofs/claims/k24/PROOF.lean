import PyProof.Rows.All
import Wide.All
import OpenK.AllK
import Wide.FinOn
import PyProof.EqAt
import PyProof.EqKinds
import PyProof.TupleCall
import Lean
import KE.KDictList
import PyProof.MaxThree
import KE.LcSums
import PyProof.Rows.FactsN_abs
import PyProof.FactsAll.list_3
import PyProof.SeqI3
import PyProof.EnumIter
import PyProof.EnumMake
import PyProof.EnumFor
import PyProof.ZipIter
import PyProof.FactsAll.zip_1
import PyProof.DictIter
import PyProof.MinMaxWalk
import PyProof.Rows.TupDisplay
import PyProof.Rows.SetFrom
import PyProof.FactsAll.NoneType_1
import PyProof.StrCalls2
import PyProof.FactsAll.list_4
import PyProof.ListRange
import PySem.Challenge.RW_whistlebook_k24_draw_up_and_close
open PySem.W(Frag)
open Sum(inl inr)
local macro_rules|`(⋯)=>`(by first|decide +kernel|omega|walk_at "ar")
abbrev zs3:=@List.length_map
abbrev zs4:=@List.getElem?_eq_getElem
abbrev zs5:=@List.getElem?_eq_some_iff
abbrev zs6:=@decide_eq_true
abbrev zs7:=@List.mem_cons
abbrev zs8:=@List.length_append
abbrev zs9:=@List.mem_singleton
abbrev zta:=@List.getElem?_map
abbrev ztb:=@Nat.le_refl
abbrev ztc:=@decide_eq_false
abbrev ztd:=@List.mem_map
abbrev zte:=@List.size_toArray
abbrev ztf:=@List.map_cons
abbrev ztg:=@List.mem_of_getElem?
abbrev zth:=@List.mem_append
abbrev zti:=@Bool.false_ne_true
abbrev ztj:=@List.mem_cons_of_mem
abbrev ztk:=@List.length_cons
abbrev ztl:=@List.map_append
abbrev ztm:=@Nat.lt_of_lt_of_le
abbrev ztn:=@List.mem_cons_self
abbrev zto:=@Nat.le_trans
abbrev ztp:=@List.take_length
abbrev ztq:=@Int.toNat_natCast
abbrev ztr:=@beq_eq_false_iff_ne
abbrev zts:=@List.take_succ_eq_append_getElem
abbrev ztt:=@Nat.zero_le
abbrev ztu:=@List.getD_eq_getElem?_getD
abbrev ztv:=@Nat.ne_of_lt
abbrev ztw:=@List.mem_append_right
abbrev ztx:=@List.nodup_cons
abbrev zty:=@List.mem_append_left
abbrev ztz:=@List.getElem_mem
abbrev zt0:=@List.length_range
abbrev zt1:=@List.not_mem_nil
abbrev zt2:=@List.getElem?_set_ne
abbrev zt3:=@List.lookup_cons
abbrev zt4:=@List.getElem?_set_self
abbrev zt5:=@List.getElem?_append_right
abbrev zt6:=@Option.map_some
abbrev zt7:=@List.mem_range
abbrev zt8:=@List.getElem?_append_left
abbrev zt9:=@List.mem_filter
abbrev zua:=@List.filter_cons
abbrev zub:=@Bool.false_eq_true
abbrev zuc:=@Option.map_eq_some_iff
abbrev zud:=@List.getElem_of_mem
abbrev zue:=@List.take_add_one
abbrev zuf:=@List.map_congr_left
abbrev zug:=@Nat.le_succ_of_le
abbrev zuh:=@List.length_set
abbrev zui:=@Option.isSome_iff_exists
abbrev zuj:=@Int.emod_lt_of_pos
abbrev zuk:=@Nat.lt_irrefl
abbrev zul:=@List.replicate_succ
abbrev zum:=@List.mem_filterMap
abbrev zun:=@List.length_filter_le
abbrev zuo:=@Nat.lt_of_le_of_lt
abbrev zup:=@List.map_map
abbrev zuq:=@Int.zero_add
abbrev zur:=@Int.emod_nonneg
abbrev zus:=@List.filterMap_cons
abbrev zut:=@Bool.and_eq_true
abbrev zuu:=@List.any_eq_true
abbrev zuv:=@List.nodup_nil
abbrev zuw:=@List.length_replicate
abbrev zux:=@List.find?_cons
abbrev zuy:=@List.reverse_cons
abbrev zuz:=@Nat.lt_succ_of_lt
abbrev zu0:=@Bool.eq_iff_iff
abbrev zu1:=@List.any_cons
abbrev zu2:=@List.nil_append
abbrev zu3:=@Nat.not_lt_zero
abbrev zu4:=@List.filter_append
abbrev zu5:=@Nat.le_of_lt
set_option Elab.async false
set_option linter.all false
set_option maxRecDepth 100000
namespace L2
open PySem PySem.Spec PyProof.Rows
abbrev Key:=Sum Int Str
def Lq:Key->Value->Bool
 | .inl k,v=>Value.isInt k v
 | .inr x,v=>Value.isStrOf x v
def zi6(w:World):Key->Int
 | .inl k=>hashInt k
 | .inr x=>hashStr w x
theorem Yn:∀ {k:Key} {v:Value},Lq k v=true->(∃ i t,k=inl i/\v=Value.int i t)\/(∃ x t,k=inr x/\v=Value.str x t)
 | .inl i,v,h=>by
   obtain⟨t,e⟩:=Value.isInt_shape (k:=i) (v:=v) h;exact .inl ⟨i,t,rfl,e⟩
 | .inr x,v,h=>by
   obtain⟨t,e⟩:=Value.isStrOf_shape (x:=x) (v:=v) h;exact .inr ⟨x,t,rfl,e⟩
theorem zae(i:Int)(t:Tok):Lq (.inl i) (.int i t)=true:=by simp[Lq,Value.isInt]
theorem zaf(x:Str)(t:Tok):Lq (.inr x) (.str x t)=true:=by simp[Lq,Value.isStrOf]
theorem zfw(a b:Int):decide ((inl a:Key)=inl b)=(a == b):=by
 by_cases e:a=b
 ·subst e;simp
 ·have h:¬ (inl a:Key)=inl b:=fun q=>e (inl.inj q);rw[ztc h];exact(ztr.mpr e).symm
theorem zfx(a b:Str):decide ((inr a:Key)=inr b)=decide (a=b):=by
 by_cases e:a=b
 ·subst e;simp
 ·have h:¬ (inr a:Key)=inr b:=fun q=>e (inr.inj q);rw[ztc h,ztc e]
theorem zfy(a:Int)(b:Str):decide ((inl a:Key)=inr b)=false:=ztc (fun q=>nomatch q)
theorem zfz(a:Str)(b:Int):decide ((inr a:Key)=inl b)=false:=ztc (fun q=>nomatch q)
def Yd(prog:Program)(w:World):PySem.KeyKind prog w Key where
 is:=Lq
 hash:=zi6 w
 inj:=fun v a b ha hb=>by
  rcases Yn ha with ⟨i,t,rfl,rfl⟩|⟨x,t,rfl,rfl⟩
  ·rcases Yn hb with ⟨j,u,rfl,e⟩|⟨y,u,rfl,e⟩
   ·injection e with e1 _;rw[e1]
   ·exact nomatch e
  ·rcases Yn hb with ⟨j,u,rfl,e⟩|⟨y,u,rfl,e⟩
   ·exact nomatch e
   ·injection e with e1 _;rw[e1]
 byValue:=fun k v h=>by
  rcases Yn h with ⟨i,t,rfl,rfl⟩|⟨x,t,rfl,rfl⟩<;>rfl
 pyHash:=fun hv h=>by
  rcases Yn hv with ⟨i,t,rfl,rfl⟩|⟨x,t,rfl,rfl⟩
  ·exact wpAny_pyHash_int h
  ·exact wpAny_pyHash_str h
 eqBool:=fun hu hv h=>by
  rcases Yn hu with ⟨i,t,rfl,rfl⟩|⟨x,t,rfl,rfl⟩
  ·rcases Yn hv with ⟨j,u,rfl,rfl⟩|⟨y,u,rfl,rfl⟩
   ·rw[zfw] at h;exact wpAny_eqBool_int h
   ·rw[zfy] at h;exact SeqAt.EqAt.int_str i t y u _ _ _ _ h
  ·rcases Yn hv with ⟨j,u,rfl,rfl⟩|⟨y,u,rfl,rfl⟩
   ·rw[zfz] at h;exact SeqAt.EqAt.str_int x t j u _ _ _ _ h
   ·rw[zfx] at h;exact wpAny_eqBool_str h
 «strs»:=fun k x t v h=>by
  rcases Yn h with ⟨i,u,rfl,e⟩|⟨y,u,rfl,e⟩
  ·exact nomatch e
  ·injection e with e1 _;subst e1;cases v<;>rfl
theorem F8(prog:Program)(w:World)(i:Int)(t:Tok):(Yd prog w).is (.inl i) (.int i t)=true:=zae i t
theorem F9(prog:Program)(w:World)(x:Str)(t:Tok):(Yd prog w).is (.inr x) (.str x t)=true:=zaf x t
inductive V where
 | non|bl (b:Bool)|int (i:Int)|str (x:Str)|byt (b:Array UInt8)|flt (b:UInt64)|ref (a:Addr)|ty (n:String)
 deriving DecidableEq
def RelV:V->Value->Prop
 | .non,u=>u=Value.none
 | .bl b,u=>u=Value.bool b
 | .int i,u=>∃ t,u=Value.int i t
 | .str x,u=>∃ t,u=Value.str x t
 | .byt b,u=>∃ t,u=Value.bytes b t
 | .flt b,u=>∃ t,u=Value.float b t
 | .ref a,u=>u=Value.ref a
 | .ty n,u=>u=Value.type n
abbrev Vals:List V->List Value->Prop:=Paired RelV
theorem Vals.length(r:Vals xs us):xs.length=us.length:=Paired.length r
theorem Vals.get:∀ {xs:List V} {us:List Value} {i:Nat} {x:V},Vals xs us->xs[i]?=some x->∃ u,us[i]?=some u/\RelV x u
 | _,_,_,_,.nil,e=>by simp at e
 | _,_,0,_,.cons r _,e=>by simp at e;subst e;exact⟨_,rfl,r⟩
 | _,_,i+1,x,.cons _ t,e=>by
   obtain⟨u,h1,h2⟩:=Vals.get (i:=i) (x:=x) t (by simpa using e);exact⟨u,by simpa using h1,h2⟩
theorem Vals.set(r:RelV x u):∀ {xs:List V} {us:List Value} (i:Nat),Vals xs us->Vals (xs.set i x) (us.set i u)
 | _,_,_,.nil=>.nil
 | _,_,0,.cons _ t=>.cons r t
 | _,_,i+1,.cons q t=>.cons q (Vals.set r i t)
theorem Vals.append:∀ {xs ys:List V} {us ws:List Value},Vals xs us->Vals ys ws->Vals (xs++ys) (us++ws)
 | _,_,_,_,.nil,s=>s
 | _,_,_,_,.cons r t,s=>.cons r (Vals.append t s)
theorem Vals.take:∀ {xs:List V} {us:List Value} (n:Nat),Vals xs us->Vals (xs.take n) (us.take n)
 | _,_,0,_=>.nil
 | _,_,_+1,.nil=>.nil
 | _,_,n+1,.cons r t=>.cons r (Vals.take n t)
theorem Vals.drop:∀ {xs:List V} {us:List Value} (n:Nat),Vals xs us->Vals (xs.drop n) (us.drop n)
 | _,_,0,r=>r
 | _,_,_+1,.nil=>.nil
 | _,_,n+1,.cons _ t=>Vals.drop n t
def RelO:Option V->Option Value->Prop
 | some v,some u=>RelV v u
 | none,none=>True
 | _,_=>False
def KV{κ:Type}:List (κ×V)->List (κ×Value)->Prop:=Paired fun (p:κ×V) (q:κ×Value)=>p.1=q.1/\RelV p.2 q.2
def kV:Key->V
 | .inl i=>.int i
 | .inr x=>.str x
inductive HO where
 | lst (xs:List V)
 | tup (xs:List V)
 | dK (kvs:List (Key×V))|dT (kvs:List (List Key×V))
 | set (S:Int->Bool) (n:Nat)
 | ins (C dx:Addr) (fs:List (Str×V))
 | own (x:Addr)
 | xd (fs:List (Str×V))
 | met (f x:Addr)
 | rng (lo hi:Int)
 | frz (o:Obj) (u:HO)
 | tbl (ps:Array Value)
 | ext (φ:Heap->Prop)
abbrev Hp:=Addr->Option HO
def upd(H:Hp)(a:Addr)(o:HO):Hp:=fun b=>if b=a then some o else H b
theorem Zd:upd H a o a=some o:=by unfold upd;rw[if_pos rfl]
theorem Zi(h:b≠a):upd H a o b=H b:=by unfold upd;rw[if_neg h]
theorem Le:upd (upd H a o) a u=upd H a u:=by
 funext b;unfold upd;split<;>rfl
theorem Yo{H:Hp}{a b:Addr}{o u:HO}(h:H a=some o)(h':H b=some u)(d:o≠u):a≠b:=by
 intro e;subst e;rw[h] at h';exact d (Option.some.inj h')
theorem Zg{H:Hp}{a b:Addr}{o:HO}(h:H a=some o)(h':H b=none):a≠b:=by
 intro e;subst e;rw[h] at h';cases h'
section
variable(P:Program)(w:World)
def Ym(H:Hp)(h:Heap)(a:Addr):HO->Prop
 | .lst xs=>xs.length<=sizeLine/\∃ (its:List Value) (n:Nat),Vals xs its/\h.get? a=some { cls:=.type "list",data:=.seq its.toArray n }
 | .tup xs=>xs.length<=sizeLine/\∃ its:List Value,Vals xs its/\IsTup h a its.toArray
 | .dK kvs=>kvs.length<=sizeLine/\(a == sysModules)=false/\∃ vs,KV kvs vs/\h.DictOf (Yd P w) a vs
 | .dT kvs=>kvs.length<=sizeLine/\(a == sysModules)=false/\∃ xs:List (List Key×Addr×Value),
   Paired (fun (p:List Key×V) (q:List Key×Addr×Value)=>p.1=q.1/\H q.2.1=some (.tup (p.1.map kV))/\RelV p.2 q.2.2) kvs xs /\
   ∃ o es ep,h.get? a=some o/\o.ExactDict/\o.data=.dict es ep/\es.toList=xs.map (entryOfKey (tupleKind (Yd P w)))/\(xs.map (·.1)).Nodup
 | .set S n=>h.SetOf (intKind P w) a S n
 | .ins C dx fs=>H dx=some (.own a)/\fs.length<=1000/\dx≠a/\h.get? a=some (PySem.W.instObj C dx) /\
   ∃ mA,h.Ns1 dx mA/\(∀ f,RelO (fs.lookup f) (mA f))/\PySem.Within mA (fs.map (·.1))
 | .own _=>∃ o,h.get? a=some o
 | .xd fs=>∃ mA,h.Ns1 a mA/\∀ f,RelO (fs.lookup f) (mA f)
 | .rng lo hi=>∃ t u v,h.get? a=some { cls:=.type "range",data:=.fields #[.int lo t,.int hi u,.int 1 v] }
 | .frz o u=>h.get? a=some o/\Ym H h a u
 | .tbl ps=>h.get? a=some { cls:=.none,data:=.fields ps }
 | .met f x=>h.get? a=some (PySem.W.methodObj (.ref f) (.ref x))
 | .ext φ=>φ h/\(∃ o,h.get? a=some o)/\∀ h1 h2:Heap,φ h1->(∀ o,h1.get? a=some o->h2.get? a=some o)->φ h2
def HOk(H:Hp)(h:Heap):Prop:=∀ a o,H a=some o->Ym P w H h a o
end
section
variable{P:Program}{w:World}{H H':Hp}{h h':Heap}{a:Addr}{o:HO}
theorem Ym.lt(x:Ym P w H h a o):a<h.objs.size:=by
 cases o with
 | lst xs=>obtain⟨_,_,_,_,e⟩:=x;exact Heap.lt_size e
 | tup xs=>obtain⟨_,_,_,p⟩:=x;exact p.lt
 | dK kvs=>obtain⟨_,_,_,_,o,_,_,e,_⟩:=x;exact Heap.lt_size e
 | dT kvs=>obtain⟨_,_,_,_,o,_,_,e,_⟩:=x;exact Heap.lt_size e
 | set S n=>obtain⟨o,_,_,_,e,_⟩:=x;exact Heap.lt_size e
 | ins C dx fs=>obtain⟨_,_,_,e,_⟩:=x;exact Heap.lt_size e
 | own y=>obtain⟨_,e⟩:=x;exact Heap.lt_size e
 | xd fs=>obtain⟨_,⟨_,_,_,e,_⟩,_⟩:=x;exact Heap.lt_size e
 | rng lo hi=>obtain⟨_,_,_,e⟩:=x;exact Heap.lt_size e
 | frz ob u=>obtain⟨e,_⟩:=x;exact Heap.lt_size e
 | tbl ps=>exact Heap.lt_size (show h.get? a=some _ from x)
 | met f y=>exact Heap.lt_size (show h.get? a=some _ from x)
 | ext φ=>obtain⟨_,⟨_,e⟩,_⟩:=x;exact Heap.lt_size e
theorem Paired.mapP:∀ {l₁:List α} {l₂:List β},Paired F l₁ l₂->(∀ a b,F a b->G a b)->Paired G l₁ l₂
 | _,_,.nil,_=>.nil
 | _,_,.cons r t,f=>.cons (f _ _ r) (Paired.mapP t f)
theorem Ym.stay(x:Ym P w H h a o)(k:∀ b u,(b=a\/H b=some (.own a))->h.get? b=some u->h'.get? b=some u)
  (ho:∀ b,H b=some (.own a)->H' b=some (.own a)) (ht:∀ b xs,H b=some (.tup xs)->H' b=some (.tup xs)):Ym P w H' h' a o:=by
 induction o with
 | lst xs=>obtain⟨z,its,n,r,e⟩:=x;exact⟨z,its,n,r,k _ _ (.inl rfl) e⟩
 | tup xs=>obtain⟨z,its,r,ob,e,c⟩:=x;exact⟨z,its,r,ob,k _ _ (.inl rfl) e,c⟩
 | dK kvs=>obtain⟨z,y,vs,r,ob,es,ep,e,c⟩:=x;exact⟨z,y,vs,r,ob,es,ep,k _ _ (.inl rfl) e,c⟩
 | dT kvs =>
   obtain⟨z,y,xs,r,ob,es,ep,e,c⟩:=x;exact⟨z,y,xs,Paired.mapP r fun p q z=>⟨z.1,ht _ _ z.2.1,z.2.2⟩,ob,es,ep,k _ _ (.inl rfl) e,c⟩
 | set S n=>obtain⟨ob,es,ep,t,e,c⟩:=x;exact⟨ob,es,ep,t,k _ _ (.inl rfl) e,c⟩
 | ins C dx fs =>
   obtain⟨d,z,ne,e,mA,⟨od,es,ep,e2,c⟩,r⟩:=x;exact⟨ho _ d,z,ne,k _ _ (.inl rfl) e,mA,⟨od,es,ep,k _ _ (.inr d) e2,c⟩,r⟩
 | own y=>obtain⟨ob,e⟩:=x;exact⟨ob,k _ _ (.inl rfl) e⟩
 | xd fs=>obtain⟨mA,⟨od,es,ep,e,c⟩,r⟩:=x;exact⟨mA,⟨od,es,ep,k _ _ (.inl rfl) e,c⟩,r⟩
 | rng lo hi=>obtain⟨t,u,v,e⟩:=x;exact⟨t,u,v,k _ _ (.inl rfl) e⟩
 | frz ob u ih=>obtain⟨e,q⟩:=x;exact⟨k _ _ (.inl rfl) e,ih q⟩
 | tbl ps =>
   have e:h.get? a=some { cls:=.none,data:=.fields ps }:=x;show h'.get? a=some { cls:=.none,data:=.fields ps };exact k a _ (.inl rfl) e
 | met f y =>
   have e:h.get? a=some (PySem.W.methodObj (.ref f) (.ref y)):=x;show h'.get? a=some (PySem.W.methodObj (.ref f) (.ref y));exact k a _ (.inl rfl) e
 | ext φ=>obtain⟨p,⟨o,e⟩,st⟩:=x;exact⟨st _ _ p fun o q=>k _ _ (.inl rfl) q,⟨o,k _ _ (.inl rfl) e⟩,st⟩
theorem HOk.lt(x:HOk P w H h)(e:H a=some o):a<h.objs.size:=(x a o e).lt
theorem HOk.fresh(x:HOk P w H h)(e:h.objs.size<=a):H a=none:=by
 cases q:H a with
 | none=>rfl
 | some u=>exact absurd (ztm (x.lt q) e) (zuk _)
theorem HOk.kept(x:HOk P w H h)(k:∀ b u,h.get? b=some u->h'.get? b=some u):HOk P w H h':=fun a o e =>
 (x a o e).stay (fun b u _ q=>k b u q) (fun _ q=>q) fun _ _ q=>q
theorem HOk.laid(x:HOk P w H h)(k:∀ b u,h.get? b=some u->h'.get? b=some u)(hp:h.objs.size<=a)(new:Ym P w (upd H a o) h' a o):HOk P w (upd H a o) h':=fun b u e=>by
 have hn:=x.fresh hp;by_cases hb:b=a
 ·subst hb;rw[Zd] at e;cases e;exact new
 ·rw[Zi hb] at e;exact(x b u e).stay (fun c v _ q=>k c v q) (fun c q=>by rw[Zi (Zg q hn)];exact q) fun c xs q=>by rw[Zi (Zg q hn)];exact q
end
def Rd(H:Hp)(a:Addr)(u:HO):Prop:=H a=some u\/∃ o,H a=some (.frz o u)
theorem Rd.ok(r:Rd H a u)(x:HOk P w H h):Ym P w H h a u:=by
 rcases r with r|⟨o,r⟩
 ·exact x a u r
 ·obtain⟨_,q⟩:=x a _ r;exact q
def Mut:Option HO->Prop
 | some (.lst _)=>True
 | some (.dK _)=>True
 | some (.dT _)=>True
 | some (.set _ _)=>True
 | some (.ins _ _ _)=>True
 | some (.ext _)=>True
 | _=>False
section
variable{P:Program}{w:World}{H:Hp}{h h':Heap}{x e:Addr}{o':HO}
theorem HOk.write(ok:HOk P w H h)(mu:Mut (H x))(he:e=x\/H e=some (.own x))(k:∀ b u,b≠e->h.get? b=some u->h'.get? b=some u)(heo:∃ u,h'.get? e=some u)
  (new:Ym P w (upd H x o') h' x o'):HOk P w (upd H x o') h':=fun b u q=>by
 have nown:∀ c y,H c=some (.own y)->c≠x:=fun c y r z=>by subst z;rw[r] at mu;exact mu
 have ntup:∀ c xs,H c=some (.tup xs)->c≠x:=fun c xs r z=>by subst z;rw[r] at mu;exact mu
 by_cases hb:b=x
 ·subst hb;rw[Zd] at q;cases q;exact new
 ·rw[Zi hb] at q;by_cases hbe:b=e
  ·have q':H b=some (.own x):=by
    rcases he with z|z
    ·exact absurd (hbe.trans z) hb
    ·rw[hbe];exact z
   rw[q] at q';cases q';obtain⟨v,hv⟩:=heo;exact⟨v,by rw[hbe];exact hv⟩
  ·refine(ok b u q).stay (fun c v hc r=>k c v ?_ r) (fun c r=>by rw[Zi (nown c b r)];exact r) fun c xs r=>by rw[Zi (ntup c xs r)];exact r
   rcases hc with rfl|hc
   ·exact hbe
   ·rintro rfl;rcases he with z|z
    ·exact nown c b hc z
    ·rw[hc] at z;cases z;exact hb rfl
end
structure Un(fs ex:List Addr)(H H':Hp)(h h':Heap):Prop where
 keep:∀ b o,h.get? b=some o->H b=none->b∉fs->b∉ex->h'.get? b=some o
 slot:∀ b o,h.get? b=some o->H b=none->b∈fs->b∉ex->∃ sl,h'.get? b=some { o with slots:=sl }
 free:∀ b o,h.get? b=some o->H b=none->b∉ex->H' b=none
 there:∀ b o,h.get? b=some o->b∉ex->∃ o',h'.get? b=some o'
 tups:∀ b xs,H b=some (.tup xs)->H' b=some (.tup xs)
 frzs:∀ b o u,H b=some (.frz o u)->H' b=some (.frz o u)
 tbls:∀ b ps,H b=some (.tbl ps)->∃ more,H' b=some (.tbl (ps++more))
section
variable{fs fs' ex ex':List Addr}{H H1 H2:Hp}{h h1 h2 h':Heap}{a x e:Addr}{o:HO}
theorem Un.any(u:Un fs ex H H1 h h1)(q:h.get? b=some ob)(n:H b=none)(hx:b∉ex):∃ sl,h1.get? b=some { ob with slots:=sl }:=by
 by_cases hb:b∈fs
 ·exact u.slot b ob q n hb hx
 ·exact⟨ob.slots,u.keep b ob q n hb hx⟩
theorem Un.kept(k:∀ b u,h.get? b=some u->h'.get? b=some u):Un fs ex H H h h' :=
 ⟨fun b ob q _ _ _=>k b ob q,fun b ob q _ _ _=>⟨ob.slots,k b ob q⟩,fun _ _ _ n _=>n,fun b ob q _=>⟨ob,k b ob q⟩,fun _ _ q=>q,fun _ _ _ q=>q,fun _ ps q=>⟨#[],by rw[q];simp⟩⟩
theorem Un.refl:Un fs ex H H h h:=Un.kept fun _ _ q=>q
theorem Un.laid(k:∀ b u,h.get? b=some u->h'.get? b=some u)(hp:h.objs.size<=a)(hn:H a=none):Un fs ex H (upd H a o) h h' where
 keep:=fun b u q _ _ _=>k b u q
 slot:=fun b u q _ _ _=>⟨u.slots,k b u q⟩
 free:=fun b u q n _=>by rw[Zi (ztv (ztm (Heap.lt_size q) hp))];exact n
 there:=fun b u q _=>⟨u,k b u q⟩
 tups:=fun b xs q=>by rw[Zi (Zg q hn)];exact q
 frzs:=fun b u xs q=>by rw[Zi (Zg q hn)];exact q
 tbls:=fun b ps q=>⟨#[],by rw[Zi (Zg q hn),q];simp⟩
theorem Un.write(mu:Mut (H x))(he:e=x\/H e=some (.own x))(k:∀ b u,b≠e->h.get? b=some u->h'.get? b=some u)(heo:∃ u,h'.get? e=some u):Un fs ex H (upd H x o) h h':=by
 have hx:∀ b,H b=none->b≠x:=fun b n z=>by subst z;rw[n] at mu;exact mu
 have hb:∀ b,H b=none->b≠e:=fun b n z=>by
  subst z;rcases he with r|r
  ·exact hx b n r
  ·rw[n] at r;cases r
 have hm:∀ b u,H b=some u->¬ Mut (some u)->b≠x:=fun b u q nm z=>by subst z;rw[q] at mu;exact nm mu
 refine⟨fun b u q n _ _=>k b u (hb b n) q,fun b u q n _ _=>⟨u.slots,k b u (hb b n) q⟩,fun b u q n _=>by rw[Zi (hx b n)];exact n,fun b u q _=>?_,
  fun b xs q=>by rw[Zi (hm b _ q fun z=>z)];exact q,fun b u xs q=>by rw[Zi (hm b _ q fun z=>z)];exact q,fun b ps q=>⟨#[],by rw[Zi (hm b _ q fun z=>z),q];simp⟩⟩
 by_cases hbe:b=e
 ·subst hbe;exact heo
 ·exact⟨u,k b u hbe q⟩
end
def trk(h:Heap)(H:Hp):List Addr:=(List.range h.objs.size).filter fun a=>(H a).isSome
def G0(h:Heap)(H:Hp):Heap:=PySem.W.hideAll h (trk h H)
theorem zag(h:Heap)(H:Hp):(G0 h H).objs.size=h.objs.size:=PySem.W.hideAll_size _ _
theorem zb0(e:h.get? b=some o)(n:H b=none):(G0 h H).get? b=some o :=
 PySem.W.hideAll_get _ e fun hm=>by
  have q:(H b).isSome=true:=(zt9.mp hm).2;rw[n] at q;simp at q
theorem zec(e:(G0 h H).get? b=some o):h.get? b=some o/\H b=none:=by
 have e':h.get? b=some o:=PySem.W.of_hideAll (trk h H) e;refine⟨e',?_⟩;cases q:H b with
 | none=>rfl
 | some x =>
   have hm:b∈trk h H:=zt9.mpr ⟨zt7.mpr (Heap.lt_size e'),by simp[q]⟩;have z:(G0 h H).get? b=none:=PySem.W.hideAll_none (trk h H) hm;rw[z] at e;cases e
structure Mod(K:Frag)(mg:Str->Option Value)(base:Heap):Prop where
 kin:K.In base
 glob:base.Ns mainGlobals mg
 blt:∃ mb,base.Ns builtinsNs mb/\∀ x:Str,x≠"__name__"->mb x=bootBuiltins x
 nolimit:base.NoLimit
structure Cx where
 prog:Program
 w:World
 K:Frag
 mg:Str->Option Value
 base:Heap
 A:Around
 N:List Str
 s₀:Shared
 H₀:Hp
 env:Env
 outer:List Env
 stack:List Env
 ex:List Addr
 fn:Str->Bool
 calm:Bool
 pn:List (Addr×Obj)
 xe:Value->Shared->Prop
 lk:List (Option V):=[]
def frs(l:List Env):List Addr:=l.filterMap (·.frame)
abbrev Cx.fs(X:Cx):List Addr:=frs X.outer
def Vis(sc:Scope)(x:Str):Prop:=sc.names.lookup x=some .local\/sc.names.lookup x=some .cell\/sc.names.lookup x=some .free
def Loc(sc:Scope)(x:Str):Prop:=sc.names.lookup x=some .local\/sc.names.lookup x=some .cell
def Look(env:Env)(h:Heap)(m:Str->Option Value)(x:Str)(u:Value):Prop :=
 (env.kindOf x=some .local/\m x=some u)\/((env.kindOf x=some .cell\/env.kindOf x=some .free)/\∃ c,env.cells.lookup x=some c/\h.IsCell c (some u))
structure Cx.Ok(X:Cx):Prop where
 mod:Mod X.K X.mg X.base
 kind:X.env.scope.kind=.function
 glob:X.env.globals=mainGlobals
 blt:X.env.builtins=builtinsNs
 above:X.s₀.heap.objs.size<=X.env.locals
 inj:∀ x y c,X.env.cells.lookup x=some c->X.env.cells.lookup y=some c->x=y
 has:∀ x,(X.env.kindOf x=some .cell\/X.env.kindOf x=some .free)->∃ c,X.env.cells.lookup x=some c
 cab:∀ x c,X.fn x=true->X.env.cells.lookup x=some c->X.s₀.heap.objs.size<=c
 hd:X.calm=true->X.A.handled=none
 frames:X.A.frames=some X.stack
 stk:X.stack=X.outer\/(X.stack=X.env :: X.outer/\X.env.frame=some X.env.locals)
 exf:∀ b∈X.ex,b≠X.env.locals/\∀ x c,X.env.cells.lookup x=some c->c≠b
 bs:∀ b o,X.base.get? b=some o->X.s₀.heap.get? b=some o/\X.H₀ b=none
 bsz:X.base.objs.size<=X.s₀.heap.objs.size
 noex:∀ b o,X.base.get? b=some o->b∉X.ex
 exfs:∀ b∈X.ex,b∉X.fs
 funs:X.s₀.heap.FunFrames X.base X.outer
 frf:∀ b∈X.fs,X.H₀ b=none
structure Inv(X:Cx)(pins:List (Addr×Obj))(σ:List (Option V))(H:Hp)(s:Shared):Prop where
 ok:X.Ok
 os:s.os=X.s₀.os
 bare:AllBare s.gens
 base:Un X.fs X.ex X.H₀ H X.s₀.heap s.heap
 loc:∃ m,s.heap.Ns X.env.locals m/\∀ (i:Nat) (x:Str) (v:V),X.N[i]?=some x->(σ[i]?=some (some v)\/X.lk[i]?=some (some v))->Vis X.env.scope x->∃ u,RelV v u/\Look X.env s.heap m x u
 cell:∀ x c,X.env.cells.lookup x=some c->∃ v,s.heap.IsCell c v
 free:H X.env.locals=none
 freeC:∀ x c,X.env.cells.lookup x=some c->H c=none
 pin:∀ p∈X.pn++pins,s.heap.get? p.1=some p.2/\H p.1=none/\p.1≠X.env.locals/\p.1∉X.fs/\∀ v,p.2.data≠.cell v
 hok:HOk X.prog X.w H s.heap
 len:σ.length=X.N.length
section
variable{X:Cx}{pins:List (Addr×Obj)}{σ:List (Option V)}{H H':Hp}{s:Shared}{h':Heap}
theorem Cx.Ok.nofr(ok:X.Ok)(e:X.base.get? b=some o):b∉X.fs:=fun hb=>by
 have:=(ok.funs.mem hb).1;rw[e] at this;cases this
theorem Inv.bs(I:Inv X pins σ H s):∀ b o,X.base.get? b=some o->s.heap.get? b=some o/\H b=none:=fun b o e =>
 ⟨I.base.keep b o (I.ok.bs b o e).1 (I.ok.bs b o e).2 (I.ok.nofr e) (I.ok.noex b o e),I.base.free b o (I.ok.bs b o e).1 (I.ok.bs b o e).2 (I.ok.noex b o e)⟩
theorem Inv.bk(I:Inv X pins σ H s):∀ b o,X.base.get? b=some o->s.heap.get? b=some o:=fun b o e=>(I.bs b o e).1
theorem Inv.mod(I:Inv X pins σ H s):Mod X.K X.mg X.base:=I.ok.mod
theorem Inv.kIn(I:Inv X pins σ H s):X.K.In s.heap:=I.ok.mod.kin.keeps I.bk
theorem Inv.lt(I:Inv X pins σ H s):X.env.locals<s.heap.objs.size:=let ⟨_,hn,_⟩:=I.loc;hn.lt
theorem Inv.sz(I:Inv X pins σ H s):X.s₀.heap.objs.size<=s.heap.objs.size:=zto I.ok.above (zu5 I.lt)
theorem Inv.nofs(I:Inv X pins σ H s)(h:s.heap.objs.size<=a):a∉X.fs:=fun hb=>by
 obtain⟨_,o,ho,_⟩:=I.ok.funs.mem hb;exact absurd (ztm (Heap.lt_size ho) (zto I.sz h)) (zuk _)
theorem Inv.cne(I:Inv X pins σ H s):∀ x c,X.env.cells.lookup x=some c->c≠X.env.locals:=fun x c e z=>by
 obtain⟨v,o,ho,hd⟩:=I.cell x c e;obtain⟨m,⟨o',es,ep,ho',hd',_⟩,_⟩:=I.loc;rw[z,ho'] at ho;cases ho;rw[hd'] at hd;cases hd
theorem Inv.funs(I:Inv X pins σ H s):s.heap.FunFrames X.base X.outer:=by
 have all:∀ (l:List Env),(∀ b∈frs l,b∈X.fs)->X.s₀.heap.FunFrames X.base l->s.heap.FunFrames X.base l:=by
  intro l
  induction l with
  | nil=>intro _ _;trivial
  | cons env r ih =>
    intro hs hl;obtain⟨hk,⟨L,o,hf,hn,ho,hd⟩,hr⟩:=hl;have hL:L∈X.fs:=hs L (by unfold frs;rw[zus,hf];exact ztn);obtain⟨sl,e⟩:=I.base.slot L o ho (I.ok.frf L hL) hL fun z=>I.ok.exfs L z hL;exact⟨hk,⟨L,_,hf,hn,e,hd⟩,ih (fun b hb=>hs b (by unfold frs;rw[zus,hf];exact ztj _ hb)) hr⟩
 exact all X.outer (fun _ hb=>hb) I.ok.funs
theorem Inv.stack(I:Inv X pins σ H s):s.heap.FunFrames X.base X.stack:=by
 rcases I.ok.stk with e|⟨e,hf⟩
 ·rw[e];exact I.funs
 ·rw[e];obtain⟨m,hn,_⟩:=I.loc;refine .cons (by rw[I.ok.kind];decide) hf hn ?_ I.funs;exact Heap.get?_none_of_le (zto I.ok.bsz I.ok.above)
theorem Inv.stkSub(I:Inv X pins σ H s):∀ b∈frs X.stack,b∈X.env.locals :: X.fs:=fun b hb=>by
 rcases I.ok.stk with e|⟨e,hf⟩
 ·rw[e] at hb;exact ztj _ hb
 ·rw[e] at hb;unfold frs at hb;rw[zus,hf] at hb;exact hb
theorem Inv.stkFree(I:Inv X pins σ H s):∀ b∈frs X.stack,H b=none:=fun b hb=>by
 rcases zs7.mp (I.stkSub b hb) with e|hb
 ·rw[e];exact I.free
 ·obtain⟨_,o,ho,_⟩:=I.ok.funs.mem hb;exact I.base.free b o ho (I.ok.frf b hb) fun z=>I.ok.exfs b z hb
theorem Inv.step{g':Array GenState}{t':Nat}{d':Drawn}{ch:List Addr}(I:Inv X pins σ H s)
  (hch:∀ b∈ch,(b∈X.ex\/X.s₀.heap.objs.size<=b)/\b≠X.env.locals/\(∀ x c,X.env.cells.lookup x=some c->c≠b)/\∀ p∈X.pn++pins,p.1≠b)
  (keep:∀ b o,b≠X.env.locals->b∉X.fs->b∉ch->s.heap.get? b=some o->H b=none->h'.get? b=some o)
  (slot:∀ b o,b≠X.env.locals->b∈X.fs->b∉ch->s.heap.get? b=some o->H b=none->∃ sl,h'.get? b=some { o with slots:=sl }) (free:∀ b o,b∉ch->s.heap.get? b=some o->H b=none->H' b=none)
  (there:∀ b o,b∉ch->s.heap.get? b=some o->∃ o',h'.get? b=some o')
  (tups:∀ b xs,H b=some (.tup xs)->H' b=some (.tup xs)) (frzs:∀ b o u,H b=some (.frz o u)->H' b=some (.frz o u)) (tbls:∀ b ps,H b=some (.tbl ps)->∃ more,H' b=some (.tbl (ps++more)))
  (ns:∀ m,s.heap.Ns X.env.locals m->h'.Ns X.env.locals m) (hok:HOk X.prog X.w H' h') (hg:AllBare g') :
  Inv X pins σ H' { s with heap:=h',gens:=g',drawn:=d',toks:=t' }:=by
 have neL:∀ b o,X.s₀.heap.get? b=some o->b≠X.env.locals:=fun b o e=>ztv (ztm (Heap.lt_size e) I.ok.above);have neC:∀ b o,X.s₀.heap.get? b=some o->b∉X.ex->b∉ch:=fun b o e hx hb=>by
  rcases(hch b hb).1 with z|z
  ·exact hx z
  ·exact absurd (ztm (Heap.lt_size e) z) (zuk _)
 have cellK:∀ x c,X.env.cells.lookup x=some c->∀ v,s.heap.IsCell c v->h'.IsCell c v:=fun x c e v ⟨o,ho,hd⟩=>by
  have nch:c∉ch:=fun z=>(hch c z).2.2.1 x c e rfl;by_cases hc:c∈X.fs
  ·obtain⟨sl,q⟩:=slot c o (I.cne x c e) hc nch ho (I.freeC x c e);exact⟨_,q,hd⟩
  ·exact⟨o,keep c o (I.cne x c e) hc nch ho (I.freeC x c e),hd⟩
 refine⟨I.ok,I.os,hg,⟨fun b o e n hb hx=>?_,fun b o e n hb hx=>?_,fun b o e n hx=>?_,fun b o e hx=>?_,fun b xs e=>tups b xs (I.base.tups b xs e),fun b o xs e=>frzs b o xs (I.base.frzs b o xs e),fun b ps e=>?_⟩,?_,fun x c e=>?_,?_,fun x c e=>?_,fun p hp=>?_,hok,I.len⟩
 ·exact keep b o (neL b o e) hb (neC b o e hx) (I.base.keep b o e n hb hx) (I.base.free b o e n hx)
 ·obtain⟨sl,e1⟩:=I.base.slot b o e n hb hx;obtain⟨sl',e2⟩:=slot b _ (neL b o e) hb (neC b o e hx) e1 (I.base.free b o e n hx);exact⟨sl',e2⟩
 ·obtain⟨o',e1⟩:=I.base.there b o e hx;exact free b o' (neC b o e hx) e1 (I.base.free b o e n hx)
 ·obtain⟨o',e1⟩:=I.base.there b o e hx;exact there b o' (neC b o e hx) e1
 ·obtain⟨m1,e1⟩:=I.base.tbls b ps e;obtain⟨m2,e2⟩:=tbls b _ e1;exact⟨m1++m2,by rw[e2,Array.append_assoc]⟩
 ·obtain⟨m,hn,hl⟩:=I.loc;refine⟨m,ns m hn,fun i x v e1 e2 e3=>?_⟩;obtain⟨u,r,l⟩:=hl i x v e1 e2 e3;refine⟨u,r,?_⟩;rcases l with l|⟨k,c,e,z⟩
  ·exact .inl l
  ·exact .inr ⟨k,c,e,cellK x c e _ z⟩
 ·obtain⟨v,z⟩:=I.cell x c e;exact⟨v,cellK x c e v z⟩
 ·obtain⟨m,⟨o,_,_,ho,_⟩,_⟩:=I.loc;exact free _ o (fun z=>(hch _ z).2.1 rfl) ho I.free
 ·obtain⟨v,o,ho,hd⟩:=I.cell x c e;exact free c o (fun z=>(hch c z).2.2.1 x c e rfl) ho (I.freeC x c e)
 ·obtain⟨e,n,ne,nf,d⟩:=I.pin p hp;have nch:p.1∉ch:=fun z=>(hch p.1 z).2.2.2 p hp rfl;exact⟨keep p.1 p.2 ne nf nch e n,free p.1 p.2 nch e n,ne,nf,d⟩
theorem Inv.un{t':Nat}(I:Inv X pins σ H s)(u:Un X.fs [] H H' s.heap h')(hok:HOk X.prog X.w H' h'):Inv X pins σ H' { s with heap:=h',toks:=t' }:=by
 obtain⟨m,⟨o,es,ep,ho,r⟩,_⟩:=id I.loc;obtain⟨sl,hL⟩:=u.any ho I.free (by simp);exact I.step (g':=s.gens) (d':=s.drawn) (ch:=[]) (fun _ z=>nomatch z) (fun b o _ hb _ e n=>u.keep b o e n hb (by simp)) (fun b o _ hb _ e n=>u.slot b o e n hb (by simp)) (fun b o _ e n=>u.free b o e n (by simp)) (fun b o _ e=>u.there b o e (by simp)) u.tups u.frzs u.tbls (fun m' hm=>by
  obtain⟨o',es',ep',ho',r'⟩:=hm;rw[ho] at ho';cases ho';exact⟨_,es',ep',hL,r'⟩) hok I.bare
theorem Inv.call{g':Array GenState}{t':Nat}{d':Drawn}{ch:List Addr}(I:Inv X pins σ H s)(u:Un (frs X.stack) ch H H' s.heap h')(hok:HOk X.prog X.w H' h')(hg:AllBare g')
  (hch:∀ b∈ch,(b∈X.ex\/X.s₀.heap.objs.size<=b)/\b≠X.env.locals/\(∀ x c,X.env.cells.lookup x=some c->c≠b)/\∀ p∈X.pn++pins,p.1≠b) :
  Inv X pins σ H' { s with heap:=h',gens:=g',drawn:=d',toks:=t' }:=by
 obtain⟨m,⟨o,es,ep,ho,r⟩,_⟩:=id I.loc;obtain⟨sl,hL⟩:=u.any ho I.free fun z=>(hch _ z).2.1 rfl;exact I.step (ch:=ch) hch (fun b o hL hb hc e n=>u.keep b o e n (fun z=>(zs7.mp (I.stkSub b z)).elim hL hb) hc) (fun b o _ _ hc e n=>u.any e n hc) (fun b o hc e n=>u.free b o e n hc) (fun b o hc e=>u.there b o e hc) u.tups u.frzs u.tbls (fun m' hm=>by
  obtain⟨o',es',ep',ho',r'⟩:=hm;rw[ho] at ho';cases ho';exact⟨_,es',ep',hL,r'⟩) hok hg
theorem Inv.turned{t':Nat}{it:Addr}(I:Inv X pins σ H s)(k:∀ b o,b≠it->s.heap.get? b=some o->h'.get? b=some o)(hn:H it=none)(hL:it≠X.env.locals)
  (h1:it∈X.ex\/X.s₀.heap.objs.size<=it) (h2:∀ x c,X.env.cells.lookup x=some c->c≠it) (h3:∀ p∈X.pn++pins,p.1≠it):Inv X pins σ H { s with heap:=h',toks:=t' }:=by
 have nit:∀ b u,H b=some u->b≠it:=fun b u e z=>by rw[z,hn] at e;cases e
 refine I.step (g':=s.gens) (d':=s.drawn) (ch:=[it]) (fun b hb=>?_) (fun b o _ _ hc e _=>k b o (fun z=>hc (by simp[z])) e) (fun b o _ _ hc e _=>⟨o.slots,k b o (fun z=>hc (by simp[z])) e⟩) (fun _ _ _ _ n=>n)
  (fun b o hc e=>⟨o,k b o (fun z=>hc (by simp[z])) e⟩) (fun _ _ e=>e) (fun _ _ _ e=>e) (fun b ps e=>⟨#[],by rw[e];simp⟩) (fun m hm=>?_) (fun b u e=>?_) I.bare
 ·have e:b=it:=by simpa using hb
  subst e;exact⟨h1,hL,h2,h3⟩
 ·obtain⟨o,es,ep,ho,r⟩:=hm;exact⟨o,es,ep,k _ o (Ne.symm hL) ho,r⟩
 ·refine(I.hok b u e).stay (fun c v hc q=>k c v ?_ q) (fun _ q=>q) fun _ _ q=>q;rcases hc with z|z
  ·rw[z];exact nit b u e
  ·exact nit c _ z
theorem Inv.tok(I:Inv X pins σ H s)(t:Nat):Inv X pins σ H { s with toks:=t }:=I.un (h':=s.heap) (t':=t) Un.refl I.hok
theorem Inv.kept(I:Inv X pins σ H s)(k:∀ b u,s.heap.get? b=some u->h'.get? b=some u):Inv X pins σ H { s with heap:=h',toks:=t' }:=I.un (Un.kept k) (I.hok.kept k)
theorem Inv.laid(I:Inv X pins σ H s)(k:∀ b u,s.heap.get? b=some u->h'.get? b=some u)(hp:s.heap.objs.size<=a)(new:Ym X.prog X.w (upd H a o) h' a o) :
  Inv X pins σ (upd H a o) { s with heap:=h',toks:=t' }:=I.un (Un.laid k hp (I.hok.fresh hp)) (I.hok.laid k hp new)
theorem Inv.write(I:Inv X pins σ H s)(mu:Mut (H x))(he:e=x\/H e=some (.own x))(k:∀ b u,b≠e->s.heap.get? b=some u->h'.get? b=some u)(heo:∃ u,h'.get? e=some u)
  (new:Ym X.prog X.w (upd H x o) h' x o):Inv X pins σ (upd H x o) { s with heap:=h',toks:=t' }:=I.un (Un.write mu he k heo) (I.hok.write mu he k heo new)
theorem Inv.weak(I:Inv X pins σ H s)(hl:σ'.length=σ.length)(w:∀ (i:Nat) v,σ'[i]?=some (some v)->σ[i]?=some (some v)):Inv X pins σ' H s :=
 ⟨I.ok,I.os,I.bare,I.base,let ⟨m,hn,hl'⟩:=I.loc;⟨m,hn,fun i x v e1 e2 e3=>hl' i x v e1 (e2.imp_left (w i v)) e3⟩,I.cell,I.free,I.freeC,I.pin,I.hok,hl.trans I.len⟩
theorem Inv.pins_of(I:Inv X pins σ H s)(h:∀ p∈pins',s.heap.get? p.1=some p.2/\H p.1=none/\p.1≠X.env.locals/\p.1∉X.fs/\∀ v,p.2.data≠.cell v):Inv X pins' σ H s :=
 ⟨I.ok,I.os,I.bare,I.base,I.loc,I.cell,I.free,I.freeC,fun p hp=>(zth.mp hp).elim (fun z=>I.pin p (zty _ z)) (h p),I.hok,I.len⟩
theorem Lr{N:List Str}(hN:N.Nodup){i j:Nat}{x:Str}(a:N[i]?=some x)(b:N[j]?=some x):i=j:=by
 obtain⟨h1,e1⟩:=zs5.mp a;obtain⟨h2,e2⟩:=zs5.mp b;exact(List.getElem_inj hN).mp (e1.trans e2.symm)
def Cq(X:Cx)(i:Nat)(x:Str):Prop:=(X.fn x=true\/X.env.scope.names.lookup x=some .local)/\∀ v,X.lk[i]?≠some (some v)
theorem Xq{i:Nat}:∀ v:V,([]:List (Option V))[i]?≠some (some v):=fun _ h=>by simp at h
theorem Iu{M:Model}{A:Around}{E:Value->Shared->Prop}{i:Nat}{x:Str}{v:V}{u:Value}{Q:Unit->Shared->Prop}(I:Inv X pins σ H s)(hN:X.N.Nodup)(hi:X.N[i]?=some x)(hx:Loc X.env.scope x)(r:RelV v u)
  (h:∀ s',Inv X pins (σ.set i (some v)) H s'->(∃ a,Heap.SameBut a s.heap s'.heap/\(a=X.env.locals\/X.env.cells.lookup x=some a))->Q () s') (hf:Cq X i x:=by first|exact⟨.inl rfl,Xq⟩|exact⟨.inr rfl,Xq⟩|assumption|exact⟨.inl rfl,by assumption⟩|exact⟨.inr rfl,by assumption⟩):wpAny M A (storeName X.env x u) Q E s:=by
 obtain⟨m,hn,hl⟩:=id I.loc;have hcls:(X.env.scope.kind == .class||(X.env.scope.kind == .module&&X.env.locals != X.env.globals))=false:=by rw[I.ok.kind];rfl
 have hiσ:i<σ.length:=by rw[I.len];exact(zs5.mp hi).1
 have cne:=I.cne;have tracked:∀ {a:Addr} {h':Heap},(∃ o,s.heap.get? a=some o/\H a=none)->Heap.SameBut a s.heap h'->HOk X.prog X.w H h':=fun {a h'} ha hs b ob e=>by
  obtain⟨_,_,hfree⟩:=ha;refine(I.hok b ob e).stay (fun c w' hc q=>(hs.2 c ?_).trans q) (fun _ q=>q) fun _ _ q=>q;rintro rfl;rcases hc with rfl|hc
  ·rw[hfree] at e;cases e
  ·rw[hfree] at hc;cases hc
 rcases hx with hk|hk
 ·refine wpAny_storeName_local hk hn (fun h' hn' hs=>?_) hcls;obtain⟨oL,_,_,hoL,_⟩:=id hn;refine h _ ⟨I.ok,I.os,I.bare,⟨fun b o e n hb hx=>?_,fun b o e n hb hx=>?_,I.base.free,fun b o e hx=>?_,I.base.tups,I.base.frzs,I.base.tbls⟩,⟨_,hn',fun j y v' e1 e2 e3=>?_⟩,fun y c e=>?_,I.free,I.freeC,fun p hp=>?_,tracked ⟨oL,hoL,I.free⟩ hs,by simpa using I.len⟩ ⟨_,hs,.inl rfl⟩
  ·exact(hs.2 b (ztv (ztm (Heap.lt_size e) I.ok.above))).trans (I.base.keep b o e n hb hx)
  ·obtain⟨sl,e1⟩:=I.base.slot b o e n hb hx;exact⟨sl,(hs.2 b (ztv (ztm (Heap.lt_size e) I.ok.above))).trans e1⟩
  ·obtain⟨o',e1⟩:=I.base.there b o e hx;exact⟨o',(hs.2 b (ztv (ztm (Heap.lt_size e) I.ok.above))).trans e1⟩
  ·by_cases hj:j=i
   ·subst hj;rw[hi] at e1;cases e1;rcases e2 with e2|e2
    case' inr=>exact absurd e2 (hf.2 _)
    rw[zt4 hiσ] at e2;cases e2;exact⟨u,r,.inl ⟨hk,by simp⟩⟩
   ·have e2:σ[j]?=some (some v')\/X.lk[j]?=some (some v'):=e2.imp_left fun z=>by rw[zt2 (Ne.symm hj)] at z;exact z
    obtain⟨u',r',q⟩:=hl j y v' e1 e2 e3;refine⟨u',r',?_⟩;rcases q with ⟨k,e⟩|⟨k,c,e,z⟩
    ·refine .inl ⟨k,?_⟩;have:y≠x:=fun e=>hj (Lr hN e1 (e▸hi));simp[this,e]
    ·exact .inr ⟨k,c,e,z.sameBut hs (cne y c e)⟩
  ·obtain⟨w',z⟩:=I.cell y c e;exact⟨w',z.sameBut hs (cne y c e)⟩
  ·obtain⟨e,n,ne,nf,d⟩:=I.pin p hp;exact⟨(hs.2 p.1 ne).trans e,n,ne,nf,d⟩
 ·have hfn:X.fn x=true:=by
   rcases hf.1 with z|z
   ·exact z
   ·rw[z] at hk;cases hk
  obtain⟨c,hc⟩:=I.ok.has x (.inl hk);obtain⟨w',z⟩:=I.cell x c hc;refine wpAny_storeName_cell I.ok.kind hk hc z (fun h' hc' hs=>?_);obtain⟨oc,hoc,hocd⟩:=id z;refine h { s with heap:=h' } ⟨I.ok,I.os,I.bare,⟨fun b o e n hb hx=>?_,fun b o e n hb hx=>?_,I.base.free,fun b o e hx=>?_,I.base.tups,I.base.frzs,I.base.tbls⟩,⟨m,hn.sameBut hs (Ne.symm (cne x c hc)),fun j y v' e1 e2 e3=>?_⟩,fun y c' e=>?_,I.free,I.freeC,fun p hp=>?_,tracked ⟨oc,hoc,I.freeC x c hc⟩ hs,by simpa using I.len⟩ ⟨c,hs,.inr hc⟩
  ·exact(hs.2 b (ztv (ztm (Heap.lt_size e) (I.ok.cab x c hfn hc)))).trans (I.base.keep b o e n hb hx)
  ·obtain⟨sl,e1⟩:=I.base.slot b o e n hb hx;exact⟨sl,(hs.2 b (ztv (ztm (Heap.lt_size e) (I.ok.cab x c hfn hc)))).trans e1⟩
  ·obtain⟨o',e1⟩:=I.base.there b o e hx;exact⟨o',(hs.2 b (ztv (ztm (Heap.lt_size e) (I.ok.cab x c hfn hc)))).trans e1⟩
  ·by_cases hj:j=i
   ·subst hj;rw[hi] at e1;cases e1;rcases e2 with e2|e2
    case' inr=>exact absurd e2 (hf.2 _)
    rw[zt4 hiσ] at e2;cases e2;exact⟨u,r,.inr ⟨.inl hk,c,hc,hc'⟩⟩
   ·have e2:σ[j]?=some (some v')\/X.lk[j]?=some (some v'):=e2.imp_left fun z=>by rw[zt2 (Ne.symm hj)] at z;exact z
    obtain⟨u',r',q⟩:=hl j y v' e1 e2 e3;refine⟨u',r',?_⟩;rcases q with q|⟨k,c',e,z'⟩
    ·exact .inl q
    ·refine .inr ⟨k,c',e,z'.sameBut hs ?_⟩;rintro rfl;exact hj (Lr hN e1 (I.ok.inj _ _ _ e hc▸hi))
  ·by_cases hcc:c'=c
   ·subst hcc;exact⟨_,hc'⟩
   ·obtain⟨w2,z2⟩:=I.cell y c' e;exact⟨w2,z2.sameBut hs hcc⟩
  ·obtain⟨e,n,ne,nf,d⟩:=I.pin p hp;refine⟨(hs.2 p.1 ?_).trans e,n,ne,nf,d⟩;intro q;rw[q,hoc] at e;have q':oc=p.2:=Option.some.inj e;exact d w' (by rw[<- q'];exact hocd)
theorem Ls(I:Inv X pins σ H s)(hN:X.N.Nodup)(hi:X.N[i]?=some x)(hx:Loc X.env.scope x)(r:RelV v u)
  (h:∀ s',Inv X pins (σ.set i (some v)) H s'->Q () s') (hf:Cq X i x:=by first|exact⟨.inl rfl,Xq⟩|exact⟨.inr rfl,Xq⟩|assumption|exact⟨.inl rfl,by assumption⟩|exact⟨.inr rfl,by assumption⟩):wpAny M A (storeName X.env x u) Q E s :=
 Iu I hN hi hx r (fun s' I' _=>h s' I') hf
theorem Inv.call'(I:Inv X pins σ H s)(ho:s'.os=s.os)(u:Un (frs X.stack) ch H H' s.heap s'.heap)(hok:HOk X.prog X.w H' s'.heap)(hg:AllBare s'.gens)
  (hch:∀ b∈ch,(b∈X.ex\/X.s₀.heap.objs.size<=b)/\b≠X.env.locals/\(∀ x c,X.env.cells.lookup x=some c->c≠b)/\∀ p∈X.pn++pins,p.1≠b):Inv X pins σ H' s':=by
 obtain⟨h',g',d',t',o'⟩:=s';have e:o'=s.os:=ho;subst e;exact I.call (g':=g') (t':=t') (d':=d') u hok hg hch
end
abbrev XK:=Value->Option Addr->Hp->Prop
abbrev St:=List (Option V)
abbrev VK:=V->Hp->Prop
abbrev TE:=St->Hp->VK->Prop
abbrev TT:=St->Hp->(Bool->Hp->Prop)->Prop
abbrev TA:=St->Hp->(List V->Hp->Prop)->Prop
structure Oa where
 nx:St->Hp->Prop
 rt:VK
 bk:St->Hp->Prop:=fun _ _=>False
 ct:St->Hp->Prop:=fun _ _=>False
abbrev TS:=Oa->St->Hp->Prop
def EP(X:Cx)(pins:List (Addr×Obj))(σ:St)(Q:VK)(u:Value)(s':Shared):Prop:=∃ v H',Inv X pins σ H' s'/\RelV v u/\Q v H'
def TP(X:Cx)(pins:List (Addr×Obj))(σ:St)(Q:Bool->Hp->Prop)(b:Bool)(s':Shared):Prop:=∃ H',Inv X pins σ H' s'/\Q b H'
def AP(X:Cx)(pins:List (Addr×Obj))(σ:St)(Q:List V->Hp->Prop)(us:List Value)(s':Shared):Prop:=∃ vs H',Inv X pins σ H' s'/\Vals vs us/\Q vs H'
def SP(X:Cx)(pins:List (Addr×Obj))(D:Oa)(f:Flow)(s':Shared):Prop :=
 match f with
 | .next=>∃ σ' H',Inv X pins σ' H' s'/\D.nx σ' H'
 | .brk=>∃ σ' H',Inv X pins σ' H' s'/\D.bk σ' H'
 | .cont=>∃ σ' H',Inv X pins σ' H' s'/\D.ct σ' H'
 | .ret u=>∃ v σ' H',Inv X pins σ' H' s'/\RelV v u/\D.rt v H'
def PE(X:Cx)(e:Expr)(t:TE):Prop :=
 ∀ (pins:List (Addr×Obj)) (s:Shared) (σ:St) (H:Hp) (Q:VK),Inv X pins σ H s->t σ H Q->wpAny (model X.prog X.w) X.A (eval e X.env) (EP X pins σ Q) X.xe s
def PT(X:Cx)(e:Expr)(t:TT):Prop :=
 ∀ (pins:List (Addr×Obj)) (s:Shared) (σ:St) (H:Hp) (Q:Bool->Hp->Prop),Inv X pins σ H s->t σ H Q->wpAny (model X.prog X.w) X.A (isTrue e X.env (eval e X.env)) (TP X pins σ Q) X.xe s
def PW(X:Cx)(e:Expr)(t:TT):Prop :=
 ∀ (whole:Sem Value) (pins:List (Addr×Obj)) (s:Shared) (σ:St) (H:Hp) (Q:Bool->Hp->Prop),Inv X pins σ H s->t σ H Q->wpAny (model X.prog X.w) X.A (isTrue e X.env whole) (TP X pins σ Q) X.xe s
theorem PW.pt(h:PW X e t):PT X e t:=h _
def PA(X:Cx)(es:List Expr)(t:TA):Prop :=
 ∀ (pos:Pos) (pins:List (Addr×Obj)) (s:Shared) (σ:St) (H:Hp) (Q:List V->Hp->Prop),Inv X pins σ H s->t σ H Q->wpAny (model X.prog X.w) X.A (spliced (backTo pos (starEach es X.env))) (AP X pins σ Q) X.xe s
def PS(X:Cx)(st:Stmt)(t:TS):Prop :=
 ∀ (pins:List (Addr×Obj)) (s:Shared) (σ:St) (H:Hp) (D:Oa),Inv X pins σ H s->t D σ H->wpAny (model X.prog X.w) X.A (exec st X.env) (SP X pins D) X.xe s
def PSs(X:Cx)(st:List Stmt)(t:TS):Prop :=
 ∀ (pins:List (Addr×Obj)) (s:Shared) (σ:St) (H:Hp) (D:Oa),Inv X pins σ H s->t D σ H->wpAny (model X.prog X.w) X.A (execs st X.env) (SP X pins D) X.xe s
theorem thn(h:wpAny M A t Q E s)(hQ:∀ a s,Q a s->Q' a s):wpAny M A t Q' E s:=wpAny_mono h hQ fun _ _ x=>x
section
variable{X:Cx}
inductive tVar(i:Nat)(σ:L2.St)(H:Hp)(Q:VK):Prop where
 | mk(v)(_:σ[i]?=some (some v))(_:Q v H)
def tC(v:V):TE:=fun _ H Q=>Q v H
theorem zf0(hN:X.N[i]?=some x)(hv:Vis X.env.scope x)(hd:(x == ("__debug__":Str))=false:=by decide)(hcd:(x == ("__classdict__":Str))=false:=by decide):PE X (.Name x pos) (tVar i):=by
 intro pins s σ H Q I h;obtain⟨v,e,h⟩:=h;obtain⟨m,hn,hl⟩:=I.loc;obtain⟨u,r,l⟩:=hl i x v hN (.inl e) hv;have fin:EP X pins σ Q u s:=⟨v,H,I,r,h⟩;rcases l with ⟨hk,hm⟩|⟨hk,c,hc,hcell⟩
 ·exact wpAny_Name (wpAny_loadName_local I.ok.kind hk hn hm fin) hd
 ·rcases hk with hk|hk
  ·exact wpAny_Name (wpAny_loadName_cell I.ok.kind hk hc hcell fin) hd
  ·exact wpAny_Name (wpAny_loadName_free I.ok.kind hk hc hcell fin hcd) hd
theorem Zh{i j pos}:PE X (.Constant (.int i) j pos) (tC (.int i)):=fun _ _ _ H _ I h=>wpAny_Constant_int ⟨.int i,H,I.tok _,⟨_,rfl⟩,h⟩
theorem X1{b j pos}:PE X (.Constant (.bool b) j pos) (tC (.bl b)):=fun _ _ _ H _ I h=>Constant_bool ⟨.bl b,H,I,rfl,h⟩
theorem Yu{j pos}:PE X (.Constant .none j pos) (tC .non):=fun _ _ _ H _ I h=>Constant_none ⟨.non,H,I,rfl,h⟩
theorem Zs{x j pos}:PE X (.Constant (.str x) j pos) (tC (.str x)):=fun _ _ _ H _ I h=>Calls.Constant_str ⟨.str x,H,I.tok _,⟨_,rfl⟩,h⟩
def Gl(X:Cx)(x:Str):Prop:=X.env.kindOf x=some .globalImplicit
theorem Qj(I:Inv X pins σ H s)(hg:Gl X x)(hm:X.mg x=some u)(h:Q u s)
  (hd:(x == ("__debug__":Str))=false:=by decide):wpAny (model X.prog X.w) X.A (eval (.Name x pos) X.env) Q E s :=
 Calls.Name_function_global I.ok.kind hg (Calls.loadGlobal_global (by rw[I.ok.glob];exact I.mod.glob.keeps I.bk) hm h) hd
theorem Q8(I:Inv X pins σ H s)(hg:Gl X x)(hm:X.mg x=none)(hv:bootBuiltins x=some u)(h:Q u s)
  (hn:x≠"__name__":=by decide) (hd:(x == ("__debug__":Str))=false:=by decide):wpAny (model X.prog X.w) X.A (eval (.Name x pos) X.env) Q E s:=by
 obtain⟨mb,h1,h2⟩:=I.mod.blt;exact Calls.Name_function_global I.ok.kind hg (Calls.loadGlobal_builtin (by rw[I.ok.glob];exact I.mod.glob.keeps I.bk) hm (by rw[I.ok.blt];exact h1.keeps I.bk) ((h2 x hn).trans hv) h) hd
theorem B2(hg:Gl X x)(hm:X.mg x=some u)(r:RelV v u)(hd:(x == ("__debug__":Str))=false:=by decide):PE X (.Name x pos) (tC v) :=
 fun _ _ _ H _ I h=>Qj I hg hm ⟨v,H,I,r,h⟩ hd
theorem Va(hg:Gl X x)(hm:X.mg x=none)(hv:bootBuiltins x=some u)(r:RelV v u)(hn:x≠"__name__":=by decide)(hd:(x == ("__debug__":Str))=false:=by decide):PE X (.Name x pos) (tC v) :=
 fun _ _ _ H _ I h=>Q8 I hg hm hv ⟨v,H,I,r,h⟩ hn hd
variable{a b:Expr}{ta tb:TE}{pos:Pos}
def PC(X:Cx)(op:CmpOp)(a b:Expr)(t:TE):Prop :=
 ∀ (pins:List (Addr×Obj)) (s:Shared) (σ:St) (H:Hp) (Q:VK),Inv X pins σ H s->t σ H Q ->
   wpAny (model X.prog X.w) X.A (eval a X.env) (fun v s₁=>wpAny (model X.prog X.w) X.A (eval b X.env) (fun u s₂=>wpAny (model X.prog X.w) X.A (compareOp op v u) (EP X pins σ Q) X.xe s₂) X.xe s₁) X.xe s
inductive tBI(Q:Bool->Hp->Prop)(x:V)(H1:Hp):Prop where
 | mk(c)(_:x=.bl c)(_:Q c H1)
def tB(t:TE):TT:=fun σ H Q=>t σ H fun x H1=>tBI Q x H1
theorem Q9(h:PC X op a b t)(h1:behindInMarks op b=false:=by first|exact nobehind _ ⋯ ⋯|rfl):PT X (.Compare a [op] [b] pos) (tB t):=by
 intro pins s σ H Q I hw;refine wpAny_isTrue_Compare1 (thn (h pins s σ H _ I hw) fun v s1 h1=>thn h1 fun u s2 h2=>thn h2 fun c s3 ⟨x,H1,I1,r1,q1⟩=>?_) h1;obtain⟨d,rfl,q⟩:=q1;cases r1;exact wpAny_truthy_bool ⟨H1,I1,q⟩
theorem Y4(h:PE X e t)(he:∀ whole,isTrue e X.env whole=(do let v <- whole;standAt e.pos;holding [v] (truthy v)):=by intro _;rfl):PT X e (tB t):=by
 intro pins s σ H Q I hw;refine isTrue_plain (thn (h pins s σ H _ I hw) fun v s1 ⟨x,H1,I1,r1,q1⟩=>?_) (he _);obtain⟨d,rfl,q⟩:=q1;cases r1;exact wpAny_truthy_bool ⟨H1,I1,q⟩
variable{tA tB':TT}{rest:List Expr}
def zhk(t u:TT):TT:=fun σ H Q=>t σ H fun c H1=>if c=true then u σ H1 Q else Q false H1
def tOr(t u:TT):TT:=fun σ H Q=>t σ H fun c H1=>if c=true then Q true H1 else u σ H1 Q
def zi7(t:TT):TT:=fun σ H Q=>t σ H fun c H1=>Q (!c) H1
theorem Qk(ha:PT X a tA):PW X (.BoolOp .And [a] pos) tA:=by
 intro wh pins s σ H Q I h;refine isTrue_and (thn (ha pins s σ H Q I h) fun c s1 e=>?_);cases c with
 | true=>exact isTrue_and_nil e
 | false=>exact e
theorem X2(ha:PT X a tA):PW X (.BoolOp .Or [a] pos) tA:=by
 intro wh pins s σ H Q I h;refine isTrue_or (thn (ha pins s σ H Q I h) fun c s1 e=>?_);cases c with
 | false=>exact isTrue_or_nil e
 | true=>exact e
theorem O5(ha:PT X a tA)(hb:PW X (.BoolOp .And (b :: rest) pos) tB'):PW X (.BoolOp .And (a :: b :: rest) pos) (zhk tA tB'):=by
 intro wh pins s σ H Q I h;refine isTrue_and (thn (ha pins s σ H _ I h) fun c s1 ⟨H1,I1,q1⟩=>?_);cases c with
 | true=>exact hb wh pins s1 σ H1 Q I1 q1
 | false=>exact⟨H1,I1,q1⟩
theorem Wl(ha:PT X a tA)(hb:PW X (.BoolOp .Or (b :: rest) pos) tB'):PW X (.BoolOp .Or (a :: b :: rest) pos) (tOr tA tB'):=by
 intro wh pins s σ H Q I h;refine isTrue_or (thn (ha pins s σ H _ I h) fun c s1 ⟨H1,I1,q1⟩=>?_);cases c with
 | true=>exact⟨H1,I1,q1⟩
 | false=>exact hb wh pins s1 σ H1 Q I1 q1
theorem Xa(ha:PT X a tA):PT X (.UnaryOp .Not a pos) (zi7 tA):=by
 intro pins s σ H Q I h;exact isTrue_not (ha pins s σ H (fun c H1=>Q (!c) H1) I h)
inductive zf1(tb:TE)(σ:L2.St)(Q:VK)(x:V)(H1:Hp):Prop where
 | mk(c)(_:x=.bl c)(_:if c=true then tb σ H1 Q else Q (.bl false) H1)
def zhl(ta tb:TE):TE:=fun σ H Q=>ta σ H fun x H1=>zf1 tb σ Q x H1
inductive zf2(Q:VK)(x:V)(H1:Hp):Prop where
 | mk(c)(_:x=.bl c)(_:Q (.bl (!c)) H1)
def zhm(ta:TE):TE:=fun σ H Q=>ta σ H fun x H1=>zf2 Q x H1
theorem G1{op}(h:PE X a t):PE X (.BoolOp op [a] pos) t:=fun pins s σ H Q I hw=>BoolOp_one (h pins s σ H Q I hw)
theorem Lu(ha:PE X a ta)(hb:PE X (.BoolOp .And (b :: rest) pos) tb):PE X (.BoolOp .And (a :: b :: rest) pos) (zhl ta tb):=by
 intro pins s σ H Q I h;refine BoolOp_and (thn (ha pins s σ H _ I h) fun v s1 ⟨x,H1,I1,r1,q1⟩=>?_);obtain⟨c,rfl,q1⟩:=q1;cases r1;refine wpAny_truthy_bool ?_;cases c with
 | true=>exact hb pins s1 σ H1 Q I1 q1
 | false=>exact⟨.bl false,H1,I1,rfl,q1⟩
theorem zf3(ha:PE X a ta):PE X (.UnaryOp .Not a pos) (zhm ta):=by
 intro pins s σ H Q I h;refine UnaryOp_ (thn (ha pins s σ H _ I h) fun v s1 ⟨x,H1,I1,r1,q1⟩=>?_);obtain⟨c,rfl,q1⟩:=q1;cases r1;exact not_of (wpAny_truthy_bool ⟨.bl (!c),H1,I1,rfl,q1⟩)
def tIf(t:TT)(ta tb:TE):TE:=fun σ H Q=>t σ H fun c H1=>if c=true then ta σ H1 Q else tb σ H1 Q
theorem Ea(hc:PT X c tA)(ha:PE X a ta)(hb:PE X b tb):PE X (.IfExp c a b pos) (tIf tA ta tb):=by
 intro pins s σ H Q I h;refine wpAny_IfExp (thn (hc pins s σ H _ I h) fun d s1 ⟨H1,I1,q1⟩=>?_);cases d with
 | true=>exact ha pins s1 σ H1 Q I1 q1
 | false=>exact hb pins s1 σ H1 Q I1 q1
end
def SqL(K:Frag)(H:Hp)(a:Addr)(xs:List V):Prop :=
 Rd H a (.lst xs) \/
  ∃ (o:Obj) (its:Array Value) (n:Nat),K.lookup a=some o/\o.cls=.type "list"/\o.dict=none/\o.data=.seq its n/\its.size<=sizeLine/\Vals xs its.toList
def SqT(K:Frag)(H:Hp)(a:Addr)(xs:List V):Prop :=
 Rd H a (.tup xs) \/
  ∃ (o:Obj) (its:Array Value) (n:Nat),K.lookup a=some o/\o.cls=.type "tuple"/\o.data=.seq its n/\its.size<=sizeLine/\Vals xs its.toList
def zi8:Value->Option V
 | .none=>some .non
 | .bool b=>some (.bl b)
 | .int i _=>some (.int i)
 | .str x _=>some (.str x)
 | .bytes b _=>some (.byt b)
 | .float b _=>some (.flt b)
 | .ref a=>some (.ref a)
 | .type n=>some (.ty n)
 | _=>none
theorem RelV.abs(r:RelV x u):zi8 u=some x:=by
 cases x with
 | non=>cases r;rfl
 | bl _=>cases r;rfl
 | int _=>obtain⟨t,rfl⟩:=r;rfl
 | str _=>obtain⟨t,rfl⟩:=r;rfl
 | byt _=>obtain⟨t,rfl⟩:=r;rfl
 | flt _=>obtain⟨t,rfl⟩:=r;rfl
 | ref _=>cases r;rfl
 | ty _=>cases r;rfl
theorem RelV.inj(r:RelV x u)(q:RelV y u):x=y:=Option.some.inj (r.abs.symm.trans q.abs)
theorem Vals.inj:∀ {xs ys:List V} {us:List Value},Vals xs us->Vals ys us->xs=ys
 | _,_,_,.nil,.nil=>rfl
 | _,_,_,.cons r t,.cons r' t'=>by rw[r.inj r',Vals.inj t t']
section
variable{X:Cx}{pins:List (Addr×Obj)}{σ:St}{H:Hp}{s:Shared}{a:Addr}{xs ys:List V}
theorem SqL.of{K:Frag}(h:H a=some (.lst xs)):SqL K H a xs:=.inl (.inl h)
theorem SqT.of{K:Frag}(h:H a=some (.tup xs)):SqT K H a xs:=.inl (.inl h)
theorem Inv.list(I:Inv X pins σ H s)(h:SqL X.K H a xs):∃ its:List Value,Vals xs its/\PlainL s.heap a its.toArray/\xs.length<=sizeLine:=by
 rcases h with h|⟨o,its,n,hk,hc,hd,hs,hz,r⟩
 ·obtain⟨z,its,n,r,e⟩:=h.ok I.hok;exact⟨its,r,⟨_,n,e,rfl,rfl,rfl⟩,z⟩
 ·refine⟨its.toList,r,⟨o,n,I.kIn a o hk,hc,hd,by simpa using hs⟩,?_⟩;have e:=r.length;simp only[Array.length_toList] at e;omega
theorem Inv.tuple(I:Inv X pins σ H s)(h:SqT X.K H a xs):∃ its:List Value,Vals xs its/\IsTup s.heap a its.toArray/\xs.length<=sizeLine:=by
 rcases h with h|⟨o,its,n,hk,hc,hs,hz,r⟩
 ·obtain⟨z,its,r,p⟩:=h.ok I.hok;exact⟨its,r,p,z⟩
 ·refine⟨its.toList,r,⟨o,I.kIn a o hk,hc,n,by simpa using hs⟩,?_⟩;have e:=r.length;simp only[Array.length_toList] at e;omega
theorem Inv.list_inj(I:Inv X pins σ H s)(h:SqL X.K H a xs)(h':SqL X.K H a ys):xs=ys:=by
 obtain⟨its,r,⟨o,n,e,_,_,d⟩,_⟩:=I.list h;obtain⟨its',r',⟨o',n',e',_,_,d'⟩,_⟩:=I.list h';rw[e] at e';cases e';rw[d] at d';injection d' with d1 _;have:its=its':=by simpa using congrArg Array.toList d1
 subst this;exact r.inj r'
theorem Inv.tuple_inj(I:Inv X pins σ H s)(h:SqT X.K H a xs)(h':SqT X.K H a ys):xs=ys:=by
 obtain⟨its,r,⟨o,e,_,n,d⟩,_⟩:=I.tuple h;obtain⟨its',r',⟨o',e',_,n',d'⟩,_⟩:=I.tuple h';rw[e] at e';cases e';rw[d] at d';injection d' with d1 _;have:its=its':=by simpa using congrArg Array.toList d1
 subst this;exact r.inj r'
end
section
variable{X:Cx}{st:Stmt}{rest:List Stmt}{t u:TS}{e:Expr}{te:TE}{pos:Pos}
def zb1:TS:=fun D σ H=>D.nx σ H
def Z5(t u:TS):TS:=fun D σ H=>t { D with nx:=u D } σ H
theorem Zp:PSs X [] zb1:=fun _ _ σ H _ I h=>wpAny_execs_nil ⟨σ,H,I,h⟩
theorem Zc(h1:PS X st t)(h2:PSs X rest u):PSs X (st :: rest) (Z5 t u):=by
 intro pins s σ H D I h;refine wpAny_execs_cons (thn (h1 pins s σ H { D with nx:=u D } I h) fun f s1 q=>?_);cases f with
 | next =>
   obtain⟨σ',H',I',q⟩:=q;exact h2 pins s1 σ' H' D I' q
 | ret v=>exact q
 | brk=>exact q
 | cont=>exact q
theorem Ze(h1:PS X st t):PSs X [st] t:=by
 intro pins s σ H D I h;refine wpAny_execs_cons (thn (h1 pins s σ H D I h) fun f s1 q=>?_);cases f with
 | next=>exact wpAny_execs_nil q
 | ret v=>exact q
 | brk=>exact q
 | cont=>exact q
theorem Inv.quiet(I:Inv X pins σ H s):interactive X.env=false:=by simp[interactive,I.ok.kind]
def zhn(te:TE):TS:=fun D σ H=>te σ H fun _ H1=>D.nx σ H1
theorem Z6(he:PE X e te)(hs:swapsWith e none pos.line X.env=pure false:=by rfl):PS X (.Expr e pos) (zhn te):=by
 intro pins s σ H D I h;exact wpAny_Expr_any (thn (he pins s σ H _ I h) fun v s1 ⟨x,H1,I1,r1,q1⟩=>⟨σ,H1,I1,q1⟩) I.quiet hs
def zi9(te:TE):TS:=fun D σ H=>te σ H D.rt
theorem Zn(he:PE X e te):PS X (.Return (some e) pos) (zi9 te):=by
 intro pins s σ H D I h;exact wpAny_Return_some (thn (he pins s σ H _ I h) fun v s1 ⟨x,H1,I1,r1,q1⟩=>⟨x,σ,H1,I1,r1,q1⟩)
def zf4(c:TT)(t u:TS):TS:=fun D σ H=>c σ H fun b H1=>if b=true then t D σ H1 else u D σ H1
theorem Zz(hc:PT X c tc)(ha:PSs X a t)(hb:PSs X b u):PS X (.If c a b pos) (zf4 tc t u):=by
 intro pins s σ H D I h;refine wpAny_If (thn (hc pins s σ H _ I h) fun d s1 ⟨H1,I1,q1⟩=>?_);cases d with
 | true=>exact ha pins s1 σ H1 D I1 q1
 | false=>exact hb pins s1 σ H1 D I1 q1
end
abbrev TG:=V->St->Hp->(St->Hp->Prop)->Prop
abbrev TGs:=List V->St->Hp->(St->Hp->Prop)->Prop
def PG(X:Cx)(target:Expr)(t:TG):Prop :=
 ∀ (pins:List (Addr×Obj)) (s:Shared) (σ:St) (H:Hp) (v:V) (u:Value) (Q:St->Hp->Prop),Inv X pins σ H s->RelV v u->t v σ H Q ->
   wpAny (model X.prog X.w) X.A (assign target X.env u) (fun _ s'=>∃ σ' H',Inv X pins σ' H' s'/\Q σ' H') X.xe s
def PGs(X:Cx)(ts:List Expr)(t:TGs):Prop :=
 ∀ (pins:List (Addr×Obj)) (s:Shared) (σ:St) (H:Hp) (vs:List V) (us:List Value) (Q:St->Hp->Prop),Inv X pins σ H s->Vals vs us->t vs σ H Q ->
   wpAny (model X.prog X.w) X.A (assignInOrder ((assignEach ts X.env).map (·.2)) us) (fun _ s'=>∃ σ' H',Inv X pins σ' H' s'/\Q σ' H') X.xe s
abbrev zho:=V->V->V->Hp->(Hp->Prop)->Prop
def zhp(X:Cx)(t:zho):Prop :=
 ∀ (pins:List (Addr×Obj)) (s:Shared) (σ:St) (H:Hp) (o i v:V) (ov iv u:Value) (Q:Hp->Prop),Inv X pins σ H s->RelV o ov->RelV i iv->RelV v u->t o i v H Q ->
   wpAny (model X.prog X.w) X.A (setItem ov iv u) (fun _ s'=>∃ H',Inv X pins σ H' s'/\Q H') X.xe s
section
variable{X:Cx}{pos:Pos}
def Vb(i:Nat):TG:=fun v σ H Q=>Q (σ.set i (some v)) H
theorem Xy(hN:X.N.Nodup)(hi:X.N[i]?=some x)(hx:Loc X.env.scope x)(hf:Cq X i x:=by first|exact⟨.inl rfl,Xq⟩|exact⟨.inr rfl,Xq⟩|assumption|exact⟨.inl rfl,by assumption⟩|exact⟨.inr rfl,by assumption⟩):PG X (.Name x pos) (Vb i):=by
 intro pins s σ H v u Q I r h;exact wpAny_assign_Name (Ls I hN hi hx r (fun s' I'=>⟨_,H,I',h⟩) hf)
def zja:TGs:=fun vs σ H Q=>vs=[]/\Q σ H
def zhq(t:TG)(u:TGs):TGs:=fun vs σ H Q=>∃ v r,vs=v :: r/\t v σ H fun σ' H'=>u r σ' H' Q
theorem Wq:PGs X [] zja:=by
 intro pins s σ H vs us Q I r h;obtain⟨e,h⟩:=h;subst e;cases r;exact assignInOrder_nil ⟨σ,H,I,h⟩
theorem Z1(h1:PG X e t)(h2:PGs X es u)
  (hs:(assignEach (e :: es) X.env).map (·.2)=assign e X.env :: (assignEach es X.env).map (·.2):=by rfl):PGs X (e :: es) (zhq t u):=by
 intro pins s σ H vs us Q I r h;obtain⟨v,vr,e1,h⟩:=h;subst e1;cases r with
 | cons r rr =>
   rw[hs];refine assignInOrder_cons (thn (h1 pins s σ H _ _ _ I r h) fun _ s1 ⟨σ1,H1,I1,q1⟩=>?_);exact h2 pins s1 σ1 H1 _ _ Q I1 rr q1
def zhr(K:Frag)(n:Nat)(t:TGs):TG:=fun v σ H Q=>∃ a xs,v=.ref a/\SqT K H a xs/\xs.length=n/\t xs σ H Q
theorem zf5(hc:X.calm=true)(h:PGs X es t)
  (hn:(assignEach es X.env).length=n:=by rfl) (hst:(assignEach es X.env).findIdx? (·.1)=none:=by rfl):PG X (.Tuple es k pos) (zhr X.K n t):=by
 intro pins s σ H v u Q I r hw;obtain⟨a,xs,e1,hq,hl,hw⟩:=hw;subst e1;cases r;obtain⟨its,rv,ht,hz⟩:=I.tuple hq;refine assign_Tuple_tuple (I.ok.hd hc) ht (by simp[hn,<- hl,rv.length]) hst fun h' hx=>?_;have I1:Inv X pins σ H { s with heap:=h' }:=I.kept (t':=s.toks) fun b o e=>hx b o (ztv (Heap.lt_size e)) e;exact h pins _ σ H xs _ Q I1 (by simpa using rv) hw
def zjb(to ti:TE)(t:zho):TG:=fun v σ H Q=>to σ H fun o H1=>ti σ H1 fun i H2=>t o i v H2 fun H3=>Q σ H3
theorem zb2(ho:PE X o to)(hi:PE X i ti)(hs:zhp X t)
  (ha:∀ v,assign (.Subscript o i pos) X.env v=(do
   let ov <- holding [v] (eval o X.env)
   let iv <- holding [v,ov] (eval i X.env)
   standAt pos
   holding [v,ov,iv] (setItem ov iv v)
   release [v,ov,iv] []):=by intro _;rfl):PG X (.Subscript o i pos) (zjb to ti t):=by
 intro pins s σ H v u Q I r h;rw[ha];refine wpAny_bind (wpAny_holding (thn (ho pins s σ H _ I h) fun ov s1 ⟨x,H1,I1,r1,q1⟩=>?_));refine wpAny_bind (wpAny_holding (thn (hi pins s1 σ H1 _ I1 q1) fun iv s2 ⟨y,H2,I2,r2,q2⟩=>?_));refine wpAny_bind (wpAny_standAt (wpAny_bind (wpAny_holding (thn (hs pins s2 σ H2 x y v ov iv u _ I2 r1 r2 r q2) fun _ s3 ⟨H3,I3,q3⟩=>?_))));exact wpAny_release ⟨σ,H3,I3,q3⟩
def Cr(te:TE)(g:TG):TS:=fun D σ H=>te σ H fun x H1=>g x σ H1 D.nx
theorem Cs(he:PE X e te)(hg:PG X tg g)(hs:swapsWithSole [tg] e pos.line X.env=pure false:=by rfl)(hw:swappedStores [tg] e X.env=pure none:=by rfl)
  (h1:(assignEach [tg] X.env).map (·.2)=[assign tg X.env]:=by rfl):PS X (.Assign [tg] e pos) (Cr te g):=by
 intro pins s σ H D I h;refine wpAny_Assign_stores (thn (he pins s σ H _ I h) fun v s1 ⟨x,H1,I1,r1,q1⟩=>?_) hs hw;rw[h1];exact thn (hg pins s1 σ H1 x v _ I1 r1 q1) fun _ s2 q=>q
theorem zf6(hN:X.N.Nodup)(hi:X.N[i]?=some x)(hx:Loc X.env.scope x)(he:PE X e te)(hs:swapsWith e (some (.Name x pos')) pos.line X.env=pure false:=by rfl)(hf:Cq X i x:=by first|exact⟨.inl rfl,Xq⟩|exact⟨.inr rfl,Xq⟩|assumption|exact⟨.inl rfl,by assumption⟩|exact⟨.inr rfl,by assumption⟩) :
  PS X (.Assign [.Name x pos'] e pos) (Cr te (Vb i)):=by
 intro pins s σ H D I h;refine wpAny_Assign_Name (thn (he pins s σ H _ I h) fun v s1 ⟨y,H1,I1,r1,q1⟩=>?_) hs;exact Ls I1 hN hi hx r1 (fun s2 I2=>⟨_,H1,I2,q1⟩) hf
end
section
variable{X:Cx}{pos:Pos}
def zb3(c:TT)(tb:TS):TS:=fun D σ H=>∃ W:Nat->St->Hp->Prop,(∃ m,W m σ H)/\∀ m σ H,W m σ H ->
 c σ H fun b H1=>if b=true then ∃ N:St->Hp->Prop,(∀ σ' H',N σ' H'->∃ m',m' < m/\W m' σ' H')/\tb { D with nx:=N,ct:=N,bk:=D.nx } σ H1 else D.nx σ H1
theorem Eb(hp:PassesOwn (model X.prog X.w) X.A X.env X.xe)(hc:PT X c tc)(hb:PSs X body tb):PS X (.While c body [] pos) (zb3 tc tb):=by
 intro pins s σ H D I h;obtain⟨W,⟨m0,w0⟩,turn⟩:=h;refine wpAny_While (codeAny_whileLoop (fun n s'=>∃ σ' H',Inv X pins σ' H' s'/\W n σ' H') ?_ m0 ⟨σ,H,I,w0⟩);rintro n s1 ⟨σ1,H1,I1,w1⟩;refine wpAny_passesOwn hp (thn (hc pins s1 σ1 H1 _ I1 (turn n σ1 H1 w1)) fun b s2 ⟨H2,I2,q2⟩=>?_);cases b with
 | true =>
   obtain⟨N,hN,q2⟩:=q2;rw[if_pos rfl];refine wpAny_passesOwn hp (thn (hb pins s2 σ1 H2 _ I2 q2) fun f s3 q3=>?_);cases f with
   | next =>
     obtain⟨σ3,H3,I3,n3⟩:=q3;obtain⟨m',hm,w3⟩:=hN σ3 H3 n3;exact⟨m',hm,σ3,H3,I3,w3⟩
   | cont =>
     obtain⟨σ3,H3,I3,n3⟩:=q3;obtain⟨m',hm,w3⟩:=hN σ3 H3 n3;exact⟨m',hm,σ3,H3,I3,w3⟩
   | brk=>exact q3
   | ret v=>exact q3
 | false =>
   rw[if_neg zti];exact wpAny_execs_nil ⟨σ1,H2,I2,q2⟩
end
structure It where
 go:Nat->Hp->Prop
 yld:Nat->Hp->V->Hp->Prop
 stop:Nat->Hp->Prop
def FpOk(X:Cx)(pins:List (Addr×Obj))(H:Hp)(b:Addr):Prop :=
 H b=none/\b≠X.env.locals/\b∉X.fs/\(b∈X.ex\/X.s₀.heap.objs.size<=b)/\(∀ x c,X.env.cells.lookup x=some c->c≠b)/\∀ p∈X.pn++pins,p.1≠b
theorem Inv.fpOk(I:Inv X pins σ H s)(hb:s.heap.objs.size<=b)(hn:H' b=none):FpOk X pins H' b:=by
 refine⟨hn,Nat.ne_of_gt (ztm I.lt hb),I.nofs hb,.inr (zto I.sz hb),fun x c e z=>?_,fun p hp z=>?_⟩
 ·obtain⟨v,q⟩:=I.cell x c e;exact absurd (ztm q.lt (by rw[z];exact hb)) (zuk _)
 ·exact absurd (ztm (Heap.lt_size (I.pin p hp).1) (by rw[z];exact hb)) (zuk _)
structure Ec(P:Program)(w:World)(K:Frag)(tg:Expr)(J:It)(fp:List Addr)(it:Addr)(tn:Nat->Heap->Prop):Prop where
 mem:it∈fp
 obj:∀ i h,tn i h->∀ b∈fp,∃ o,h.get? b=some o/\∀ v,o.data≠.cell v
 keep:∀ i h h',tn i h->(∀ b∈fp,∀ o,h.get? b=some o->h'.get? b=some o)->tn i h'
 item:∀ (X:Cx),X.prog=P->X.w=w->X.K=K->X.calm=true->∀ (i:Nat) (pins:List (Addr×Obj)) (s:Shared) (σ:St) (H:Hp) (E:Value->Shared->Prop),Inv X pins σ H s->(∀ b∈fp,FpOk X pins H b)->tn i s.heap->J.go i H ->
  wpAny (model P w) X.A (pyNext (.ref it)) (fun r s1=>∃ u,r=some u /\
   wpAny (model P w) X.A (letOwnedTupleGo tg (.ref it) u) (fun _ s2=>∃ x H',Inv X pins σ H' s2/\RelV x u/\J.yld i H x H'/\tn (i+1) s2.heap/\∀ b∈fp,H' b=none) E s1) E s
 done:∀ (X:Cx),X.prog=P->X.w=w->X.K=K->X.calm=true->∀ (i:Nat) (pins:List (Addr×Obj)) (s:Shared) (σ:St) (H:Hp) (E:Value->Shared->Prop),Inv X pins σ H s->(∀ b∈fp,FpOk X pins H b)->tn i s.heap->J.stop i H ->
  wpAny (model P w) X.A (pyNext (.ref it)) (fun r s1=>r=none/\Inv X pins σ H s1) E s
 self:∀ (A:Around) (i:Nat) (s:Shared) (Q:Value->Shared->Prop) (E:Value->Shared->Prop),tn i s.heap->Q (.ref it) s->wpAny (model P w) A (pyIter (.ref it)) Q E s
abbrev TI:=St->Hp->(It->Hp->Prop)->Prop
def PIE(X:Cx)(pins:List (Addr×Obj))(σ:St)(tg:Expr)(R:It->Hp->Prop)(itv:Value)(s2:Shared):Prop :=
 ∃ (it:Addr) (fp:List Addr) (tn:Nat->Heap->Prop) (J:It) (H':Hp),itv=.ref it/\Inv X pins σ H' s2/\Ec X.prog X.w X.K tg J fp it tn/\tn 0 s2.heap/\(∀ b∈fp,FpOk X pins H' b)/\R J H'
def PI(X:Cx)(tg iter:Expr)(wi:TI):Prop :=
 ∀ (pins:List (Addr×Obj)) (s:Shared) (σ:St) (H:Hp) (R:It->Hp->Prop),Inv X pins σ H s->wi σ H R ->
   wpAny (model X.prog X.w) X.A (eval iter X.env) (fun v s1=>wpAny (model X.prog X.w) X.A (pyIter v) (PIE X pins σ tg R) X.xe s1) X.xe s
theorem zb4(ho:s.heap.get? it=some o)(hc:o.cls=.type n)(hd:o.data=.fields vs)
  (hn:["enumerate","zip","dict_itemiterator","dict_reverseitemiterator","odict_iterator","itertools.zip_longest","itertools.pairwise"].contains n=false) (hQ:Q () s):wpAny M A (letOwnedTupleGo tg (.ref it) u) Q E s:=by
 unfold letOwnedTupleGo;cases tg<;>first
  | exact wpAny_pure hQ
  | (cases u<;>first
    | exact wpAny_pure hQ
    | (refine wpAny_bind (wpAny_load ho ?_)
       rw[hc,hd];show wpAny M A (if (["enumerate","zip","dict_itemiterator","dict_reverseitemiterator","odict_iterator","itertools.zip_longest","itertools.pairwise"].contains n&&vs[0]? == some (rawInt _))=true then _ else _) Q E s;rw[if_neg (by intro h;rw[hn,Bool.false_and] at h;cases h)];exact wpAny_pure hQ))
def Itl(K:Frag)(a:Addr):It :=
 ⟨fun i H=>∃ xs x,SqL K H a xs/\xs[i]?=some x,fun i H x H'=>H'=H/\∀ xs,SqL K H a xs->xs[i]?=some x,fun i H=>∃ xs,SqL K H a xs/\xs.length<=i⟩
def Itr(lo:Int)(n:Nat):It:=⟨fun i _=>i<n,fun i H x H'=>H'=H/\x=.int (lo+i),fun i _=>n<=i⟩
theorem zah{P:Program}{w:World}{K:Frag}{tg:Expr}(a it:Addr):Ec P w K tg (Itl K a) [it] it (fun i h=>h.IsListIter it a i) where
 mem:=by simp
 obj:=fun i h st b hb=>by
  have e:b=it:=by simpa using hb
  subst e;obtain⟨o,e,c,d⟩:=st;exact⟨o,e,fun v z=>by rw[d] at z;cases z⟩
 keep:=fun i h h' st k=>st.at fun o e=>k it (by simp) o e
 item:=by
  intro X hP hw hK hc i pins s σ H E I hf st hg;subst hP hw hK;obtain⟨xs,x,hq,hx⟩:=hg;obtain⟨its,rv,p,hz⟩:=I.list hq;obtain⟨u,hu,ru⟩:=rv.get hx;obtain⟨f0,f1,f2,f3,f4,f5⟩:=hf it (by simp);refine wpAny_pyNext_list_item st p.isList (x:=u) (by simpa using hu) fun h' st' sb=>?_;have I1:Inv X pins σ H { s with heap:=h' }:=I.turned (t':=s.toks) (fun b o hb e=>(sb.2 b hb).trans e) f0 f1 f3 f4 f5;obtain⟨o,e,c,d⟩:=id st';exact⟨u,rfl,zb4 (s:={ s with heap:=h' }) e c d ⋯ ⟨x,H,I1,ru,⟨rfl,fun ys hy=>by rw[I.list_inj hy hq];exact hx⟩,st',fun b hb=>(hf b hb).1⟩⟩
 done:=by
  intro X hP hw hK hc i pins s σ H E I hf st hg;subst hP hw hK;obtain⟨xs,hq,hx⟩:=hg;obtain⟨its,rv,p,hz⟩:=I.list hq;obtain⟨f0,f1,f2,f3,f4,f5⟩:=hf it (by simp);have hl:=rv.length;exact wpAny_pyNext_list_end (I.ok.hd hc) st p.isList (by simp;omega) fun h' eb=>⟨rfl,I.turned (t':=s.toks) (fun b o hb e=>eb b o hb e) f0 f1 f3 f4 f5⟩
 self:=fun _ _ _ _ _ st h=>wpAny_pyIter_listiter st h
theorem Ct{P:Program}{w:World}{K:Frag}{tg:Expr}(it:Addr)(lo:Int)(n:Nat):Ec P w K tg (Itr lo n) [it] it (fun i h=>IsRangeIter h it (lo+(i:Nat)*1) ((n:Int)-(i:Nat)) 1) where
 mem:=by simp
 obj:=fun i h st b hb=>by
  have e:b=it:=by simpa using hb
  subst e;exact⟨_,st,fun v z=>by
   have z':Data.fields _=Data.cell v:=z;cases z'⟩
 keep:=fun i h h' st k=>k it (by simp) _ st
 item:=by
  intro X hP hw hK hc i pins s σ H E I hf st hg;subst hP hw hK;obtain⟨f0,f1,f2,f3,f4,f5⟩:=hf it (by simp);have W:=Walks.range (prog:=X.prog) (w:=X.w) (I.ok.hd hc) it lo 1 n;refine W.item i s _ _ hg st fun v h' tk hv st' kk=>?_;obtain⟨t,rfl⟩:=hv;have I1:Inv X pins σ H { s with heap:=h',toks:=tk }:=I.turned (fun b o hb e=>kk b o (by simpa using hb) e) f0 f1 f3 f4 f5;refine⟨_,rfl,zb4 (s:={ s with heap:=h',toks:=tk }) (n:="range_iterator") st' rfl rfl ⋯ ⟨.int (lo+i),H,I1,⟨t,?_⟩,⟨rfl,rfl⟩,st',fun b hb=>(hf b hb).1⟩⟩;rw[Int.mul_one]
 done:=by
  intro X hP hw hK hc i pins s σ H E I hf st hg;subst hP hw hK;obtain⟨f0,f1,f2,f3,f4,f5⟩:=hf it (by simp);exact wpAny_pyNext_range_end (I.ok.hd hc) st (by have:n<=i:=hg;omega) fun h' eb=>⟨rfl,I.turned (t':=s.toks) (fun b o hb e=>eb b o hb e) f0 f1 f3 f4 f5⟩
 self:=fun _ _ _ _ _ st h=>wpAny_pyIter_rangeiter st h
section
variable{X:Cx}{tg:Expr}
inductive zf7(K:Frag)(R:It->Hp->Prop)(x:V)(H1:Hp):Prop where
 | mk(a)(_:x=.ref a)(_:(∃ xs,SqL K H1 a xs))(_:R (Itl K a) H1)
def zfh(K:Frag)(tl:TE):TI:=fun σ H R=>tl σ H fun x H1=>zf7 K R x H1
theorem zed{l:Expr}{tl:TE}(hl:PE X l tl):PI X tg l (zfh X.K tl):=by
 intro pins s σ H R I h;refine thn (hl pins s σ H _ I h) fun v s1 ⟨x,H1,I1,r1,q1⟩=>?_;obtain⟨a,e,⟨xs,hq⟩,q⟩:=q1;subst e;cases r1;obtain⟨its,rv,p,hz⟩:=I1.list hq;refine wpAny_pyIter_list p.isList ?_;refine⟨s1.heap.objs.size,[s1.heap.objs.size],_,_,H1,rfl,I1.kept (t':=s1.toks) fun b o e=>Heap.get?_push_of_some _ e,zah a _,⟨_,Heap.get?_push_size _ rfl,rfl,rfl⟩,fun b hb=>?_,q⟩;have e:b=s1.heap.objs.size:=by simpa using hb
 subst e;exact I1.fpOk (ztb _) (I1.hok.fresh (ztb _))
theorem Ed{pins:List (Addr×Obj)}{σ:St}{H:Hp}{s:Shared}{R:It->Hp->Prop}{E:Value->Shared->Prop}{lo hi:Int}{t u v:Tok}{tk:Nat}(I:Inv X pins σ H s)(h1:-(2 ^ 62)<=lo)(h2:lo<2 ^ 62)(h3:-(2 ^ 62)<=hi)(h4:hi<2 ^ 62)
  (q:R (Itr lo (hi-lo).toNat) H):wpAny (model X.prog X.w) X.A (pyIter (.ref s.heap.objs.size)) (PIE X pins σ tg R) E { s with heap:=s.heap.push { cls:=.type "range",data:=.fields #[.int lo t,.int hi u,.int 1 v] },toks:=tk }:=by
 refine wpAny_pyIter_range (IsRange.new ..) (small_one h1 h2 h3 h4) ?_;have I1:Inv X pins σ H { s with heap:=s.heap.push { cls:=.type "range",data:=.fields #[.int lo t,.int hi u,.int 1 v] },toks:=tk }:=I.kept fun b o e=>Heap.get?_push_of_some _ e;refine⟨(s.heap.push { cls:=.type "range",data:=.fields #[.int lo t,.int hi u,.int 1 v] }).objs.size,[(s.heap.push { cls:=.type "range",data:=.fields #[.int lo t,.int hi u,.int 1 v] }).objs.size],_,_,H,rfl,
  I1.kept (t':=tk) fun b o e=>Heap.get?_push_of_some _ e,Ct _ lo (hi-lo).toNat,?_,fun b hb=>?_,q⟩
 ·have e1:lo+((0:Nat):Int)*1=lo:=by simp
  have e2:(((hi-lo).toNat:Nat):Int)-((0:Nat):Int)=Builtin.Range.rangeSize lo hi 1:=by rw[rangeSize_one];split<;>omega
  show IsRangeIter _ _ (lo+((0:Nat):Int)*1) ((((hi-lo).toNat:Nat):Int)-((0:Nat):Int)) 1;rw[e1,e2];exact Heap.get?_push_size _ rfl
 ·have e:b=(s.heap.push { cls:=.type "range",data:=.fields #[.int lo t,.int hi u,.int 1 v] }).objs.size:=by simpa using hb
  subst e;exact I1.fpOk (ztb _) (I1.hok.fresh (ztb _))
def zhs(ta:TA):TI:=fun σ H R=>ta σ H fun vs H1=>∃ j:Int,vs=[.int j]/\-(2 ^ 62)<=j/\j<2 ^ 62/\R (Itr 0 j.toNat) H1
def zht(ta:TA):TI:=fun σ H R=>ta σ H fun vs H1=>∃ i j:Int,vs=[.int i,.int j]/\(-(2 ^ 62)<=i/\i<2 ^ 62/\-(2 ^ 62)<=j/\j<2 ^ 62)/\R (Itr i (j-i).toNat) H1
theorem Wd{a:Expr}{ta:TA}{p pos:Pos}(hg:Gl X "range")(hm:X.mg "range"=none)(ha:PA X [a] ta)(hs:starEach [a] X.env=[(false,eval a X.env)]:=by rfl):PI X tg (.Call (.Name "range" p) [a] [] pos) (zhs ta):=by
 intro pins s σ H R I h;refine Call_ (Q8 I hg hm boot_range (PyProof.Rows.callWith_type1 (thn (ha pos pins s σ H _ I h) fun us s1 ⟨vs,H1,I1,r1,q1⟩=>?_) hs rfl));obtain⟨j,e,q1,q2,q⟩:=q1;subst e;cases r1 with
 | cons r rr =>
   cases rr;obtain⟨t,rfl⟩:=r;exact call_range_1 (Ed I1 ⋯ ⋯ q1 q2 (by simpa using q))
theorem Iv(hg:Gl X "range")(hm:X.mg "range"=none)(ha:PA X [a,b] ta)(hs:starEach [a,b] X.env=[(false,eval a X.env),(false,eval b X.env)]:=by rfl)(hs2:starEach [b] X.env=[(false,eval b X.env)]:=by rfl) :
  PI X tg (.Call (.Name "range" p) [a,b] [] pos) (zht ta):=by
 intro pins s σ H R I h;refine Call_ (Q8 I hg hm boot_range (PyProof.Rows.callWith_type1 (thn (ha pos pins s σ H _ I h) fun us s1 ⟨vs,H1,I1,r1,q1⟩=>?_) (by rw[hs,hs2]) (by rw[hs2];rfl)));obtain⟨i,j,e,⟨q1,q2,q3,q4⟩,q⟩:=q1;subst e;cases r1 with
 | cons r rr =>
   cases rr with
   | cons r' rr =>
     cases rr;obtain⟨t,rfl⟩:=r;obtain⟨t',rfl⟩:=r';exact call_range_2 (Ed I1 q1 q2 q3 q4 q)
def zf8(wi:TI)(g:TG)(tb:TS):TS:=fun D σ H=>wi σ H fun J H1=>∃ W:Nat->Nat->St->Hp->Prop,(∃ m,W 0 m σ H1)/\∀ i m σ H,W i m σ H ->
 (J.stop i H/\D.nx σ H)\/(J.go i H/\∃ N:St->Hp->Prop,(∀ σ' H',N σ' H'->∃ m',m' < m/\W (i+1) m' σ' H')/\∀ x H',J.yld i H x H'->g x σ H' fun σ2 H2=>tb { D with nx:=N,ct:=N,bk:=D.nx } σ2 H2)
def O6(fp:List Addr)(h:Heap):List (Addr×Obj):=fp.filterMap fun b=>(h.get? b).map fun o=>(b,o)
theorem So(hb:b∈fp)(e:h.get? b=some o):(b,o)∈O6 fp h:=zum.mpr ⟨b,hb,by rw[e];rfl⟩
theorem zai(hp:p∈O6 fp h):p.1∈fp/\h.get? p.1=some p.2:=by
 obtain⟨b,hb,e⟩:=zum.mp hp;cases q:h.get? b with
 | none=>rw[q] at e;cases e
 | some o =>
   rw[q] at e;have e':(b,o)=p:=Option.some.inj e;subst e';exact⟨hb,q⟩
theorem Inv.pinned(I:Inv X pins σ H s)(hf:∀ b∈fp,FpOk X pins H b)(ho:∀ b∈fp,∃ o,s.heap.get? b=some o/\∀ v,o.data≠.cell v):Inv X (pins++O6 fp s.heap) σ H s :=
 I.pins_of fun p hp=>(zth.mp hp).elim (fun z=>I.pin p (ztw _ z)) fun z=>by
  obtain⟨hb,e⟩:=zai z;obtain⟨f0,f1,f2,_⟩:=hf p.1 hb;obtain⟨o,e',d⟩:=ho p.1 hb;rw[e] at e';cases e';exact⟨e,f0,f1,f2,d⟩
theorem Inv.unpinned(I:Inv X (pins++pl) σ H s):Inv X pins σ H s:=I.pins_of fun p hp=>I.pin p (ztw _ (zty _ hp))
theorem Xf(hp:PassesOwn (model X.prog X.w) X.A X.env X.xe)(hc:X.calm=true)(hi:PI X tg iter wi)(hg:PG X tg g)(hb:PSs X body tb)
  (hs:∀ x,foldedSetIterable iter X.env x=pure x:=by intro _;rfl):PS X (.For tg iter body [] pos) (zf8 wi g tb):=by
 intro pins s σ H D I h;refine wpAny_For (thn (hi pins s σ H _ I h) fun v s1 h1=>thn h1 fun itv s2 h2=>?_) hs;obtain⟨it,fp,tn,J,H2,e,I2,T,st2,f2,W,⟨m0,w0⟩,turn⟩:=h2;subst e;have stat:∀ {H':Hp},(∀ b∈fp,H' b=none)->∀ b∈fp,FpOk X pins H' b:=fun hn b hb=>⟨hn b hb,(f2 b hb).2⟩
 refine codeAny_forLoop_any (fun n s'=>∃ i σ' H',Inv X pins σ' H' s'/\tn i s'.heap/\(∀ b∈fp,H' b=none)/\W i n σ' H') ?_ m0 ⟨0,σ,H2,I2,st2,fun b hb=>(f2 b hb).1,w0⟩;rintro n s3 ⟨i,σ3,H3,I3,st3,fr3,w3⟩;rcases turn i n σ3 H3 w3 with ⟨stop,qn⟩|⟨go,N,hN,step⟩
 ·refine wpAny_passesOwn hp (thn (T.done X rfl rfl rfl hc i pins s3 σ3 H3 X.xe I3 (stat fr3) st3 stop) fun r s4 ⟨hr,I4⟩=>?_);subst hr;exact wpAny_execs_nil ⟨σ3,H3,I4,qn⟩
 ·refine wpAny_passesOwn hp (thn (T.item X rfl rfl rfl hc i pins s3 σ3 H3 X.xe I3 (stat fr3) st3 go) fun r s4 ⟨u,hr,h4⟩=>?_);subst hr;refine wpAny_passesOwn hp (thn h4 fun _ s5 ⟨x,H5,I5,r5,y5,st5,fr5⟩=>?_);have I5':=I5.pinned (stat fr5) (T.obj _ _ st5);refine wpAny_passesOwn hp (thn (hg _ s5 σ3 H5 x u _ I5' r5 (step x H5 y5)) fun _ s6 ⟨σ6,H6,I6,q6⟩=>?_);refine wpAny_passesOwn hp (thn (hb _ s6 σ6 H6 _ I6 q6) fun f s7 q7=>?_);have again:∀ {σ7:St} {H7:Hp},Inv X (pins++O6 fp s5.heap) σ7 H7 s7->N σ7 H7->∃ m,m<n/\∃ i σ' H',Inv X pins σ' H' s7/\tn i s7.heap/\(∀ b∈fp,H' b=none)/\W i m σ' H':=fun {σ7 H7} I7 n7=>by
   obtain⟨m',hm,w7⟩:=hN σ7 H7 n7;refine⟨m',hm,i+1,σ7,H7,I7.unpinned,T.keep _ _ _ st5 fun b hb o e=>(I7.pin (b,o) (ztw _ (ztw _ (So hb e)))).1,fun b hb=>?_,w7⟩;obtain⟨o,e,d⟩:=T.obj _ _ st5 b hb;exact(I7.pin (b,o) (ztw _ (ztw _ (So hb e)))).2.1
  cases f with
  | next=>obtain⟨σ7,H7,I7,n7⟩:=q7;exact again I7 n7
  | cont=>obtain⟨σ7,H7,I7,n7⟩:=q7;exact again I7 n7
  | brk=>obtain⟨σ7,H7,I7,q7⟩:=q7;exact⟨σ7,H7,I7.unpinned,q7⟩
  | ret v=>obtain⟨x7,σ7,H7,I7,r7,q7⟩:=q7;exact⟨x7,σ7,H7,I7.unpinned,r7,q7⟩
end
theorem Wm{K:Frag}{a:Addr}{xs:List V}{g:TG}{tb:TS}{D:Oa}{σ:St}{H:Hp}(Pv:Nat->St->Hp->Prop)(h0:Pv 0 σ H)(hl:∀ i σ H,i<=xs.length->Pv i σ H->SqL K H a xs)
  (hs:∀ i x σ H,xs[i]?=some x->Pv i σ H->g x σ H fun σ2 H2=>tb { D with nx:=Pv (i+1),ct:=Pv (i+1),bk:=D.nx } σ2 H2) (hd:∀ σ H,Pv xs.length σ H->D.nx σ H) :
  ∃ W:Nat->Nat->St->Hp->Prop,(∃ m,W 0 m σ H)/\∀ i m σ H,W i m σ H ->
    ((Itl K a).stop i H/\D.nx σ H)\/((Itl K a).go i H/\∃ N:St->Hp->Prop,(∀ σ' H',N σ' H'->∃ m',m' < m/\W (i+1) m' σ' H')/\∀ x H',(Itl K a).yld i H x H'->g x σ H' fun σ2 H2=>tb { D with nx:=N,ct:=N,bk:=D.nx } σ2 H2):=by
 refine⟨fun i m σ H=>m=xs.length-i/\i<=xs.length/\Pv i σ H,⟨xs.length,by simp,ztt _,h0⟩,?_⟩;rintro i m σ H ⟨rfl,hi,p⟩;have q:=hl i σ H hi p;by_cases hlt:i<xs.length
 ·refine .inr ⟨⟨xs,xs[i],q,by simp[hlt]⟩,Pv (i+1),fun σ' H' p'=>⟨xs.length-(i+1),by omega,rfl,hlt,p'⟩,fun x H' y=>?_⟩;obtain⟨e,y⟩:=y;subst e;exact hs i x σ _ (y xs q) p
 ·have e:i=xs.length:=by omega
  subst e;exact .inl ⟨⟨xs,q,ztb _⟩,hd σ H p⟩
theorem W7{lo:Int}{n:Nat}{g:TG}{tb:TS}{D:Oa}{σ:St}{H:Hp}(Pv:Nat->St->Hp->Prop)(h0:Pv 0 σ H)
  (hs:∀ i σ H,i<n->Pv i σ H->g (.int (lo+i)) σ H fun σ2 H2=>tb { D with nx:=Pv (i+1),ct:=Pv (i+1),bk:=D.nx } σ2 H2) (hd:∀ σ H,Pv n σ H->D.nx σ H) :
  ∃ W:Nat->Nat->St->Hp->Prop,(∃ m,W 0 m σ H)/\∀ i m σ H,W i m σ H ->
    ((Itr lo n).stop i H/\D.nx σ H)\/((Itr lo n).go i H/\∃ N:St->Hp->Prop,(∀ σ' H',N σ' H'->∃ m',m' < m/\W (i+1) m' σ' H')/\∀ x H',(Itr lo n).yld i H x H'->g x σ H' fun σ2 H2=>tb { D with nx:=N,ct:=N,bk:=D.nx } σ2 H2):=by
 refine⟨fun i m σ H=>m=n-i/\i<=n/\Pv i σ H,⟨n,by simp,ztt _,h0⟩,?_⟩;rintro i m σ H ⟨rfl,hi,p⟩;by_cases hlt:i<n
 ·refine .inr ⟨hlt,Pv (i+1),fun σ' H' p'=>⟨n-(i+1),by omega,rfl,hlt,p'⟩,fun x H' y=>?_⟩;obtain⟨e,y⟩:=y;subst e y;exact hs i σ _ hlt p
 ·have e:i=n:=by omega
  subst e;exact .inl ⟨ztb _,hd σ H p⟩
abbrev R2:=V->V->Hp->VK->Prop
def OpR(X:Cx)(f:Value->Value->Sem Value)(r:R2):Prop :=
 ∀ (pins:List (Addr×Obj)) (s:Shared) (σ:St) (H:Hp) (x y:V) (v u:Value) (Q:VK),Inv X pins σ H s->RelV x v->RelV y u->r x y H Q ->
   wpAny (model X.prog X.w) X.A (f v u) (EP X pins σ Q) X.xe s
def UnR(X:Cx)(f:Value->Sem Value)(r:V->Hp->VK->Prop):Prop :=
 ∀ (pins:List (Addr×Obj)) (s:Shared) (σ:St) (H:Hp) (x:V) (v:Value) (Q:VK),Inv X pins σ H s->RelV x v->r x H Q ->
   wpAny (model X.prog X.w) X.A (f v) (EP X pins σ Q) X.xe s
def Wf(X:Cx)(f:Value)(r:List V->Hp->VK->Prop):Prop :=
 ∀ (pins:List (Addr×Obj)) (s:Shared) (σ:St) (H:Hp) (xs:List V) (us:List Value) (Q:VK),Inv X pins σ H s->Vals xs us->r xs H Q ->
   wpAny (model X.prog X.w) X.A (call f us) (EP X pins σ Q) X.xe s
def zjc(X:Cx)(r:V->Hp->(Bool->Hp->Prop)->Prop):Prop :=
 ∀ (pins:List (Addr×Obj)) (s:Shared) (σ:St) (H:Hp) (x:V) (v:Value) (Q:Bool->Hp->Prop),Inv X pins σ H s->RelV x v->r x H Q ->
   wpAny (model X.prog X.w) X.A (truthy v) (TP X pins σ Q) X.xe s
def tOp(r:R2)(ta tb:TE):TE:=fun σ H Q=>ta σ H fun x H1=>tb σ H1 fun y H2=>r x y H2 Q
def tUn(r:V->Hp->VK->Prop)(ta:TE):TE:=fun σ H Q=>ta σ H fun x H1=>r x H1 Q
inductive rI(C:Int->Int->Prop)(g:Int->Int->V)(x:V)(y:V)(H:Hp)(Q:VK):Prop where
 | mk(i)(j)(_:x=.int i)(_:y=.int j)(_:C i j/\Q (g i j) H)
inductive rI0(g:Int->Int->V)(x:V)(y:V)(H:Hp)(Q:VK):Prop where
 | mk(i)(j)(_:x=.int i)(_:y=.int j)(_:Q (g i j) H)
inductive rU(g:Int->V)(x:V)(H:Hp)(Q:VK):Prop where
 | mk(i)(_:x=.int i)(_:Q (g i) H)
section
variable{X:Cx}{a b c:Expr}{ta tb tc:TE}{pos:Pos}
theorem binT(ha:PE X a ta)(hb:PE X b tb){pins:List (Addr×Obj)}{s:Shared}{σ:St}{H:Hp}{R:V->V->Hp->Prop}(I:Inv X pins σ H s)
  (h:ta σ H fun x H1=>tb σ H1 fun y H2=>R x y H2) {Q:Value->Shared->Prop} {f:Value->Value->Sem Value}
  (hf:∀ v u s2 x y H2,Inv X pins σ H2 s2->RelV x v->RelV y u->R x y H2->wpAny (model X.prog X.w) X.A (f v u) Q X.xe s2) :
  wpAny (model X.prog X.w) X.A (eval a X.env) (fun v s₁=>wpAny (model X.prog X.w) X.A (eval b X.env) (fun u s₂=>wpAny (model X.prog X.w) X.A (f v u) Q X.xe s₂) X.xe s₁) X.xe s:=by
 refine thn (ha pins s σ H _ I h) fun v s1 ⟨x,H1,I1,r1,q1⟩=>?_;refine thn (hb pins s1 σ H1 _ I1 q1) fun u s2 ⟨y,H2,I2,r2,q2⟩=>?_;exact hf v u s2 x y H2 I2 r1 r2 q2
theorem Zv{op:Operator}{r:R2}(ho:OpR X (binaryOp op) r)(ha:PE X a ta)(hb:PE X b tb):PE X (.BinOp a op b pos) (tOp r ta tb):=by
 intro pins s σ H Q I h;exact wpAny_BinOp (binT ha hb I h fun v u s2 x y H2 I2 rx ry q=>ho pins s2 σ H2 x y v u Q I2 rx ry q)
theorem B3(ho:UnR X (unaryOp op) r)(ha:PE X a ta):PE X (.UnaryOp op a pos) (tUn r ta):=by
 intro pins s σ H Q I h;exact UnaryOp_ (thn (ha pins s σ H _ I h) fun v s1 ⟨x,H1,I1,r1,q1⟩=>ho pins s1 σ H1 x v Q I1 r1 q1)
theorem opI{f:Value->Value->Sem Value}{C:Int->Int->Prop}{g:Int->Int->Int}
  (rule:∀ (i j:Int) (t u:Tok) (s:Shared) (Q:Value->Shared->Prop) (E:Value->Shared->Prop),C i j->Q (.int (g i j) s.toks) { s with toks:=s.toks+1 }->wpAny (model X.prog X.w) X.A (f (.int i t) (.int j u)) Q E s) :
  OpR X f (rI C fun i j=>.int (g i j)):=by
 intro pins s σ H x y v u Q I rx ry h;obtain⟨i,j,rfl,rfl,hc,q⟩:=h;obtain⟨t,rfl⟩:=rx;obtain⟨t',rfl⟩:=ry;exact rule i j t t' s _ _ hc ⟨.int (g i j),H,I.tok _,⟨_,rfl⟩,q⟩
theorem zhu{f:Value->Value->Sem Value}{g:Int->Int->Int}
  (rule:∀ (i j:Int) (t u:Tok) (s:Shared) (Q:Value->Shared->Prop) (E:Value->Shared->Prop),Q (.int (g i j) s.toks) { s with toks:=s.toks+1 }->wpAny (model X.prog X.w) X.A (f (.int i t) (.int j u)) Q E s) :
  OpR X f (rI0 fun i j=>.int (g i j)):=by
 intro pins s σ H x y v u Q I rx ry h;obtain⟨i,j,rfl,rfl,q⟩:=h;obtain⟨t,rfl⟩:=rx;obtain⟨t',rfl⟩:=ry;exact rule i j t t' s _ _ ⟨.int (g i j),H,I.tok _,⟨_,rfl⟩,q⟩
theorem zee{f:Value->Value->Sem Value}{g:Int->Int->Bool}
  (rule:∀ (i j:Int) (t u:Tok) (s:Shared) (Q:Value->Shared->Prop) (E:Value->Shared->Prop),Q (.bool (g i j)) s->wpAny (model X.prog X.w) X.A (f (.int i t) (.int j u)) Q E s) :
  OpR X f (rI0 fun i j=>.bl (g i j)):=by
 intro pins s σ H x y v u Q I rx ry h;obtain⟨i,j,rfl,rfl,q⟩:=h;obtain⟨t,rfl⟩:=rx;obtain⟨t',rfl⟩:=ry;exact rule i j t t' s _ _ ⟨.bl (g i j),H,I,rfl,q⟩
def CDiv(i j:Int):Prop:=0<j/\j<1073741824
def CPow(i j:Int):Prop:=0<=j/\j<=1000000/\i.natAbs<2 ^ 64
def CMul(i j:Int):Prop:=(-(2 ^ 64)<i/\i<2 ^ 64)\/(-(2 ^ 64)<j/\j<2 ^ 64)
theorem CMul.ok(h:CMul i j):IntMulOk i j:=by
 rcases h with ⟨h1,h2⟩|⟨h1,h2⟩
 ·exact .of_left (intBits_le_64 h1 h2)
 ·exact .of_right (intBits_le_64 h1 h2)
theorem Wx:OpR X (binaryOp .Add) (rI0 fun i j=>.int (i+j)):=zhu fun _ _ _ _ _ _ _ q=>add_int q
theorem Ru:OpR X (binaryOp .Sub) (rI0 fun i j=>.int (i-j)):=zhu fun _ _ _ _ _ _ _ q=>sub_int q
theorem Pa:OpR X (binaryOp .Mult) (rI CMul fun i j=>.int (i*j)):=opI fun _ _ _ _ _ _ _ hc q=>mul_int q hc.ok
theorem Xk:OpR X (binaryOp .FloorDiv) (rI CDiv fun i j=>.int (i/j)):=opI fun i j _ _ _ _ _ hc q=>by
 have h1:(0:Int)<j:=hc.1;have h2:j<1073741824:=hc.2;exact floordiv_int ⋯ (by rw[Int.fdiv_eq_ediv_of_nonneg i ⋯];exact q) (.inl (PyProof.noPylong_small ⋯))
theorem Y5:OpR X (binaryOp .Mod) (rI (fun _ j=>0<j) fun i j=>.int (i%j)):=opI fun i j _ _ _ _ _ hc q=>by
 have h1:(0:Int)<j:=hc;exact mod_int' ⋯ (by rw[Int.fmod_eq_emod_of_nonneg i ⋯];exact q)
theorem Cu:OpR X (binaryOp .Pow) (rI CPow fun i j=>.int (i ^ j.toNat)):=opI fun _ _ _ _ _ _ _ hc q=>pow_int_small hc.1 hc.2.1 hc.2.2 q
theorem unI{f:Value->Sem Value}{g:Int->Int}
  (rule:∀ (i:Int) (t:Tok) (s:Shared) (Q:Value->Shared->Prop) (E:Value->Shared->Prop),Q (.int (g i) s.toks) { s with toks:=s.toks+1 }->wpAny (model X.prog X.w) X.A (f (.int i t)) Q E s) :
  UnR X f (rU fun i=>.int (g i)):=by
 intro pins s σ H x v Q I rx h;obtain⟨i,rfl,q⟩:=h;obtain⟨t,rfl⟩:=rx;exact rule i t s _ _ ⟨.int (g i),H,I.tok _,⟨_,rfl⟩,q⟩
theorem G2:UnR X (unaryOp .USub) (rU fun i=>.int (-i)):=unI fun _ _ _ _ _ q=>neg_int q
end
def zhv:V->V->Bool
 | .non,.non=>true|.non,.int _=>true|.int _,.non=>true|.non,.bl _=>true|.bl _,.non=>true|.non,.str _=>true|.str _,.non=>true
 | .int _,.int _=>true|.bl _,.bl _=>true|.str _,.str _=>true|.byt _,.byt _=>true
 | .int _,.str _=>true|.str _,.int _=>true|.bl _,.str _=>true|.str _,.bl _=>true
 | _,_=>false
inductive rEq(x:V)(y:V)(H:Hp)(Q:VK):Prop where
 | mk(_:zhv x y=true)(_:Q (.bl (decide (x=y))) H)
inductive rNe(x:V)(y:V)(H:Hp)(Q:VK):Prop where
 | mk(_:zhv x y=true)(_:Q (.bl (!decide (x=y))) H)
theorem B4:decide (V.int i=V.int j)=(i == j):=by
 rw[zu0];simp
theorem zb5:decide (V.bl i=V.bl j)=(i == j):=by
 rw[zu0];simp
theorem B5:decide (V.str i=V.str j)=(i == j):=by
 rw[zu0];simp
theorem B6:decide (V.byt i=V.byt j)=(i.toList == j.toList):=by
 rw[zu0];cases i;cases j;simp
section
variable{X:Cx}{a b c:Expr}{ta tb tc:TE}{pos:Pos}
theorem Yj(I:Inv X pins σ H s)(q:Q (.bl k) H)(e:k=k'):EP X pins σ Q (.bool k') s:=by
 subst e;exact⟨.bl k,H,I,rfl,q⟩
theorem Y8:OpR X (compareOp .Eq) rEq:=by
 intro pins s σ H x y v u Q I rx ry h;obtain⟨hs,q⟩:=h;cases x with
 | non =>
   cases rx;cases y with
   | non=>cases ry;exact PySem.EqNone.eq_none_none (Yj I q (by simp))
   | bl j=>cases ry;exact PySem.EqNone.eq_none_bool (Yj I q (by simp))
   | int j=>obtain⟨t',rfl⟩:=ry;exact PySem.EqNone.eq_none_int (Yj I q (by simp))
   | str j=>obtain⟨t',rfl⟩:=ry;exact PySem.EqNone.eq_none_str (Yj I q (by simp))
   | _=>exact absurd (show false=true from hs) zti
 | bl i =>
   cases rx;cases y with
   | non=>cases ry;exact PySem.EqNone.eq_bool_none (Yj I q (by simp))
   | bl j=>cases ry;exact eq_bool (Yj I q zb5)
   | str j=>obtain⟨t',rfl⟩:=ry;exact PySem.EqMixed.eq_bool_str (Yj I q (by simp))
   | _=>exact absurd (show false=true from hs) zti
 | int i =>
   obtain⟨t,rfl⟩:=rx;cases y with
   | non=>cases ry;exact PySem.EqNone.eq_int_none (Yj I q (by simp))
   | int j=>obtain⟨t',rfl⟩:=ry;exact eq_int (Yj I q B4)
   | str j=>obtain⟨t',rfl⟩:=ry;exact PySem.EqMixed.eq_int_str (Yj I q (by simp))
   | _=>exact absurd (show false=true from hs) zti
 | str i =>
   obtain⟨t,rfl⟩:=rx;cases y with
   | non=>cases ry;exact PySem.EqNone.eq_str_none (Yj I q (by simp))
   | bl j=>cases ry;exact PySem.EqMixed.eq_str_bool (Yj I q (by simp))
   | int j=>obtain⟨t',rfl⟩:=ry;exact PySem.EqMixed.eq_str_int (Yj I q (by simp))
   | str j=>obtain⟨t',rfl⟩:=ry;exact eq_str (Yj I q B5)
   | _=>exact absurd (show false=true from hs) zti
 | byt i =>
   obtain⟨t,rfl⟩:=rx;cases y with
   | byt j=>obtain⟨t',rfl⟩:=ry;exact PySem.W.eq_bytes (Yj I q B6)
   | _=>exact absurd (show false=true from hs) zti
 | _=>cases y<;>exact absurd (show false=true from hs) zti
theorem Q4:OpR X (compareOp .NotEq) rNe:=by
 intro pins s σ H x y v u Q I rx ry h;obtain⟨hs,q⟩:=h;cases x with
 | non =>
   cases rx;cases y with
   | non=>cases ry;exact PySem.EqNone.ne_none_none (Yj I q (by simp))
   | bl j=>cases ry;exact PySem.EqNone.ne_none_bool (Yj I q (by simp))
   | int j=>obtain⟨t',rfl⟩:=ry;exact PySem.EqNone.ne_none_int (Yj I q (by simp))
   | str j=>obtain⟨t',rfl⟩:=ry;exact PySem.EqNone.ne_none_str (Yj I q (by simp))
   | _=>exact absurd (show false=true from hs) zti
 | bl i =>
   cases rx;cases y with
   | non=>cases ry;exact PySem.EqNone.ne_bool_none (Yj I q (by simp))
   | bl j=>cases ry;exact ne_bool (Yj I q (congrArg not zb5))
   | str j=>obtain⟨t',rfl⟩:=ry;exact PySem.EqMixed.ne_bool_str (Yj I q (by simp))
   | _=>exact absurd (show false=true from hs) zti
 | int i =>
   obtain⟨t,rfl⟩:=rx;cases y with
   | non=>cases ry;exact PySem.EqNone.ne_int_none (Yj I q (by simp))
   | int j=>obtain⟨t',rfl⟩:=ry;exact ne_int (Yj I q (congrArg not B4))
   | str j=>obtain⟨t',rfl⟩:=ry;exact PySem.EqMixed.ne_int_str (Yj I q (by simp))
   | _=>exact absurd (show false=true from hs) zti
 | str i =>
   obtain⟨t,rfl⟩:=rx;cases y with
   | non=>cases ry;exact PySem.EqNone.ne_str_none (Yj I q (by simp))
   | bl j=>cases ry;exact PySem.EqMixed.ne_str_bool (Yj I q (by simp))
   | int j=>obtain⟨t',rfl⟩:=ry;exact PySem.EqMixed.ne_str_int (Yj I q (by simp))
   | str j=>obtain⟨t',rfl⟩:=ry;exact ne_str (Yj I q (congrArg not B5))
   | _=>exact absurd (show false=true from hs) zti
 | byt i =>
   obtain⟨t,rfl⟩:=rx;cases y with
   | byt j=>obtain⟨t',rfl⟩:=ry;exact PySem.W.ne_bytes (Yj I q (congrArg not B6))
   | _=>exact absurd (show false=true from hs) zti
 | _=>cases y<;>exact absurd (show false=true from hs) zti
theorem Iw:OpR X (compareOp .Lt) (rI0 fun i j=>.bl (decide (i<j))):=zee fun _ _ _ _ _ _ _ q=>lt_int q
theorem zfi:OpR X (compareOp .LtE) (rI0 fun i j=>.bl (decide (i<=j))):=zee fun _ _ _ _ _ _ _ q=>le_int q
theorem Ri:OpR X (compareOp .Gt) (rI0 fun i j=>.bl (decide (j<i))):=zee fun _ _ _ _ _ _ _ q=>gt_int q
theorem zfj:OpR X (compareOp .GtE) (rI0 fun i j=>.bl (decide (j<=i))):=zee fun _ _ _ _ _ _ _ q=>ge_int q
theorem To:OpR X (compareOp .Is) (fun x y H Q=>y=.non/\Q (.bl (decide (x=.non))) H):=by
 intro pins s σ H x y v u Q I rx ry h;obtain⟨rfl,q⟩:=h;cases ry;refine is_none_gen (Yj I q ?_);cases x<;>first
  | (cases rx;rfl)
  | (obtain⟨t,rfl⟩:=rx;rfl)
theorem Ob:OpR X (compareOp .IsNot) (fun x y H Q=>y=.non/\Q (.bl (!decide (x=.non))) H):=by
 intro pins s σ H x y v u Q I rx ry h;obtain⟨rfl,q⟩:=h;cases ry;refine isnot_none_gen (Yj I q ?_);cases x<;>first
  | (cases rx;rfl)
  | (obtain⟨t,rfl⟩:=rx;rfl)
theorem Zr(b:Expr)(h:op≠.In:=by decide)(h2:op≠.NotIn:=by decide):behindInMarks op b=false:=by
 have e1:(op == CmpOp.In)=false:=by cases op<;>first|rfl|exact absurd rfl h
 have e2:(op == CmpOp.NotIn)=false:=by cases op<;>first|rfl|exact absurd rfl h2
 cases b<;>simp[behindInMarks,e1,e2]
theorem Ug{op:CmpOp}{r:R2}(ho:OpR X (compareOp op) r)(ha:PE X a ta)(hb:PE X b tb)(hm:behindInMarks op b=false):PE X (.Compare a [op] [b] pos) (tOp r ta tb):=by
 intro pins s σ H Q I h;exact wpAny_Compare1 (binT ha hb I h fun v u s2 x y H2 I2 rx ry q=>ho pins s2 σ H2 x y v u Q I2 rx ry q) hm
def zhw(t:TE):TT:=fun σ H Q=>t σ H fun x H'=>∃ k,x=.bl k/\Q k H'
theorem Zo(ho:OpR X (compareOp op) r)(ha:PE X a ta)(hb:PE X b tb)(hm:behindInMarks op b=false):PT X (.Compare a [op] [b] pos) (zhw (tOp r ta tb)):=by
 intro pins s σ H Q I h;refine wpAny_isTrue_Compare1 (thn (ha pins s σ H _ I h) fun v s1 ⟨x,H1,I1,r1,q1⟩=>thn (hb pins s1 σ H1 _ I1 q1) fun u s2 ⟨y,H2,I2,r2,q2⟩ =>
  thn (ho pins s2 σ H2 x y v u _ I2 r1 r2 q2) fun c s3 ⟨z,H3,I3,r3,k,e,q3⟩=>?_) hm
 subst e;cases r3;exact wpAny_truthy_bool ⟨H3,I3,q3⟩
def TruV(K:Frag)(x:V)(H:Hp)(k:Bool):Prop :=
 match x with
 | .non=>k=false
 | .bl b=>k=b
 | .int i=>k=(i != 0)
 | .str y=>y.length<=sizeLine/\k=((y.length:Int) != 0)
 | .byt y=>y.size<=sizeLine/\k=((y.size:Int) != 0)
 | .ref p=>(∃ xs,SqL K H p xs/\k=!xs.isEmpty)\/(∃ xs,SqT K H p xs/\k=!xs.isEmpty)\/∃ kvs,H p=some (.dK kvs)/\k=!kvs.isEmpty
 | _=>False
theorem Cv(r:KV kvs vs):(!vs.isEmpty)=!kvs.isEmpty:=by
 cases r<;>rfl
theorem Lv(r:Vals xs its):(!its.toArray.isEmpty)=!xs.isEmpty:=by
 cases r<;>simp
theorem Pb:(sizeLine:Nat)<2 ^ 63:=by rw[sizeLine_eq];decide
theorem zf9:zjc X (fun x H Q=>∃ k,TruV X.K x H k/\Q k H):=by
 intro pins s σ H x v Q I rx h;obtain⟨k,e,q⟩:=h;have hl:=Pb;have hs:sizeLine=16777216:=sizeLine_eq;cases x with
 | non =>
   cases rx;have e':k=false:=e;subst e';exact truthy_none ⟨H,I,q⟩
 | bl b =>
   cases rx;have e':k=b:=e;subst e';exact wpAny_truthy_bool ⟨H,I,q⟩
 | int i =>
   obtain⟨t,rfl⟩:=rx;have e':k=(i != 0):=e;subst e';exact PySem.P.truthy_int ⟨H,I,q⟩
 | str y =>
   obtain⟨t,rfl⟩:=rx;obtain⟨hy,e'⟩:y.length<=sizeLine/\k=((y.length:Int) != 0):=e;subst e';exact PySem.P.truthy_str ⋯ ⟨H,I.tok _,q⟩
 | byt y =>
   obtain⟨t,rfl⟩:=rx;obtain⟨hy,e'⟩:y.size<=sizeLine/\k=((y.size:Int) != 0):=e;subst e';exact PySem.W.truthy_bytes ⋯ ⟨H,I.tok _,q⟩
 | ref p =>
   cases rx;have e':(∃ xs,SqL X.K H p xs/\k=!xs.isEmpty)\/(∃ xs,SqT X.K H p xs/\k=!xs.isEmpty)\/∃ kvs,H p=some (.dK kvs)/\k=!kvs.isEmpty:=e;rcases e' with ⟨xs,hx,e'⟩|⟨xs,hx,e'⟩|⟨kvs,hx,e'⟩
   ·subst e';obtain⟨its,r,pl,hz⟩:=I.list hx;have hlen:=r.length;exact wpAny_truthy_list pl.isList (by simp only[zte];omega) ⟨H,I.tok _,by rw[Lv r];exact q⟩
   ·subst e';obtain⟨its,r,pl,hz⟩:=I.tuple hx;have hlen:=r.length;exact truthy_tuple pl (by simp only[zte];omega) ⟨H,I.tok _,by rw[Lv r];exact q⟩
   ·subst e';obtain⟨hz,hS,vs,r,m⟩:kvs.length<=sizeLine/\(p == sysModules)=false/\∃ vs,KV kvs vs/\s.heap.DictOf (Yd X.prog X.w) p vs:=I.hok p _ hx;have hlen:kvs.length=vs.length:=Paired.length r;exact wpAny_truthy_dict hS m ⋯ ⟨H,I.tok _,by rw[Cv r];exact q⟩
 | _=>exact(show False from e).elim
theorem zb6(ha:PE X a ta)(he:∀ whole,isTrue a X.env whole=(do let v <- whole;standAt a.pos;holding [v] (truthy v))) :
  PT X a (fun σ H Q=>ta σ H fun x H'=>∃ k,TruV X.K x H' k/\Q k H'):=by
 intro pins s σ H Q I h;exact isTrue_plain (thn (ha pins s σ H _ I h) fun v s1 ⟨x,H1,I1,r1,q1⟩=>zf9 pins s1 σ H1 x v Q I1 r1 q1) (he _)
theorem Tg(r:Vals [x] us):∃ u,us=[u]/\RelV x u:=by
 cases r with
 | cons r1 r2=>cases r2;exact⟨_,rfl,r1⟩
theorem B7(r:Vals [x,y] us):∃ u w',us=[u,w']/\RelV x u/\RelV y w':=by
 cases r with
 | cons r1 r2 =>
   cases r2 with
   | cons r3 r4=>cases r4;exact⟨_,_,rfl,r1,r3⟩
theorem O7(hc:X.calm=true):Wf X (.builtin "max") (fun xs H Q=>∃ i j,xs=[.int i,.int j]/\Q (.int (if j>i then j else i)) H):=by
 intro pins s σ H xs us Q I r h;obtain⟨i,j,rfl,q⟩:=h;obtain⟨u,w',rfl,⟨t,rfl⟩,⟨t',rfl⟩⟩:=B7 r;refine max_two_ints (I.ok.hd hc) fun h' tk k=>⟨_,H,I.kept k,?_,q⟩
 by_cases hj:j>i
 ·rw[if_pos hj,if_pos hj];exact⟨_,rfl⟩
 ·rw[if_neg hj,if_neg hj];exact⟨_,rfl⟩
theorem zaj(hc:X.calm=true):Wf X (.builtin "min") (fun xs H Q=>∃ i j,xs=[.int i,.int j]/\Q (.int (if j<i then j else i)) H):=by
 intro pins s σ H xs us Q I r h;obtain⟨i,j,rfl,q⟩:=h;obtain⟨u,w',rfl,⟨t,rfl⟩,⟨t',rfl⟩⟩:=B7 r;refine min_two_ints (I.ok.hd hc) fun h' tk k=>⟨_,H,I.kept k,?_,q⟩
 by_cases hj:j<i
 ·rw[if_pos hj,if_pos hj];exact⟨_,rfl⟩
 ·rw[if_neg hj,if_neg hj];exact⟨_,rfl⟩
theorem Ql:Wf X (.type "int") (fun xs H Q=>(∃ i,xs=[.int i]/\Q (.int i) H)\/∃ k,xs=[.bl k]/\Q (.int (if k then 1 else 0)) H):=by
 intro pins s σ H xs us Q I r h;rcases h with ⟨i,rfl,q⟩|⟨k,rfl,q⟩
 ·obtain⟨u,rfl,t,rfl⟩:=Tg r;exact call_int_int ⟨.int i,H,I,⟨_,rfl⟩,q⟩
 ·obtain⟨u,rfl,r1⟩:=Tg r;cases r1;exact call_int_bool ⟨.int (if k then 1 else 0),H,I.tok _,⟨_,rfl⟩,q⟩
end
structure ObjM(h:Heap)(x dx C:Addr)(mA:Str->Option Value):Prop where
 obj:h.get? x=some (PySem.W.instObj C dx)
 ns:h.Ns1 dx mA
 ne:dx≠x
theorem zak{h:Heap}{dx:Addr}{mA:Str->Option Value}(n:h.Ns1 dx mA):∃ od,h.get? dx=some od/\∀ name,PySem.W.lookIn name od=some (mA name):=by
 obtain⟨o,es,ep,ho,hd,hk,_,hm⟩:=n;refine⟨o,ho,fun name=>?_⟩;have e:=hm name;unfold nsFind findBy at e;rw[<- Array.find?_toList] at e;unfold PySem.W.lookIn;rw[hd];dsimp only;split
 ·rename_i y q;rw[q] at e;exact congrArg some e
 ·rename_i q;rw[q] at e;have a:es.toList.any (·.refKey)=false:=by
   rw[List.any_eq_false];intro y hy;obtain⟨z,t,hkey⟩:=hk y (Array.mem_toList_iff.mp hy);simp[DictEntry.refKey,hkey]
  have a':¬ es.toList.any (·.refKey)=true:=by rw[a];exact zti
  rw[if_neg a'];exact congrArg some e
theorem ObjM.look(I:ObjM h x dx C mA):∃ od,PySem.W.InstAt h x (PySem.W.instObj C dx) C (some od)/\∀ name,PySem.W.lookIn name od=some (mA name) :=
 let ⟨od,ho,hl⟩:=zak I.ns
 ⟨od,⟨I.obj,rfl,rfl,ho⟩,hl⟩
section
variable{prog:Program}{w:World}{A:Around}{E:Value->Shared->Prop}{s:Shared}{K:Frag}{x dx C f:Addr}{mA:Str->Option Value}{name:Str}{v:Value}
theorem zef(X:K.In s.heap)(I:ObjM s.heap x dx C mA)(hg:PySem.W.plainGet K C name=true)(hh:PySem.W.hasDictIn K C=true)
  (ha:PySem.W.findIn K (.ref C) name=some none) (hv:mA name=some v) (hv':PySem.W.handedIn v=true) (h:Q v { s with toks:=s.toks+1 }) :
  wpAny (model prog w) A (getAttr (.ref x) name expr) Q E s:=by
 obtain⟨od,J,hl⟩:=I.look;exact PySem.W.get_value X J (PySem.W.plainGet_of hg).1 (PySem.W.findObj_own hh ha rfl (by rw[hl,hv])) hv' h
theorem zb7(X:K.In s.heap)(I:ObjM s.heap x dx C mA)(hg:PySem.W.plainGet K C name=true)
  (hf:PySem.W.findIn K (.ref C) name=some (some (.ref f))) (ht:PySem.W.isFn K (.ref f)=true) (hv:mA name=none) (h:Q (.ref f,[.ref x]) s) :
  wpAny (model prog w) A (getMethod (.ref x) name pl) Q E s:=by
 obtain⟨od,J,hl⟩:=I.look;exact PySem.W.method_fn X J (PySem.W.plainGet_of hg).1 (PySem.W.plainGet_of hg).2 hf (beq_iff_eq.mp ht) (by show (PySem.W.lookIn name od).map (·.isSome)=some false;rw[hl,hv];rfl) h
theorem zeg(X:K.In s.heap)(I:ObjM s.heap x dx C mA)
  (hs:PySem.W.findIn K (.ref C) "__setattr__"=some (some (.builtin "object.__setattr__"))) (hp:PySem.W.plainOver K C=true) (ht:PySem.W.takerIn K C name=some none) (hh:PySem.W.hasDictIn K C=true)
  (hw:PySem.Within mA ns) (hsz:ns.length<=sizeLine)
  (h:∀ h',ObjM h' x dx C (fun y=>if y=name then some v else mA y)->Heap.SameBut dx s.heap h'->Q () { s with heap:=h',toks:=s.toks+2 }) :
  wpAny (model prog w) A (setAttr (.ref x) name v) Q E s:=by
 obtain⟨od,J,hl⟩:=I.look;refine PySem.W.set_plain X J hs (PySem.W.osa_open (s:={ s with toks:=s.toks+1 }) (r:=none) X J hp ht fun b=>?_);obtain⟨cd,hc,hd'⟩:=PySem.W.any_some hh;have hx:s.heap.get? x=some ⟨.ref C,some dx,.plain,#[]⟩:=I.obj;refine wpAny_bind (wpAny_pure (wpAny_bind (wpAny_bind (wpAny_loadPart hx (wpAny_bind (PySem.W.Looks.here (s:={ s with toks:=s.toks+1 }) (PySem.W.looks_clsIn X hc) ?_))))));rw[hd'];refine wpAny_pure (a:=some dx) (wpAny_bind (wpAny_pure (wpAny_bind ?_)));refine wpAny_nsSet1 (s:={ s with toks:=s.toks+1 }) I.ns fun h' hn2 hs2=>?_;obtain⟨oD,esD,epD,hoD,hdD,hcD⟩:=hn2.count (PySem.Within.cons name v hw);refine wpAny_bind (wpAny_lookBehind hoD (by rw[hdD];exact pastItsLine_dict (zto hcD (by rw[ztk];omega))) ?_);exact wpAny_pure (h _ ⟨(hs2.2 _ (Ne.symm I.ne)).trans I.obj,hn2,I.ne⟩ hs2)
theorem zb8(X:K.In s.heap)(hm:PySem.W.makesIn K C=true)
  (hi:PySem.W.findIn K (.ref C) "__init__"=some (some (.ref f))) (hf:PySem.W.typeIn K (.ref f)=some (.type "function"))
  (h:codeAny (model prog w) (A.under (.builtin "type.__call__" ⟨.ref C :: vs,kw⟩)) (.call (.ref f) ⟨.ref (s.heap.objs.size+1) :: vs,kw⟩) (PySem.W.InitBack (s.heap.objs.size+1) R)
   { s with heap:=(s.heap.push PySem.W.emptyDict).push (PySem.W.instObj C s.heap.objs.size) }) :
  codeAny (model prog w) A (.call (.ref C) ⟨vs,kw⟩) R s:=by
 obtain⟨hh,g,d,t,os⟩:=s;exact PySem.W.make_core (PySem.W.makes_of X hm) (PySem.W.looks_findIn X hi) (fun self=>PySem.W.bind_fn X self hf) (.inl rfl) h
end
def putF(f:Str)(v:V):List (Str×V)->List (Str×V)
 | []=>[(f,v)]
 | (g,x) :: r=>if g=f then (g,v) :: r else (g,x) :: putF f v r
theorem N6(f g:Str)(v:V):∀ fs:List (Str×V),(putF f v fs).lookup g=if g=f then some v else fs.lookup g
 | []=>by
   show List.lookup g [(f,v)]=_;by_cases h:g=f
   ·have hb:(g == f)=true:=beq_iff_eq.mpr h;simp only[List.lookup,hb,if_pos h]
   ·have hb:(g == f)=false:=ztr.mpr h;simp only[List.lookup,hb,if_neg h]
 | (k,x) :: r=>by
   have ih:=N6 f g v r;rw[show putF f v ((k,x) :: r)=(if k=f then (k,v) :: r else (k,x) :: putF f v r) from rfl];by_cases hk:k=f
   ·rw[if_pos hk];by_cases h:g=k
    ·have hb:(g == k)=true:=beq_iff_eq.mpr h;simp only[List.lookup,hb,if_pos (h.trans hk)]
    ·have hb:(g == k)=false:=ztr.mpr h;simp only[List.lookup,hb,if_neg (fun e:g=f=>h (e.trans hk.symm))]
   ·rw[if_neg hk];by_cases h:g=k
    ·have hb:(g == k)=true:=beq_iff_eq.mpr h;simp only[List.lookup,hb,if_neg (fun e:g=f=>hk (h.symm.trans e))]
    ·have hb:(g == k)=false:=ztr.mpr h;simp only[List.lookup,hb];exact ih
theorem O8(f:Str)(v:V):∀ fs:List (Str×V),f∈(putF f v fs).map (·.1)/\∀ g,g∈fs.map (·.1)->g∈(putF f v fs).map (·.1)
 | []=>⟨by simp[putF],fun g h=>by simp at h⟩
 | (k,x) :: r=>by
   obtain⟨i1,i2⟩:=O8 f v r;rw[show putF f v ((k,x) :: r)=(if k=f then (k,v) :: r else (k,x) :: putF f v r) from rfl];by_cases hk:k=f
   ·rw[if_pos hk];subst hk;exact⟨by simp,fun g h=>by simpa using h⟩
   ·rw[if_neg hk];refine⟨?_,fun g h=>?_⟩
    ·rw[ztf];exact ztj _ i1
    ·rw[ztf] at h ⊢;rcases zs7.mp h with e|e
     ·exact zs7.mpr (.inl e)
     ·exact ztj _ (i2 g e)
theorem N7(f:Str)(v:V):∀ fs:List (Str×V),(putF f v fs).length<=fs.length+1
 | []=>by simp[putF]
 | (k,x) :: r=>by
   have ih:=N7 f v r;rw[show putF f v ((k,x) :: r)=(if k=f then (k,v) :: r else (k,x) :: putF f v r) from rfl];by_cases hk:k=f
   ·rw[if_pos hk,ztk,ztk];omega
   ·rw[if_neg hk,ztk,ztk];omega
theorem RelO.some_of(r:RelO (some v) o):∃ u,o=some u/\RelV v u:=by
 cases o with
 | none=>exact(show False from r).elim
 | some u=>exact⟨u,rfl,r⟩
theorem RelO.none_of(r:RelO none o):o=none:=by
 cases o with
 | none=>rfl
 | some u=>exact(show False from r).elim
theorem zal(r:RelV v u):PySem.W.handedIn u=true:=by
 cases v with
 | non=>cases (show u=Value.none from r);rfl
 | bl b=>cases (show u=Value.bool b from r);rfl
 | int i=>obtain⟨t,e⟩:=(show ∃ t,u=Value.int i t from r);cases e;rfl
 | str x=>obtain⟨t,e⟩:=(show ∃ t,u=Value.str x t from r);cases e;rfl
 | byt b=>obtain⟨t,e⟩:=(show ∃ t,u=Value.bytes b t from r);cases e;rfl
 | flt b=>obtain⟨t,e⟩:=(show ∃ t,u=Value.float b t from r);cases e;rfl
 | ref a=>cases (show u=Value.ref a from r);rfl
 | ty n=>cases (show u=Value.type n from r);rfl
section
variable{P:Program}{w:World}{H H':Hp}{h h':Heap}{a C dx:Addr}{fs fs':List (Str×V)}
theorem Lg(hok:HOk P w H h)(e:H a=some (.ins C dx fs)):∃ mA,ObjM h a dx C mA/\(∀ f,RelO (fs.lookup f) (mA f))/\PySem.Within mA (fs.map (·.1))/\fs.length<=1000/\H dx=some (.own a):=by
 obtain⟨d,z,ne,ob,mA,n,r,q⟩:=(show Ym P w H h a (.ins C dx fs) from hok a _ e);exact⟨mA,⟨ob,n,ne⟩,r,q,z,d⟩
end
structure Cls(K:Frag)(C:Addr):Prop where
 pg:PySem.W.plainGet K C Str.empty=true
 hd:PySem.W.hasDictIn K C=true
 po:PySem.W.plainOver K C=true
 sa:PySem.W.findIn K (.ref C) "__setattr__"=some (some (.builtin "object.__setattr__"))
theorem Cls.get{K:Frag}{C:Addr}(c:Cls K C)(f:Str):PySem.W.plainGet K C f=true:=c.pg
def Xg(K:Frag)(C:Addr)(f:Str):Prop:=PySem.W.findIn K (.ref C) f=some none
theorem Xg.taker{K:Frag}{C:Addr}{f:Str}(n:Xg K C f):PySem.W.takerIn K C f=some none:=by
 unfold PySem.W.takerIn;rw[show PySem.W.findIn K (.ref C) f=some none from n];rfl
structure Con(K:Frag)(C:Addr)(f:Str)(v:V)(u:Value):Prop where
 at_:PySem.W.findIn K (.ref C) f=some (some u)
 rel:RelV v u
 get:PySem.W.specialIn K u "__get__"=some none
 cp:PySem.W.copiedNames.contains f=false
structure zb9(K:Frag)(C:Addr)(m:Str)(f:Addr):Prop where
 at_:PySem.W.findIn K (.ref C) m=some (some (.ref f))
 fn:PySem.W.isFn K (.ref f)=true
 kp:PySem.W.keepIn K (.ref f)=true
section
variable{X:Cx}{pins:List (Addr×Obj)}{σ:St}{H:Hp}{s:Shared}{a C dx:Addr}{fs:List (Str×V)}{f:Str}{v:V}{A:Around}{E:Value->Shared->Prop}
theorem Cw(I:Inv X pins σ H s)(e:H a=some (.ins C dx fs))(c:Cls X.K C)(n:Xg X.K C f)(l:fs.lookup f=some v)
  (h:∀ u s',Inv X pins σ H s'->RelV v u->Q u s'):wpAny (model X.prog X.w) A (getAttr (.ref a) f b) Q E s:=by
 obtain⟨mA,O,r,_,_,_⟩:=Lg I.hok e;obtain⟨u,hu,ru⟩:=RelO.some_of (v:=v) (o:=mA f) (by rw[<- l];exact r f);exact zef I.kIn O (c.get f) c.hd n hu (zal ru) (h u _ (I.tok _) ru)
theorem Lw(I:Inv X pins σ H s)(e:H a=some (.ins C dx fs))(c:Cls X.K C)(k:zb9 X.K C m g)(l:fs.lookup m=none)
  (h:Q (.ref g,[.ref a]) s):wpAny (model X.prog X.w) A (getMethod (.ref a) m pl) Q E s:=by
 obtain⟨mA,O,r,_,_,_⟩:=Lg I.hok e;have hn:mA m=none:=RelO.none_of (by rw[<- l];exact r m);exact zb7 I.kIn O (c.get m) k.at_ k.fn hn h
theorem Cy(I:Inv X pins σ H s)(e:H a=some (.ins C dx fs))(c:Cls X.K C)(n:Xg X.K C f)(hl:fs.length<1000)(ry:RelV y u)
  (h:∀ s',Inv X pins σ (upd H a (.ins C dx (putF f y fs))) s'->Q () s'):wpAny (model X.prog X.w) A (setAttr (.ref a) f u) Q E s:=by
 obtain⟨mA,O,r,wi,_,ho⟩:=Lg I.hok e;have hz:(fs.map (·.1)).length<=sizeLine:=by rw[zs3,sizeLine_eq];omega
 refine zeg I.kIn O c.sa c.po n.taker c.hd wi hz fun h' O' sb=>h _ ?_;have hd:∃ o,h'.get? dx=some o:=let ⟨o,_,_,e',_⟩:=O'.ns;⟨o,e'⟩;refine I.write (x:=a) (e:=dx) (by rw[e];exact True.intro) (.inr ho) (fun b q hb z=>(sb.2 b hb).trans z) hd ?_;refine⟨by rw[Zi O.ne];exact ho,?_,O.ne,O'.obj,_,O'.ns,fun g=>?_,fun g hg=>?_⟩
 ·have:=N7 f y fs;omega
 ·show RelO ((putF f y fs).lookup g) (if g=f then some u else mA g);rw[N6];by_cases q:g=f
  ·rw[if_pos q,if_pos q];exact ry
  ·rw[if_neg q,if_neg q];exact r g
 ·by_cases q:g=f
  ·rw[q];exact(O8 f y fs).1
  ·refine(O8 f y fs).2 g (wi g fun z=>hg ?_);show (if g=f then some u else mA g)=none;rw[if_neg q];exact z
theorem Inv.made(I:Inv X pins σ H s):Inv X pins σ (upd (upd H s.heap.objs.size (.own (s.heap.objs.size+1))) (s.heap.objs.size+1) (.ins C s.heap.objs.size []))
  { s with heap:=(s.heap.push PySem.W.emptyDict).push (PySem.W.instObj C s.heap.objs.size) }:=by
 have e1:(s.heap.push PySem.W.emptyDict).get? s.heap.objs.size=some PySem.W.emptyDict:=Heap.get?_push_size s.heap rfl;have e2:((s.heap.push PySem.W.emptyDict).push (PySem.W.instObj C s.heap.objs.size)).get? (s.heap.objs.size+1)=some (PySem.W.instObj C s.heap.objs.size):=by
  have:=Heap.get?_push_size (s.heap.push PySem.W.emptyDict) (o:=PySem.W.instObj C s.heap.objs.size) rfl
  rwa [Heap.size_push] at this
 have e3:(s.heap.push PySem.W.emptyDict).Ns s.heap.objs.size (fun _=>none):=⟨PySem.W.emptyDict,#[],_,e1,rfl,(fun e he=>absurd he (by simp)),fun _=>rfl⟩;have I1:=I.laid (a:=s.heap.objs.size) (o:=.own (s.heap.objs.size+1)) (h':=s.heap.push PySem.W.emptyDict) (t':=s.toks) (fun b u q=>Heap.get?_push_of_some _ q) (ztb _) ⟨_,e1⟩;refine I1.laid (a:=s.heap.objs.size+1) (o:=.ins C s.heap.objs.size []) (t':=s.toks) (fun b u q=>Heap.get?_push_of_some _ q) (Nat.le_of_eq (Heap.size_push _ _)) ?_;have ne:s.heap.objs.size≠s.heap.objs.size+1:=ztv (Nat.lt_succ_self _);refine⟨by rw[Zi ne,Zd],ztt _,ne,e2,fun _=>none,(Heap.Ns1.of_empty e3).at fun o q=>Heap.get?_push_of_some _ q,fun _=>True.intro,fun y hy=>absurd rfl hy⟩
theorem zeh(hb:attributeBase e f env (eval e env)=eval e env)
  (h:wpAny (model prog w) A (eval e env) (fun o s₁=>wpAny (model prog w) A (getAttr o f true) Q E s₁) E s):wpAny (model prog w) A (eval (.Attribute e f pos) env) Q E s :=
 Attribute_any_ h (by rw[arm_eval_Attribute,hb])
end
inductive zhx(K:Frag)(f:Str)(Q:VK)(x:V)(H1:Hp):Prop where
 | mk(a)(C)(dx)(fs)(v)(_:x=.ref a)(_:H1 a=some (.ins C dx fs))(_:Cls K C)(_:Xg K C f)(_:fs.lookup f=some v)(_:Q v H1)
def zhy(K:Frag)(ta:TE)(f:Str):TE:=fun σ H Q=>ta σ H fun x H1=>zhx K f Q x H1
inductive zhz(K:Frag)(f:Str)(D:Oa)(σ:L2.St)(y:V)(x:V)(H2:Hp):Prop where
 | mk(a)(C)(dx)(fs)(_:x=.ref a)(_:H2 a=some (.ins C dx fs))(_:Cls K C)(_:Xg K C f)(_:fs.length<1000)(_:D.nx σ (upd H2 a (.ins C dx (putF f y fs))))
def zh0(K:Frag)(ta tv:TE)(f:Str):TS:=fun D σ H=>tv σ H fun y H1=>ta σ H1 fun x H2=>zhz K f D σ y x H2
section
variable{X:Cx}{o e value:Expr}{f:Str}{pos pos' tpos:Pos}{ta tv:TE}
theorem zga(he:PE X e ta)(hb:attributeBase e f X.env (eval e X.env)=eval e X.env):PE X (.Attribute e f pos) (zhy X.K ta f):=by
 intro pins s σ H Q I h;refine zeh hb (thn (he pins s σ H _ I h) fun u s1 ⟨x,H1,I1,rx,a,C,dx,fs,v,ex,ea,c,n,l,q⟩=>?_);subst ex;obtain rfl:u=Value.ref a:=rx;exact Cw I1 ea c n l fun u' s2 I2 ru=>⟨v,H1,I2,ru,q⟩
theorem zgb(ha:PE X o ta)(hv:PE X value tv)(hs:swapsWith value (some (.Attribute o f pos')) pos.line X.env=pure false):PS X (.Assign [.Attribute o f pos'] value pos) (zh0 X.K ta tv f):=by
 intro pins s σ H D I h;refine plainObj_wpAny_Assign_Attribute (thn (hv pins s σ H _ I h) fun u s1 ⟨y,H1,I1,ry,q⟩=>thn (ha pins s1 σ H1 _ I1 q) fun ov s2 ⟨x,H2,I2,rx,a,C,dx,fs,ex,ea,c,n,l,q2⟩=>?_) hs;subst ex;obtain rfl:ov=Value.ref a:=rx;exact Cy I2 ea c n l ry fun s3 I3=>⟨σ,_,I3,q2⟩
end
section
variable{X:Cx}{pins:List (Addr×Obj)}{σ:St}{H:Hp}{s:Shared}{A:Around}{E:Value->Shared->Prop}{Q:Value->Shared->Prop}{c:Value}{b:Bool}
inductive O9(K:Frag)(H:Hp):V->Value->Prop where
 | non:O9 K H .non (.type "NoneType")
 | bl (x:Bool):O9 K H (.bl x) (.type "bool")
 | int (i:Int):O9 K H (.int i) (.type "int")
 | str (x:Str):O9 K H (.str x) (.type "str")
 | flt (x:UInt64):O9 K H (.flt x) (.type "float")
 | lst {a:Addr} {xs:List V} (e:H a=some (.lst xs)):O9 K H (.ref a) (.type "list")
 | frz {a:Addr} {o:Obj} {xs:List V} (e:H a=some (.frz o (.lst xs))):O9 K H (.ref a) (.type "list")
 | tup {a:Addr} {xs:List V} (e:H a=some (.tup xs)):O9 K H (.ref a) (.type "tuple")
 | dK {a:Addr} {kvs:List (Key×V)} (e:H a=some (.dK kvs)):O9 K H (.ref a) (.type "dict")
 | dT {a:Addr} {kvs:List (List Key×V)} (e:H a=some (.dT kvs)):O9 K H (.ref a) (.type "dict")
 | ins {a C dx:Addr} {fs:List (Str×V)} (e:H a=some (.ins C dx fs)) (cl:Cls K C) (ha:PySem.W.findIn K (.ref C) "__class__"=some (some (.builtin "object.__class__")))
   (hn:PySem.W.specialIn K (.builtin "object.__class__") "__get__"=some (some (.builtin "getset_descriptor.__get__"))) (htk:PySem.W.takesIn K (.builtin "object.__class__")=some true)
   (hm:PySem.W.mroIn K C (.type "object")=some true):O9 K H (.ref a) (.ref C)
theorem zam(I:Inv X pins σ H s)(rx:RelV x u)(ty:O9 X.K H x t)(e:PySem.W.kitOne X.K t c=some b)(h:∀ tk,Q (.bool b) { s with toks:=tk }) :
  wpAny (model X.prog X.w) A (call (.builtin "isinstance") [u,c]) Q E s:=by
 cases ty with
 | non=>cases (show u=Value.none from rx);exact PySem.W.kia_one PySem.W.kitx_none I.kIn True.intro e (fun z=>nomatch z) h
 | bl y=>cases (show u=Value.bool y from rx);exact PySem.W.kia_one PySem.W.kitx_bool I.kIn True.intro e (fun z=>nomatch z) h
 | int i=>obtain⟨t,q⟩:=(show ∃ t,u=Value.int i t from rx);cases q;exact PySem.W.kia_one PySem.W.kitx_int I.kIn True.intro e (fun z=>nomatch z) h
 | str y=>obtain⟨t,q⟩:=(show ∃ t,u=Value.str y t from rx);cases q;exact PySem.W.kia_one PySem.W.kitx_str I.kIn True.intro e (fun z=>nomatch z) h
 | flt y=>obtain⟨t,q⟩:=(show ∃ t,u=Value.float y t from rx);cases q;exact PySem.W.kia_one PySem.W.kitx_float I.kIn True.intro e (fun z=>nomatch z) h
 | @lst a xs ea =>
   cases (show u=Value.ref a from rx);obtain⟨_,_,n,_,h1⟩:=(show Ym X.prog X.w H s.heap a (.lst xs) from I.hok a _ ea);exact PySem.W.kia_one PySem.W.kitx_list I.kIn ⟨_,h1,rfl⟩ e (fun z=>nomatch z) h
 | @frz a ob xs ea =>
   cases (show u=Value.ref a from rx);obtain⟨_,_,_,n,_,h1⟩:=(show Ym X.prog X.w H s.heap a (.frz ob (.lst xs)) from I.hok a _ ea);exact PySem.W.kia_one PySem.W.kitx_list I.kIn ⟨_,h1,rfl⟩ e (fun z=>nomatch z) h
 | @tup a xs ea =>
   cases (show u=Value.ref a from rx);obtain⟨_,_,_,p⟩:=(show Ym X.prog X.w H s.heap a (.tup xs) from I.hok a _ ea);obtain⟨o,h1,h2,_⟩:=p;exact PySem.W.kia_one PySem.W.kitx_tuple I.kIn ⟨o,h1,h2⟩ e (fun z=>nomatch z) h
 | @dK a kvs ea =>
   cases (show u=Value.ref a from rx);obtain⟨_,_,vs,_,p⟩:=(show Ym X.prog X.w H s.heap a (.dK kvs) from I.hok a _ ea);obtain⟨o,es,ep,h1,h2,_⟩:=p;exact PySem.W.kia_one PySem.W.kitx_dict I.kIn ⟨o,h1,h2.1⟩ e (fun z=>nomatch z) h
 | @dT a kvs ea =>
   cases (show u=Value.ref a from rx);obtain⟨_,_,xs,_,o,es,ep,h1,h2,_⟩:=(show Ym X.prog X.w H s.heap a (.dT kvs) from I.hok a _ ea);exact PySem.W.kia_one PySem.W.kitx_dict I.kIn ⟨o,h1,h2.1⟩ e (fun z=>nomatch z) h
 | @ins a C dx fs ea cl ha hn htk hm =>
   cases (show u=Value.ref a from rx);obtain⟨mA,O,_⟩:=Lg I.hok ea;obtain⟨od,J,_⟩:=O.look;exact PySem.W.kia_one (PySem.W.kitx_own (cl.get _) cl.hd ha hn htk hm) I.kIn J e (fun z=>nomatch z) h
end
structure Wn(k:Nat)(A:Around):Prop where
 hd:A.handled=none
 dp:A.depth+3*k+5<recursionLimit
 un:A.units+16*k+200<cLine
theorem Wn.mono(r:Wn k A)(h:j<=k):Wn j A:=⟨r.hd,by have:=r.dp;omega,by have:=r.un;omega⟩
theorem Wn.deeper(r:Wn (k+1) A)(env:Env):Wn k (A.deeper env) :=
 ⟨r.hd,by have:=r.dp;show A.depth+1+3*k+5<_;omega,by have:=r.un;show A.units+3+16*k+200<_;omega⟩
theorem Cz{A:Around}{C:Addr}{us:List Value}{kw:List (Str×Value)}:(A.under (.builtin "type.__call__" ⟨.ref C :: us,kw⟩)).depth=A.depth+1:=by
 first|rfl|simp[Around.under,Code.weight,Code.isCreation,Code.isGuard,Code.isCaller,Code.frames,Code.isFrame,guardIds]
theorem C0{A:Around}{C:Addr}{us:List Value}{kw:List (Str×Value)}:(A.under (.builtin "type.__call__" ⟨.ref C :: us,kw⟩)).units=A.units+1:=by
 first|rfl|simp[Around.under,Code.cUnits,Code.frames,Code.isFrame]
theorem Wn.make(r:Wn (k+1) A)(C:Addr)(us:List Value)(kw:List (Str×Value)):Wn k (A.under (.builtin "type.__call__" ⟨.ref C :: us,kw⟩)) :=
 ⟨r.hd,by have:=r.dp;rw[Cz];omega,by have:=r.un;rw[C0];omega⟩
theorem Wn.depth(r:Wn k A):A.depth<recursionLimit:=by have:=r.dp;omega
theorem Wn.units(r:Wn k A):A.units+64<cLine:=by have:=r.un;omega
def tNil:TA:=fun _ H Q=>Q [] H
def Th(ta:TE)(tr:TA):TA:=fun σ H Q=>ta σ H fun x H1=>tr σ H1 fun xs H2=>Q (x :: xs) H2
section
variable{X:Cx}{e:Expr}{es:List Expr}{te:TE}{t:TA}{pos:Pos}
theorem Zb:PA X [] tNil:=fun _ _ _ _ H Q I h=>Calls.spliced_nil ⟨[],H,I,.nil,h⟩
theorem Za(ha:PE X e te)(hr:PA X es t)(hs:starEach (e :: es) X.env=(false,eval e X.env) :: starEach es X.env:=by rfl):PA X (e :: es) (Th te t):=by
 intro pos pins s σ H Q I h;rw[hs];show wpAny _ _ (spliced ((false,eval e X.env) :: backTo pos (starEach es X.env))) _ _ s;refine Calls.spliced_cons (thn (ha pins s σ H _ I h) fun u s1 ⟨x,H1,I1,r1,q1⟩=>?_);exact thn (hr pos pins s1 σ H1 _ I1 q1) fun us s2 ⟨xs,H2,I2,r2,q2⟩=>⟨x :: xs,H2,I2,.cons r1 r2,q2⟩
inductive zh1(Q:VK)(xs:List V)(H1:Hp):Prop where
 | mk(_:xs.length<=sizeLine)(_:∀ p,H1 p=none->Q (.ref p) (upd H1 p (.tup xs)))
def zjd(t:TA):TE:=fun σ H Q=>t σ H fun xs H1=>zh1 Q xs H1
inductive zh2(Q:VK)(xs:List V)(H1:Hp):Prop where
 | mk(_:xs.length<=sizeLine)(_:∀ p,H1 p=none->Q (.ref p) (upd H1 p (.lst xs)))
def tLst(t:TA):TE:=fun σ H Q=>t σ H fun xs H1=>zh2 Q xs H1
theorem Yk{x1}(h:PA X es t):PE X (.Tuple es x1 pos) (zjd t):=by
 intro pins s σ H Q I hq;refine wpAny_Tuple_spliced (thn (h pos pins s σ H _ I hq) fun us s1 ⟨xs,H1,I1,r,z,q⟩=>⟨by rw[<- r.length];exact z,?_⟩);have hf:H1 s1.heap.objs.size=none:=I1.hok.fresh (ztb _);refine⟨.ref s1.heap.objs.size,upd H1 s1.heap.objs.size (.tup xs),I1.laid (t':=s1.toks) (fun b u e=>Heap.get?_push_of_some _ e) (ztb _) ?_,rfl,q _ hf⟩;exact⟨z,us,r,⟨_,Heap.get?_push_size _ rfl,rfl,_,rfl⟩⟩
theorem Z7(h:PA X es t):PE X (.List es pos) (tLst t):=by
 intro pins s σ H Q I hq;refine wpAny_List_spliced (thn (h pos pins s σ H _ I hq) fun us s1 ⟨xs,H1,I1,r,z,q⟩=>⟨by rw[<- r.length];exact z,?_⟩);have hf:H1 s1.heap.objs.size=none:=I1.hok.fresh (ztb _);refine⟨.ref s1.heap.objs.size,upd H1 s1.heap.objs.size (.lst xs),I1.laid (t':=s1.toks) (fun b u e=>Heap.get?_push_of_some _ e) (ztb _) ?_,rfl,q _ hf⟩;exact⟨z,us,0,r,Heap.get?_push_size _ rfl⟩
end
abbrev Sp:=List V->Hp->VK->XK->Prop
abbrev CXT:=List Env->Hp->Shared->XK->Value->Shared->Prop
structure Mh(P:Program)(w:World)(K:Frag)(mg:Str->Option Value)(base:Heap)(A:Around)(outer:List Env)(s:Shared)(H:Hp):Prop where
 frames:A.frames=some outer
 mod:Mod K mg base
 bs:∀ b o,base.get? b=some o->s.heap.get? b=some o/\H b=none
 bsz:base.objs.size<=s.heap.objs.size
 funs:s.heap.FunFrames base outer
 frf:∀ b∈frs outer,H b=none
 hok:HOk P w H s.heap
 bare:AllBare s.gens
def CE(outer:List Env)(P:Program)(w:World)(H:Hp)(s:Shared)(Q:VK)(u:Value)(s':Shared):Prop :=
 ∃ v H',s'.os=s.os/\AllBare s'.gens/\Un (frs outer) [] H H' s.heap s'.heap/\HOk P w H' s'.heap/\RelV v u/\Q v H'
def CR(CX:CXT)(outer:List Env)(P:Program)(w:World)(H:Hp)(s:Shared)(Q:VK)(E:XK)(r:Result)(s':Shared):Prop :=
 match r with
 | .ok (.ret u)=>CE outer P w H s Q u s'
 | .ok _=>False
 | .error e=>CX outer H s E e s'
structure FnOk(P:Program)(w:World)(K:Frag)(mg:Str->Option Value)(base:Heap)(CX:CXT)(k:Nat)(f:Addr)(fd:FuncData)(ps:List Str)(sp:Sp):Prop where
 len:∀ vs H Q E,sp vs H Q E->vs.length=ps.length
 run:∀ (A:Around) (outer:List Env) (s:Shared) (H:Hp) (args:Args) (us:List Value) (vs:List V) (Q:VK) (E:XK),Wn k A->Mh P w K mg base A outer s H->BindsTo s fd args (ps.zip us)->Vals vs us->sp vs H Q E ->
  codeAny (model P w) A (.call (.ref f) args) (CR CX outer P w H s Q E) s
theorem Mh.make{P:Program}{w:World}{K:Frag}{mg:Str->Option Value}{base:Heap}{A:Around}{outer:List Env}{s:Shared}{H:Hp}(e:Mh P w K mg base A outer s H)(C:Addr)(us:List Value)(kw:List (Str×Value)) :
  Mh P w K mg base (A.under (.builtin "type.__call__" ⟨.ref C :: us,kw⟩)) outer s H:=⟨by first|exact e.frames|(simpa [Around.under,Code.envs,Code.isFrame,pushEnvs] using e.frames),e.mod,e.bs,e.bsz,e.funs,e.frf,e.hok,e.bare⟩
section
variable{X:Cx}{pins:List (Addr×Obj)}{σ:St}{H:Hp}{s s':Shared}
theorem Inv.env0(I:Inv X pins σ H s):Mh X.prog X.w X.K X.mg X.base X.A X.stack s H :=
 ⟨I.ok.frames,I.ok.mod,I.bs,zto I.ok.bsz I.sz,I.stack,I.stkFree,I.hok,I.bare⟩
theorem Inv.after(I:Inv X pins σ H s)(h:CE X.stack X.prog X.w H s Q u s'):EP X pins σ Q u s':=by
 obtain⟨v,H',os,bare,un,hok,r,q⟩:=h;obtain⟨hh,g,d,t,os'⟩:=s';obtain rfl:os'=s.os:=os;exact⟨v,H',I.call (h':=hh) (g':=g) (d':=d) (t':=t) (ch:=[]) un hok bare (fun b z=>absurd z (by simp)),r,q⟩
end
def zca(sp:Sp)(dvs:List V)(E:XK)(t:TA):TE:=fun σ H Q=>t σ H fun vs H1=>sp (vs++dvs) H1 Q E
inductive zgc(C:Addr)(m:Str)(sp:Sp)(dvs:List V)(E:XK)(t:TA)(σ:L2.St)(Q:VK)(x:V)(H1:Hp):Prop where
 | mk(a)(dx)(fs)(_:x=.ref a)(_:H1 a=some (.ins C dx fs))(_:fs.lookup m=none)(_:t σ H1 fun vs H2=>sp (x :: (vs++dvs)) H2 Q E)
def B8(C:Addr)(m:Str)(sp:Sp)(dvs:List V)(E:XK)(ta:TE)(t:TA):TE:=fun σ H Q=>ta σ H fun x H1=>zgc C m sp dvs E t σ Q x H1
def B9(C:Addr)(sp:Sp)(dvs:List V)(E:XK)(t:TA):TE:=fun σ H Q=>t σ H fun vs H1=>∀ x dx,H1 x=none->H1 dx=none->dx≠x ->
 sp (.ref x :: (vs++dvs)) (upd (upd H1 dx (.own x)) x (.ins C dx [])) (fun v H2=>v=.non/\Q (.ref x) H2) E
def T9(K:Frag)(fd:FuncData)(ps:List Str)(ds:List Value):Prop :=
 ∀ (s:Shared) (us:List Value),K.In s.heap->(us++ds).length=ps.length->BindsTo s fd ⟨us,[]⟩ (ps.zip (us++ds))
theorem T9.all{K:Frag}{fd:FuncData}{ps:List Str}(h:∀ us:List Value,us.length=ps.length->bindArgs fd ⟨us,[]⟩=pure (ps.zip us)):T9 K fd ps []:=fun s us _ hl=>by
 rw[List.append_nil] at hl ⊢;exact .of_eq (h us hl)
def Wh(CX:CXT)(X:Cx)(E:XK):Prop:=∀ (pins:List (Addr×Obj)) (σ:St) (H:Hp) (s:Shared) (e:Value) (s':Shared),Inv X pins σ H s->CX X.stack H s E e s'->X.xe e s'
section
variable{X:Cx}{CX:CXT}{k:Nat}{f C:Addr}{fd:FuncData}{ps:List Str}{sp:Sp}{dvs:List V}{ds:List Value}{E:XK}{x m:Str}{p pos apos:Pos}{e o:Expr}{es:List Expr}{ta:TE}{t:TA}
theorem C2(F:FnOk X.prog X.w X.K X.mg X.base CX k f fd ps sp)(hr:Wn k X.A)(hb:T9 X.K fd ps ds)(hd:Vals dvs ds)(hx:Wh CX X E)
  (I:Inv X pins σ H s) (r:Vals vs us) (h:sp (vs++dvs) H Q E):wpAny (model X.prog X.w) X.A (call (.ref f) us) (EP X pins σ Q) X.xe s:=by
 have r2:Vals (vs++dvs) (us++ds):=r.append hd;have hl:(us++ds).length=ps.length:=by rw[<- r2.length];exact F.len _ _ _ _ h
 refine wpAny_call (codeAny_mono (F.run X.A X.stack s H ⟨us,[]⟩ (us++ds) (vs++dvs) Q E hr I.env0 (hb s us I.kIn hl) r2 h) fun r s' hq=>?_);cases r with
 | error e=>exact hx pins σ H s e s' I hq
 | ok fl =>
   cases fl with
   | ret u=>exact I.after hq
   | next=>exact False.elim hq
   | brk=>exact False.elim hq
   | cont=>exact False.elim hq
theorem zei(F:FnOk X.prog X.w X.K X.mg X.base CX k f fd ps sp)(hr:Wn k X.A)(hg:Gl X x)(hm:X.mg x=some (.ref f))(hk:PySem.W.keepIn X.K (.ref f)=true)(hb:T9 X.K fd ps ds)(hd:Vals dvs ds)(hx:Wh CX X E)
  (ha:PA X (e :: es) t) (hdb:(x == ("__debug__":Str))=false:=by decide) (he:starEach (e :: es) X.env=(false,eval e X.env) :: starEach es X.env:=by rfl) (hpl:(backTo pos (starEach es X.env)).any (·.1)=false:=by rfl) :
  PE X (.Call (.Name x p) (e :: es) [] pos) (zca sp dvs E t):=by
 intro pins s σ H Q I h;refine wpAny_Call_Name_kw (Qj I hg hm ?_ hdb);refine PySem.W.callWith_K (h₀:=X.base) I.ok.mod.kin hk (thn (ha pos pins s σ H _ I h) fun us s1 ⟨vs,H1,I1,r,q⟩=>⟨I1.kIn,?_⟩) he hpl;exact C2 F hr hb hd hx I1 r q
theorem zej(he:PE X o ta)(c:Cls X.K C)(hm:zb9 X.K C m f)(F:FnOk X.prog X.w X.K X.mg X.base CX k f fd ps sp)(hr:Wn k X.A)(hb:T9 X.K fd ps ds)(hd:Vals dvs ds)(hx:Wh CX X E)(ha:PA X (e :: es) t)
  (hst:starEach (e :: es) X.env=(false,eval e X.env) :: starEach es X.env:=by rfl) (hpl:(backTo pos (starEach es X.env)).any (·.1)=false:=by rfl)
  (ht:eval (.Call (.Attribute o m apos) (e :: es) [] pos) X.env=(do
   let ov <- eval o X.env
   standAt apos.atName
   let (f,first) <- holding [ov] (getMethod ov m pl)
   callWith pos f first (backTo pos (starEach (e :: es) X.env)) (backToKw pos (keywordEach [] X.env))):=by rfl) :
  PE X (.Call (.Attribute o m apos) (e :: es) [] pos) (B8 C m sp dvs E ta t):=by
 intro pins s σ H Q I h;refine PySem.W.methodCall_KW (pl:=pl) (thn (he pins s σ H _ I h) fun u s1 ⟨x,H1,I1,rx,a,dx,fs,ex,ea,l,q⟩=>?_) ht;subst ex;obtain rfl:u=Value.ref a:=rx;refine Lw I1 ea c hm l ?_;refine PySem.W.callWith_K (first:=[.ref a]) (h₀:=X.base) I.ok.mod.kin hm.kp (thn (ha pos pins s1 σ H1 _ I1 q) fun us s2 ⟨vs,H2,I2,r,q2⟩=>⟨I2.kIn,?_⟩) hst hpl;exact C2 (us:=.ref a :: us) (vs:=.ref a :: vs) F hr hb hd hx I2 (.cons rfl r) q2
theorem zcb(he:PE X o ta)(c:Cls X.K C)(hm:zb9 X.K C m f)(F:FnOk X.prog X.w X.K X.mg X.base CX k f fd ps sp)(hr:Wn k X.A)(hb:T9 X.K fd ps ds)(hd:Vals dvs ds)(hx:Wh CX X E)
  (ht:eval (.Call (.Attribute o m apos) [] [] pos) X.env=(do
   let ov <- eval o X.env
   standAt apos.atName
   let (f,first) <- holding [ov] (getMethod ov m pl)
   callWith pos f first (backTo pos (starEach [] X.env)) (backToKw pos (keywordEach [] X.env))):=by rfl) :
  PE X (.Call (.Attribute o m apos) [] [] pos) (B8 C m sp dvs E ta tNil):=by
 intro pins s σ H Q I h;refine PySem.W.methodCall_KW (pl:=pl) (thn (he pins s σ H _ I h) fun u s1 ⟨x,H1,I1,rx,a,dx,fs,ex,ea,l,q⟩=>?_) ht;subst ex;obtain rfl:u=Value.ref a:=rx;refine Lw I1 ea c hm l ?_;exact PySem.W.callWith_K0 (first:=[.ref a]) I1.kIn hm.kp (C2 (us:=[.ref a]) (vs:=[.ref a]) F hr hb hd hx I1 (.cons rfl .nil) q)
structure Mk(K:Frag)(C f:Addr):Prop where
 makes:PySem.W.makesIn K C=true
 init:PySem.W.findIn K (.ref C) "__init__"=some (some (.ref f))
 fn:PySem.W.isFn K (.ref f)=true
 kp:PySem.W.keepIn K (.ref C)=true
theorem Ee(M:Mk X.K C f)(F:FnOk X.prog X.w X.K X.mg X.base CX k f fd ps sp)(hr:Wn (k+1) X.A)(hb:T9 X.K fd ps ds)(hd:Vals dvs ds)
  (hx:Wh CX X E) (I:Inv X pins σ H s) (r:Vals vs us)
  (h:∀ x dx,H x=none->H dx=none->dx≠x->sp (.ref x :: (vs++dvs)) (upd (upd H dx (.own x)) x (.ins C dx [])) (fun v H2=>v=.non/\Q (.ref x) H2) E) :
  wpAny (model X.prog X.w) X.A (call (.ref C) us) (EP X pins σ Q) X.xe s:=by
 have hq:=h (s.heap.objs.size+1) s.heap.objs.size (I.hok.fresh (Nat.le_succ _)) (I.hok.fresh (ztb _)) (ztv (Nat.lt_succ_self _));have I2:=Inv.made (C:=C) I;have r2:Vals (V.ref (s.heap.objs.size+1) :: (vs++dvs)) (Value.ref (s.heap.objs.size+1) :: (us++ds)):=.cons rfl (r.append hd);have hl:(Value.ref (s.heap.objs.size+1) :: us++ds).length=ps.length:=by
  have e:=r2.length;rw[F.len _ _ _ _ hq] at e;exact e.symm
 refine wpAny_call (zb8 (f:=f) I.kIn M.makes M.init (beq_iff_eq.mp M.fn) (codeAny_mono (F.run _ X.stack _ _ ⟨Value.ref (s.heap.objs.size+1) :: us,[]⟩ (Value.ref (s.heap.objs.size+1) :: (us++ds)) _ _ E (hr.make C us [])
  (I2.env0.make C us []) (hb _ (Value.ref (s.heap.objs.size+1) :: us) I2.kIn hl) r2 hq) fun r s' hq'=>?_))
 cases r with
 | error e=>exact hx pins σ _ _ e s' I2 hq'
 | ok fl =>
   cases fl with
   | ret u =>
     obtain⟨v,H',I3,rv,ev,q3⟩:=I2.after hq';subst ev;exact⟨rv,⟨V.ref (s.heap.objs.size+1),H',I3,rfl,q3⟩⟩
   | next=>exact False.elim hq'
   | brk=>exact False.elim hq'
   | cont=>exact False.elim hq'
theorem zek(M:Mk X.K C f)(F:FnOk X.prog X.w X.K X.mg X.base CX k f fd ps sp)(hr:Wn (k+1) X.A)(hg:Gl X x)(hm:X.mg x=some (.ref C))(hb:T9 X.K fd ps ds)(hd:Vals dvs ds)(hx:Wh CX X E)
  (ha:PA X (e :: es) t) (hdb:(x == ("__debug__":Str))=false:=by decide) (he:starEach (e :: es) X.env=(false,eval e X.env) :: starEach es X.env:=by rfl) (hpl:(backTo pos (starEach es X.env)).any (·.1)=false:=by rfl) :
  PE X (.Call (.Name x p) (e :: es) [] pos) (B9 C sp dvs E t):=by
 intro pins s σ H Q I h;refine wpAny_Call_Name_kw (Qj I hg hm ?_ hdb);refine PySem.W.callWith_K (h₀:=X.base) I.ok.mod.kin M.kp (thn (ha pos pins s σ H _ I h) fun us s1 ⟨vs,H1,I1,r,q⟩=>⟨I1.kIn,?_⟩) he hpl;exact Ee M F hr hb hd hx I1 r q
theorem zcc(M:Mk X.K C f)(F:FnOk X.prog X.w X.K X.mg X.base CX k f fd ps sp)(hr:Wn (k+1) X.A)(hg:Gl X x)(hm:X.mg x=some (.ref C))(hb:T9 X.K fd ps ds)(hd:Vals dvs ds)(hx:Wh CX X E)
  (hdb:(x == ("__debug__":Str))=false:=by decide):PE X (.Call (.Name x p) [] [] pos) (B9 C sp dvs E tNil):=by
 intro pins s σ H Q I h;refine wpAny_Call_Name_kw (Qj I hg hm ?_ hdb);exact PySem.W.callWith_K0 I.kIn M.kp (Ee (us:=[]) M F hr hb hd hx I .nil h)
end
section
variable{X:Cx}{CX:CXT}{k:Nat}{f C:Addr}{fd:FuncData}{ps ks:List Str}{sp:Sp}{E:XK}{x m:Str}{p pos apos kpos:Pos}{e o:Expr}{es:List Expr}{kws:List Keyword}{te ta:TE}{t tk:TA}{nm:Option Str}
structure zje(K:Frag)(fd:FuncData)(ps ks:List Str)(g:List Value->List Value->List Value)(gV:List V->List V->List V):Prop where
 to:∀ (s:Shared) (us ws:List Value),K.In s.heap->(g us ws).length=ps.length->BindsTo s fd ⟨us,ks.zip ws⟩ (ps.zip (g us ws))
 rel:∀ {vs:List V} {us:List Value} {zs:List V} {ws:List Value},Vals vs us->Vals zs ws->Vals (gV vs zs) (g us ws)
variable{g:List Value->List Value->List Value}{gV:List V->List V->List V}
end
structure Zl(N P:List Str)(sc:Scope):Prop where
 kind:sc.kind=.function
 co:sc.isCoroutine=false
 gen:sc.isGenerator=false
 nd:N.Nodup
 pre:N.take P.length=P
 par:∀ x∈P,sc.names.lookup x=some .local\/sc.names.lookup x=some .cell
 nofree:∀ y∈sc.names,y.2≠.free
theorem Iy{kindOf:Str->Option NameKind}{x:Str}:∀ {binds:List (Str×Value)} {m:Str->Option Value},(∀ v,(x,v)∉binds)->bindL kindOf binds m x=m x
 | [],_,_=>rfl
 | (n,v) :: r,m,h=>by
   unfold bindL;rw[Iy fun w hw=>h w (ztj _ hw)];split
   ·have:x≠n:=by rintro rfl;exact h v ztn
    simp[this]
   ·rfl
theorem Iz{kindOf:Str->Option NameKind}{x:Str}:∀ {binds:List (Str×Value)} {m:Str->Option Value},(∀ v,(x,v)∉binds)->bindC kindOf binds m x=m x
 | [],_,_=>rfl
 | (n,v) :: r,m,h=>by
   unfold bindC;rw[Iz fun w hw=>h w (ztj _ hw)];split
   ·rfl
   ·have:x≠n:=by rintro rfl;exact h v ztn
    simp[this]
theorem I9{kindOf:Str->Option NameKind}{x:Str}{v:Value}:∀ {P:List Str} {vs:List Value} {i:Nat} {m:Str->Option Value},P.Nodup->P[i]?=some x->vs[i]?=some v->kindOf x=some .local ->
  bindL kindOf (P.zip vs) m x=some v
 | [],_,_,_,_,h,_,_=>by simp at h
 | _ :: _,[],_,_,_,_,h,_=>by simp at h
 | p :: P,w :: vs,0,m,nd,h1,h2,hk=>by
   simp at h1 h2;subst h1;subst h2;show bindL kindOf ((p,w) :: P.zip vs) m p=_;unfold bindL;rw[Iy fun v hv=>(ztx.mp nd).1 (List.of_mem_zip hv).1,if_pos hk];simp
 | p :: P,w :: vs,i+1,m,nd,h1,h2,hk=>by
   show bindL kindOf ((p,w) :: P.zip vs) m x=_;unfold bindL;exact I9 (i:=i) (ztx.mp nd).2 (by simpa using h1) (by simpa using h2) hk
theorem Hh{kindOf:Str->Option NameKind}{x:Str}{v:Value}:∀ {P:List Str} {vs:List Value} {i:Nat} {m:Str->Option Value},P.Nodup->P[i]?=some x->vs[i]?=some v->kindOf x≠some .local ->
  bindC kindOf (P.zip vs) m x=some v
 | [],_,_,_,_,h,_,_=>by simp at h
 | _ :: _,[],_,_,_,_,h,_=>by simp at h
 | p :: P,w :: vs,0,m,nd,h1,h2,hk=>by
   simp at h1 h2;subst h1;subst h2;show bindC kindOf ((p,w) :: P.zip vs) m p=_;unfold bindC;rw[Iz fun v hv=>(ztx.mp nd).1 (List.of_mem_zip hv).1,if_neg hk];simp
 | p :: P,w :: vs,i+1,m,nd,h1,h2,hk=>by
   show bindC kindOf ((p,w) :: P.zip vs) m x=_;unfold bindC;exact Hh (i:=i) (ztx.mp nd).2 (by simpa using h1) (by simpa using h2) hk
def N8(N:List Str)(vs:List V):St:=vs.map some++List.replicate (N.length-vs.length) none
def cxOf(CX:CXT)(P:Program)(w:World)(K:Frag)(mg:Str->Option Value)(base:Heap)(N:List Str)(qual:Str)(scope:Scope)(f:Addr)(cd:Value)(A:Around)(outer:List Env)(s:Shared)(H:Hp)(E:XK):Cx where
 prog:=P
 w:=w
 K:=K
 mg:=mg
 base:=base
 A:=A.deeper (envOfC qual scope s.heap.objs.size f cd)
 N:=N
 s₀:=s
 H₀:=H
 env:=envOfC qual scope s.heap.objs.size f cd
 outer:=outer
 stack:=envOfC qual scope s.heap.objs.size f cd :: outer
 ex:=[]
 calm:=true
 fn:=fun _=>true
 pn:=[]
 xe:=fun e s'=>wpAny (model P w) (A.deeper (envOfC qual scope s.heap.objs.size f cd)) (leaving (envOfC qual scope s.heap.objs.size f cd) e) (fun _ s''=>CX outer H s E e s'') (fun e' s''=>CX outer H s E e' s'') s'
theorem Ef{sc:Scope}{n:Nat}{x:Str}(h:sc.names.lookup x=some .cell):∃ c,(cellsFrom n sc.names []).lookup x=some c:=by
 have q:=PySem.W.cellsFrom_some sc.names n [] (.inl h);exact zui.mp q
theorem zan{CX:CXT}{P:Program}{w:World}{K:Frag}{mg:Str->Option Value}{base:Heap}{N ps:List Str}{qual:Str}{scope:Scope}{f:Addr}{cd:Value}{A:Around}{outer:List Env}{s s1:Shared}{H:Hp}{E:XK}{us:List Value}{vs:List V}
  (S:Zl N ps scope) (hd:A.handled=none) (e0:Mh P w K mg base A outer s H) (hl:vs.length=ps.length) (r:Vals vs us)
  (x:InCallC s s.heap.objs.size (bindL (envOfC qual scope s.heap.objs.size f cd).kindOf (ps.zip us) fun _=>none) (cellsFrom (s.heap.objs.size+1) scope.names []) (bindC (envOfC qual scope s.heap.objs.size f cd).kindOf (ps.zip us) fun _=>none) s1) :
  Inv (cxOf CX P w K mg base N qual scope f cd A outer s H E) [] (N8 N vs) H s1:=by
 have hpl:ps.length<=N.length:=by have:=congrArg List.length S.pre;rw[List.length_take] at this;omega
 obtain⟨h1,tk,rfl,hk⟩:=x.done;have noA:∀ b:Addr,b∉(cxOf CX P w K mg base N qual scope f cd A outer s H E).ex:=fun b z=>absurd (show b∈([]:List Addr) from z) (by simp);refine⟨⟨e0.mod,S.kind,rfl,rfl,ztb _,fun y z c h1 h2=>?_,fun y hy=>?_,fun y c _ h=>?_,fun _=>hd,Around.frames_deeper e0.frames,.inr ⟨rfl,rfl⟩,fun b z=>absurd z (noA b),e0.bs,e0.bsz,fun b _ _=>noA b,fun b z=>absurd z (noA b),e0.funs,e0.frf⟩,
  rfl,e0.bare,Un.kept hk,⟨_,x.toInCall.ns,fun i y v h1 h2 h3=>?_⟩,fun y c h=>⟨_,x.cell y c h⟩,e0.hok.fresh (ztb _),fun y c h=>?_,fun p hp=>absurd (show p∈([]:List (Addr×Obj)) from hp) (by simp),e0.hok.kept hk,?_⟩
 ·exact name_of_addr x.apart (PySem.mem_of_lookup h1) (PySem.mem_of_lookup h2)
 ·have hy:scope.names.lookup y=some .cell\/scope.names.lookup y=some .free:=hy;rcases hy with hy|hy
  ·exact Ef hy
  ·exact absurd rfl (S.nofree _ (PySem.mem_of_lookup hy))
 ·exact zu5 (x.above y c (PySem.mem_of_lookup h))
 ·have h2:=h2.resolve_right (Xq _);have hi:i<vs.length:=by
   unfold N8 at h2;by_cases hi:i<vs.length
   ·exact hi
   ·rw[zt5 (by simpa using hi)] at h2;rw[List.getElem?_replicate] at h2;split at h2<;>cases h2
  have ha:vs[i]?=some v:=by
   unfold N8 at h2;rw[zt8 (by simpa using hi),zta] at h2;cases e:vs[i]? with
   | none=>rw[e] at h2;cases h2
   | some a=>rw[e] at h2;cases h2;rfl
  obtain⟨u,hu,rv⟩:=r.get ha;have hp:ps[i]?=some y:=by
   rw[<- S.pre,List.getElem?_take_of_lt ⋯];exact h1
  have ndP:ps.Nodup:=by rw[<- S.pre];exact S.nd.sublist (List.take_sublist _ _)
  refine⟨u,rv,?_⟩;rcases S.par y (ztg hp) with k|k
  ·exact .inl ⟨k,I9 ndP hp hu k⟩
  ·obtain⟨c,e⟩:=Ef (n:=s.heap.objs.size+1) k;refine .inr ⟨.inl k,c,e,?_⟩;have q:=x.cell y c e;rw[Hh ndP hp hu (by show scope.names.lookup y≠_;rw[k];decide)] at q;exact q
 ·exact e0.hok.fresh (zu5 (x.above y c (PySem.mem_of_lookup h)))
 ·unfold N8;show _=N.length;rw[zs8,zs3,zuw];omega
theorem zh3{CX:CXT}{P:Program}{w:World}{K:Frag}{mg:Str->Option Value}{base:Heap}{k:Nat}{f:Addr}{name qual:Str}{params:Arguments}{body:List Stmt}{scope:Scope}{dV kV doc pm cdv ct oc:Value}{an od:Option Addr}
  {osl:Array (Option Value)} {N ps:List Str} {sp:Sp} (lk:K.lookup f=some ⟨oc,od,.func (PySem.W.fnOf name qual params body scope dV kV doc pm an cdv ct),osl⟩) (hcd:PySem.W.codeIn K cdv qual=true) (S:Zl N ps scope)
  (len:∀ vs H Q E,sp vs H Q E->vs.length=ps.length)
  (hbody:∀ (A:Around) (outer:List Env) (s:Shared) (H:Hp) (vs:List V) (Q:VK) (E:XK),Wn k (A.deeper (envOfC qual scope s.heap.objs.size f cdv))->sp vs H Q E ->
   ∃ t,PSs (cxOf CX P w K mg base N qual scope f cdv A outer s H E) body t/\t { nx:=fun _ H'=>Q .non H',rt:=Q } (N8 N vs) H) :
  FnOk P w K mg base CX (k+1) f (PySem.W.fnOf name qual params body scope dV kV doc pm an cdv ct) ps sp:=by
 refine⟨len,fun A outer s H args us vs Q E hr e0 hb r hsp=>?_⟩;have hl:=len _ _ _ _ hsp;have KX:K.In s.heap:=e0.mod.kin.keeps fun b o e=>(e0.bs b o e).1;have lim:s.heap.NoLimit:=e0.mod.nolimit.keeps fun b o e=>(e0.bs b o e).1;have hkind:∀ y∈ps.zip us,scope.names.lookup y.1=some .local\/(scope.names.lookup y.1=some .cell/\((cellsFrom (s.heap.objs.size+1) scope.names []).lookup y.1).isSome=true):=fun ⟨n,v⟩ hy=>by
  rcases S.par n (List.of_mem_zip hy).1 with q|q
  ·exact .inl q
  ·exact .inr ⟨q,PySem.W.cellsFrom_some _ _ _ (.inl q)⟩
 refine codeAny_call_function hr.depth (KX _ _ lk) rfl S.co S.gen rfl (PySem.W.codeRec_of KX hcd) (hb _ _ _ _ ?_);refine wpAny_newFunctionEnv_cells S.kind hkind fun env he s1 x=>?_;subst he;refine⟨lim.keeps x.toInCall.keep,codeAny_func ?_⟩;obtain⟨t,ht,hq⟩:=hbody A outer s H vs Q E (hr.deeper _) hsp;have I:Inv (cxOf CX P w K mg base N qual scope f cdv A outer s H E) [] (N8 N vs) H s1:=zan S hr.hd e0 hl r x;refine wpAny_mono (ht [] s1 (N8 N vs) H _ I hq) (fun fl s' hs=>?_) fun e s' hs=>hs;have fin:∀ {σ':St} {H':Hp} {v:V} {u:Value},Inv (cxOf CX P w K mg base N qual scope f cdv A outer s H E) [] σ' H' s'->RelV v u->Q v H'->CE outer P w H s Q u s' :=
  fun {σ' H' v u} J rv q=>⟨v,H',J.os,J.bare,J.base,J.hok,rv,q⟩
 cases fl with
 | ret u =>
   obtain⟨v,σ',H',J,rv,q⟩:=hs;exact fin J rv q
 | next =>
   obtain⟨σ',H',J,q⟩:=hs;exact fin (v:=V.non) (u:=Value.none) J rfl q
 | brk =>
   obtain⟨_,_,_,q⟩:=hs;exact False.elim q
 | cont =>
   obtain⟨_,_,_,q⟩:=hs;exact False.elim q
section
variable{X:Cx}{x:Str}{p pos:Pos}{e:Expr}{es:List Expr}{t:TA}{id T:String}{r:List V->Hp->VK->Prop}
def tCB(r:List V->Hp->VK->Prop)(t:TA):TE:=fun σ H Q=>t σ H fun vs H1=>r vs H1 Q
theorem Zm(hc:Wf X (.builtin id) r)(hg:Gl X x)(hm:X.mg x=none)(hv:bootBuiltins x=some (.builtin id))(ha:PA X (e :: es) t)(hn:x≠"__name__":=by decide)(hdb:(x == ("__debug__":Str))=false:=by decide)
  (he:starEach (e :: es) X.env=(false,eval e X.env) :: starEach es X.env:=by rfl) (hpl:(backTo pos (starEach es X.env)).any (·.1)=false:=by rfl):PE X (.Call (.Name x p) (e :: es) [] pos) (tCB r t):=by
 intro pins s σ H Q I h;refine wpAny_Call_Name_kw (Q8 I hg hm hv ?_ hn hdb);exact PyProof.Rows.callWith_builtin1 (thn (ha pos pins s σ H _ I h) fun us s1 ⟨vs,H1,I1,r1,q1⟩=>hc pins s1 σ H1 vs us Q I1 r1 q1) he hpl
theorem Yv(hc:Wf X (.type T) r)(hg:Gl X x)(hm:X.mg x=none)(hv:bootBuiltins x=some (.type T))(ha:PA X (e :: es) t)(hn:x≠"__name__":=by decide)(hdb:(x == ("__debug__":Str))=false:=by decide)
  (he:starEach (e :: es) X.env=(false,eval e X.env) :: starEach es X.env:=by rfl) (hpl:(backTo pos (starEach es X.env)).any (·.1)=false:=by rfl):PE X (.Call (.Name x p) (e :: es) [] pos) (tCB r t):=by
 intro pins s σ H Q I h;refine wpAny_Call_Name_kw (Q8 I hg hm hv ?_ hn hdb);exact PyProof.Rows.callWith_type1 (thn (ha pos pins s σ H _ I h) fun us s1 ⟨vs,H1,I1,r1,q1⟩=>hc pins s1 σ H1 vs us Q I1 r1 q1) he hpl
end
section
variable{κ:Type}[DecidableEq κ]
def valV(kvs:List (κ×V))(k:κ):Option V:=(kvs.find? fun kv=>decide (kv.1=k)).map (·.2)
def putK(kvs:List (κ×V))(k:κ)(v:V):List (κ×V) :=
 if (kvs.any fun kv=>decide (kv.1=k))=true then kvs.map (fun kv=>if kv.1=k then (kv.1,v) else kv) else kvs++[(k,v)]
def Xn(kvs:List (κ×V))(k:κ):List (κ×V):=kvs.filter fun kv=>decide (kv.1≠k)
theorem zh4:valV ([]:List (κ×V)) k=none:=rfl
theorem Y1{p:κ×V}{r:List (κ×V)}{k:κ}(e:p.1=k):valV (p :: r) k=some p.2:=by simp[valV,zux,e]
theorem Yx{p:κ×V}{r:List (κ×V)}{k:κ}(e:¬ p.1=k):valV (p :: r) k=valV r k:=by simp[valV,zux,e]
theorem Sa(k:κ):∀ kvs:List (κ×V),(kvs.any fun kv=>decide (kv.1=k))=(valV kvs k).isSome
 | []=>rfl
 | p :: r=>by
   rw[zu1];by_cases e:p.1=k
   ·simp only[Y1 e,zs6 e,Bool.true_or,Option.isSome_some]
   ·rw[Yx e,ztc e,Bool.false_or];exact Sa k r
theorem Eg(k j:κ)(y:V):∀ kvs:List (κ×V),valV (kvs.map fun kv=>if kv.1=k then (kv.1,y) else kv) j=(valV kvs j).map fun x=>if j=k then y else x
 | []=>rfl
 | p :: r=>by
   have ih:=Eg k j y r;rw[ztf];by_cases h:p.1=k
   ·rw[if_pos h];by_cases e:p.1=j
    ·rw[Y1 (p:=(p.1,y)) e,Y1 e,zt6,if_pos (e.symm.trans h)]
    ·rw[Yx (p:=(p.1,y)) e,Yx e,ih]
   ·rw[if_neg h];by_cases e:p.1=j
    ·rw[Y1 (p:=p) e,Y1 e,zt6,if_neg (fun z=>h (e.trans z))]
    ·rw[Yx (p:=p) e,Yx e,ih]
theorem Hi(k j:κ)(y:V):∀ kvs:List (κ×V),valV kvs k=none->valV (kvs++[(k,y)]) j=if j=k then some y else valV kvs j
 | [],_=>by
   by_cases e:k=j
   ·rw[if_pos e.symm];exact Y1 (p:=(k,y)) e
   ·rw[if_neg (fun z=>e z.symm)];exact Yx (p:=(k,y)) e
 | p :: r,hn=>by
   rw[List.cons_append];have hk:¬ p.1=k:=fun z=>by rw[Y1 z] at hn;cases hn
   rw[Yx hk] at hn;have ih:=Hi k j y r hn;by_cases e:p.1=j
   ·rw[Y1 e,Y1 e,if_neg (fun z=>hk (e.trans z))]
   ·rw[Yx e,Yx e,ih]
theorem Sb(kvs:List (κ×V))(k j:κ)(y:V):valV (putK kvs k y) j=if j=k then some y else valV kvs j:=by
 unfold putK;by_cases a:(kvs.any fun kv=>decide (kv.1=k))=true
 ·rw[if_pos a,Eg];rw[Sa] at a;by_cases e:j=k
  ·obtain⟨x,hx⟩:=zui.mp a;rw[if_pos e,e,hx,zt6,if_pos rfl]
  ·rw[if_neg e];cases valV kvs j with
   | none=>rfl
   | some x=>rw[zt6,if_neg e]
 ·rw[if_neg a];refine Hi k j y kvs ?_;rw[Sa] at a;cases q:valV kvs k with
  | none=>rfl
  | some x=>rw[q] at a;exact(a rfl).elim
theorem X3(kvs:List (κ×V))(k:κ)(v:V):(putK kvs k v).length<=kvs.length+1:=by
 unfold putK;split
 ·rw[zs3];omega
 ·rw[zs8,ztk,List.length_nil];omega
theorem zcd{kvs:List (κ×V)}{k:κ}(v:V)(h:valV kvs k=none):putK kvs k v=kvs++[(k,v)]:=by
 unfold putK;rw[Sa,h];exact if_neg ⋯
theorem RelO.isSome_eq(r:RelO o u):o.isSome=u.isSome:=by
 cases o with
 | none=>cases u with
   | none=>rfl
   | some _=>exact(show False from r).elim
 | some _=>cases u with
   | none=>exact(show False from r).elim
   | some _=>rfl
theorem RelO.getD(r:RelO o u)(rd:RelV d d'):RelV (o.getD d) (u.getD d'):=by
 cases o with
 | none=>cases u with
   | none=>exact rd
   | some _=>exact(show False from r).elim
 | some _=>cases u with
   | none=>exact(show False from r).elim
   | some _=>exact r
theorem KV.val{kvs:List (κ×V)}{vs:List (κ×Value)}(r:KV kvs vs)(k:κ):RelO (valV kvs k) (valueAt vs k):=by
 unfold KV at r
 induction r with
 | nil=>exact True.intro
 | @cons p q ps qs h t ih =>
   obtain⟨h1,h2⟩:=h;by_cases e:p.1=k
   ·have e':q.1=k:=h1.symm.trans e;have b:valueAt (q :: qs) k=some q.2:=by simp[valueAt,zux,e']
    rw[Y1 e,b];exact h2
   ·have e':¬ q.1=k:=fun z=>e (h1.trans z);have b:valueAt (q :: qs) k=valueAt qs k:=by simp[valueAt,zux,e']
    rw[Yx e,b];exact ih
theorem KV.any(r:KV kvs vs)(k:κ):(kvs.any fun kv=>decide (kv.1=k))=vs.any fun kv=>decide (kv.1=k):=by
 unfold KV at r
 induction r with
 | nil=>rfl
 | cons h t ih=>rw[zu1,zu1,ih,h.1]
theorem KV.repl(r:KV kvs vs)(k:κ)(ry:RelV y u) :
  KV (kvs.map fun kv=>if kv.1=k then (kv.1,y) else kv) (vs.map fun kv=>if kv.1=k then (kv.1,u) else kv):=by
 unfold KV at r ⊢
 induction r with
 | nil=>exact .nil
 | @cons p q ps qs h t ih =>
   rw[ztf,ztf];refine .cons ?_ ih;obtain⟨h1,h2⟩:=h;by_cases e:p.1=k
   ·rw[if_pos e,if_pos (h1.symm.trans e)];exact⟨h1,ry⟩
   ·rw[if_neg e,if_neg (fun z=>e (h1.trans z))];exact⟨h1,h2⟩
theorem KV.put(r:KV kvs vs)(k:κ)(ry:RelV y u):KV (putK kvs k y) (stored vs k u):=by
 unfold putK stored;rw[r.any k];by_cases e:(vs.any fun kv=>decide (kv.1=k))=true
 ·rw[if_pos e,if_pos e];exact r.repl k ry
 ·rw[if_neg e,if_neg e];exact Paired.snoc r ⟨rfl,ry⟩
theorem KV.drop(r:KV kvs vs)(k:κ):KV (Xn kvs k) (without vs k):=by
 unfold KV at r ⊢;unfold Xn without
 induction r with
 | nil=>exact .nil
 | @cons p q ps qs h t ih =>
   obtain⟨h1,h2⟩:=h;rw[zua,zua];by_cases e:p.1=k
   ·have a:¬ decide (p.1≠k)=true:=by simp[e]
    have b:¬ decide (q.1≠k)=true:=by simp[h1.symm.trans e]
    rw[if_neg a,if_neg b];exact ih
   ·have e':¬ q.1=k:=fun z=>e (h1.trans z);have a:decide (p.1≠k)=true:=by simp[e]
    have b:decide (q.1≠k)=true:=by simp[e']
    rw[if_pos a,if_pos b];exact .cons ⟨h1,h2⟩ ih
theorem KV.keys{kvs:List (κ×V)}{vs:List (κ×Value)}(r:KV kvs vs):kvs.map (·.1)=vs.map (·.1):=by
 unfold KV at r
 induction r with
 | nil=>rfl
 | cons h t ih=>rw[ztf,ztf,ih,h.1]
theorem KV.length(r:KV kvs vs):kvs.length=vs.length:=Paired.length r
theorem Eh(kvs:List (κ×V))(k:κ):(Xn kvs k).length<=kvs.length:=zun _ _
end
theorem N9(r:RelV (kV k) u):(Yd P w).is k u=true:=by
 cases k with
 | inl i=>obtain⟨t,e⟩:=(show ∃ t,u=Value.int i t from r);subst e;exact F8 P w i t
 | inr x=>obtain⟨t,e⟩:=(show ∃ t,u=Value.str x t from r);subst e;exact F9 P w x t
theorem Hj:∀ {ks:List Key} {us:List Value},Vals (ks.map kV) us->ItemsAre (Yd P w) ks us
 | [],_,r=>by rw[List.map_nil] at r;cases r;exact .nil
 | k :: ks,_,r=>by
   rw[ztf] at r;cases r with
   | cons h t=>exact .cons (N9 h) (Hj t)
abbrev KT(H:Hp):List (List Key×V)->List (List Key×Addr×Value)->Prop:=Paired fun p q=>p.1=q.1/\H q.2.1=some (.tup (p.1.map kV))/\RelV p.2 q.2.2
theorem KT.val{H:Hp}{kvs:List (List Key×V)}{xs:List (List Key×Addr×Value)}(r:KT H kvs xs)(k:List Key):RelO (valV kvs k) ((atKey xs k).map (·.2)):=by
 induction r with
 | nil=>exact True.intro
 | @cons p q ps qs h t ih =>
   obtain⟨h1,_,h2⟩:=h;by_cases e:p.1=k
   ·have e':q.1=k:=h1.symm.trans e;have b:atKey (q :: qs) k=some q.2:=by simp[atKey,zux,e']
    rw[Y1 e,b];exact h2
   ·have e':¬ q.1=k:=fun z=>e (h1.trans z);have b:atKey (q :: qs) k=atKey qs k:=by simp[atKey,zux,e']
    rw[Yx e,b];exact ih
theorem KT.repl(r:KT H kvs xs)(k:List Key)(ry:RelV y u) :
  KT H (kvs.map fun kv=>if kv.1=k then (kv.1,y) else kv) (xs.map (putAt k u)):=by
 induction r with
 | nil=>exact .nil
 | @cons p q ps qs h t ih =>
   rw[ztf,ztf];refine .cons ?_ ih;obtain⟨h1,h2,h3⟩:=h;unfold putAt;by_cases e:p.1=k
   ·rw[if_pos e,if_pos (h1.symm.trans e)];exact⟨h1,h2,ry⟩
   ·rw[if_neg e,if_neg (fun z=>e (h1.trans z))];exact⟨h1,h2,h3⟩
theorem KT.put(r:KT H kvs xs)(k:List Key)(hb:H b=some (.tup (k.map kV)))(ry:RelV y u) :
  KT H (putK kvs k y) (storedH xs k b u):=by
 have e:(kvs.any fun kv=>decide (kv.1=k))=(atKey xs k).isSome:=by
  rw[Sa,(r.val k).isSome_eq,Option.isSome_map]
 unfold putK storedH;rw[e];by_cases q:(atKey xs k).isSome=true
 ·rw[if_pos q,if_pos q];exact r.repl k ry
 ·rw[if_neg q,if_neg q];exact Paired.snoc r ⟨rfl,hb,ry⟩
theorem KT.keeps(r:KT H kvs xs)(ht:∀ b ys,H b=some (.tup ys)->H' b=some (.tup ys)):KT H' kvs xs :=
 Paired.mapP r fun _ _ z=>⟨z.1,ht _ _ z.2.1,z.2.2⟩
section
variable{P:Program}{w:World}{H:Hp}{h:Heap}{a:Addr}
theorem zfk(ok:HOk P w H h)(e:Rd H a u):Ym P w H h a u:=e.ok ok
theorem Rv(ok:HOk P w H h)(e:Rd H a (.dK kvs)):kvs.length<=sizeLine/\(a == sysModules)=false/\∃ vs,KV kvs vs/\h.DictOf (Yd P w) a vs :=
 show Ym P w H h a (.dK kvs) from zfk ok e
theorem Ei(ok:HOk P w H h)(e:H a=some (.dK kvs)):kvs.length<=sizeLine/\(a == sysModules)=false/\∃ vs,KV kvs vs/\h.DictOf (Yd P w) a vs:=Rv ok (.inl e)
theorem Pc(ok:HOk P w H h)(e:H a=some (.tup (ks.map kV))):(tupleKind (Yd P w)).is h ks a:=by
 obtain⟨_,its,r,o,h1,h2,n,h3⟩:=(show Ym P w H h a (.tup (ks.map kV)) from ok a _ e);exact⟨o,its.toArray,n,h1,h2,h3,by simpa using Hj r⟩
theorem Ly(ok:HOk P w H h)(e:Rd H a (.dT kvs)):kvs.length<=sizeLine/\(a == sysModules)=false /\
  ∃ xs,KT H kvs xs/\h.DictOfH (tupleKind (Yd P w)) a xs:=by
 obtain⟨z,y,xs,r,o,es,ep,h1,h2,h3,h4,h5⟩:=(show Ym P w H h a (.dT kvs) from zfk ok e);refine⟨z,y,xs,r,o,es,ep,h1,h2,h3,h4,fun x hx=>?_,h5⟩;have all:∀ {l:List (List Key×V)} {m:List (List Key×Addr×Value)},KT H l m->∀ x∈m,(tupleKind (Yd P w)).is h x.1 x.2.1:=by
  intro l m q
  induction q with
  | nil=>intro x hx;exact nomatch hx
  | @cons p q ps qs hq t ih =>
    intro x hx;rcases zs7.mp hx with e|hx
    ·subst e;exact Pc ok (by rw[<- hq.1];exact hq.2.1)
    ·exact ih x hx
 exact all r x hx
theorem zfl(ok:HOk P w H h)(e:H a=some (.dT kvs)):kvs.length<=sizeLine/\(a == sysModules)=false /\
  ∃ xs,KT H kvs xs/\h.DictOfH (tupleKind (Yd P w)) a xs:=Ly ok (.inl e)
end
def DGet(H:Hp)(a:Addr)(y:V)(r:Option V):Prop :=
 (∃ kvs k,Rd H a (.dK kvs)/\y=kV k/\r=valV kvs k)\/∃ kvs k b,Rd H a (.dT kvs)/\y=.ref b/\H b=some (.tup (k.map kV))/\r=valV kvs k
def DPut(H:Hp)(a:Addr)(y v:V)(H':Hp):Prop :=
 (∃ kvs k,H a=some (.dK kvs)/\y=kV k/\kvs.length<sizeLine/\H'=upd H a (.dK (putK kvs k v))) \/
 ∃ kvs k b,H a=some (.dT kvs)/\y=.ref b/\H b=some (.tup (k.map kV))/\kvs.length<sizeLine/\H'=upd H a (.dT (putK kvs k v))
theorem DGet.k{H:Hp}{a:Addr}{kvs:List (Key×V)}{k:Key}(e:H a=some (.dK kvs)):DGet H a (kV k) (valV kvs k):=.inl ⟨kvs,k,.inl e,rfl,rfl⟩
theorem DGet.t{H:Hp}{a b:Addr}{kvs:List (List Key×V)}{k:List Key}(e:H a=some (.dT kvs))(eb:H b=some (.tup (k.map kV))):DGet H a (.ref b) (valV kvs k):=.inr ⟨kvs,k,b,.inl e,rfl,eb,rfl⟩
theorem DPut.k{H:Hp}{a:Addr}{kvs:List (Key×V)}{k:Key}{v:V}(e:H a=some (.dK kvs))(hl:kvs.length<sizeLine):DPut H a (kV k) v (upd H a (.dK (putK kvs k v))):=.inl ⟨kvs,k,e,rfl,hl,rfl⟩
theorem DPut.t{H:Hp}{a b:Addr}{kvs:List (List Key×V)}{k:List Key}{v:V}(e:H a=some (.dT kvs))(eb:H b=some (.tup (k.map kV)))(hl:kvs.length<sizeLine) :
  DPut H a (.ref b) v (upd H a (.dT (putK kvs k v))):=.inr ⟨kvs,k,b,e,rfl,eb,hl,rfl⟩
section
variable{X:Cx}{pins:List (Addr×Obj)}{σ:St}{H:Hp}{s:Shared}{a:Addr}{y v:V}{u r:Value}{o:Option V}{A:Around}{E:Value->Shared->Prop}
theorem Inv.big(I:Inv X pins σ H s):sysModules<s.heap.objs.size:=by
 have h:mainGlobals<s.heap.objs.size:=(I.mod.glob.keeps I.bk).lt;exact Nat.lt_trans ⋯ h
theorem zao(hu:A.units+1<cLine)(I:Inv X pins σ H s)(g:DGet H a y (some v))(ry:RelV y u)(h:∀ w' s',Inv X pins σ H s'->RelV v w'->Q w' s') :
  wpAny (model X.prog X.w) A (getItem (.ref a) u) Q E s:=by
 rcases g with ⟨kvs,k,e,ey,l⟩|⟨kvs,k,b,e,ey,eb,l⟩
 ·subst ey;obtain⟨z,hd,vs,rel,dd⟩:=Rv I.hok e;obtain⟨w',hw,rw'⟩:=RelO.some_of (v:=v) (o:=valueAt vs k) (by rw[l];exact rel.val k);exact wpAny_getItem_of (N9 ry) dd.mapOf hw (h w' _ (I.tok _) rw')
 ·subst ey;cases (show u=Value.ref b from ry);obtain⟨z,hd,xs,rel,dd⟩:=Ly I.hok e;obtain⟨w',hw,rw'⟩:=RelO.some_of (v:=v) (o:=(atKey xs k).map (·.2)) (by rw[l];exact rel.val k);obtain⟨p,hp,hp2⟩:=zuc.mp hw;refine wpAny_getItem_heap (tupleKind_room_in1 hu) (Pc I.hok eb) dd hp ?_;rw[hp2];exact h w' _ (I.tok _) rw'
theorem zjf(hu:A.units+1<cLine)(I:Inv X pins σ H s)(g:DGet H a y o)(ry:RelV y u)(h:∀ s',Inv X pins σ H s'->Q (.bool o.isSome) s') :
  wpAny (model X.prog X.w) A (compareOp .In u (.ref a)) Q E s:=by
 rcases g with ⟨kvs,k,e,ey,l⟩|⟨kvs,k,b,e,ey,eb,l⟩
 ·subst ey;obtain⟨z,hd,vs,rel,dd⟩:=Rv I.hok e;refine wpAny_in_of (N9 ry) hd dd.mapOf ?_;rw[<- (rel.val k).isSome_eq,<- l];exact h _ (I.tok _)
 ·subst ey;cases (show u=Value.ref b from ry);obtain⟨z,hd,xs,rel,dd⟩:=Ly I.hok e;refine wpAny_in_heap (tupleKind_room_in1 hu) (Pc I.hok eb) hd dd ?_;have q:=(rel.val k).isSome_eq;rw[Option.isSome_map] at q;rw[<- q,<- l];exact h _ (I.tok _)
theorem zel(hu:A.units+1<cLine)(I:Inv X pins σ H s)(g:DGet H a y o)(ry:RelV y u)(h:∀ s',Inv X pins σ H s'->Q (.bool (!o.isSome)) s') :
  wpAny (model X.prog X.w) A (compareOp .NotIn u (.ref a)) Q E s:=by
 rcases g with ⟨kvs,k,e,ey,l⟩|⟨kvs,k,b,e,ey,eb,l⟩
 ·subst ey;obtain⟨z,hd,vs,rel,dd⟩:=Rv I.hok e;refine wpAny_notIn_of (N9 ry) hd dd.mapOf ?_;rw[<- (rel.val k).isSome_eq,<- l];exact h _ (I.tok _)
 ·subst ey;cases (show u=Value.ref b from ry);obtain⟨z,hd,xs,rel,dd⟩:=Ly I.hok e;refine wpAny_notIn_heap (tupleKind_room_in1 hu) (Pc I.hok eb) hd dd ?_;have q:=(rel.val k).isSome_eq;rw[Option.isSome_map] at q;rw[<- q,<- l];exact h _ (I.tok _)
theorem Qm(I:Inv X pins σ H s)(mu:Mut (H a))(hs:Heap.SameBut a s.heap h')(he:∃ q,h'.get? a=some q)(new:Ym X.prog X.w (upd H a ob) h' a ob) :
  Inv X pins σ (upd H a ob) { s with heap:=h',toks:=t' } :=
 I.write (x:=a) (e:=a) mu (.inl rfl) (fun b q hb z=>(hs.2 b hb).trans z) he new
theorem G3(z:kvs.length<=sizeLine)(hd:(a == sysModules)=false)(rel:KV kvs vs)(dd:h'.DictOf (Yd P w) a vs) :
  Ym P w H' h' a (.dK kvs):=⟨z,hd,vs,rel,dd⟩
theorem zap(hu:A.units+1<cLine)(I:Inv X pins σ H s)(g:DPut H a y v H')(ry:RelV y u)(rv:RelV v r)(h:∀ s',Inv X pins σ H' s'->Q () s') :
  wpAny (model X.prog X.w) A (setItem (.ref a) u r) Q E s:=by
 rcases g with ⟨kvs,k,e,ey,l,eH⟩|⟨kvs,k,b,e,ey,eb,l,eH⟩
 ·subst ey eH;obtain⟨z,hd,vs,rel,dd⟩:=Ei I.hok e;have hz:vs.length<=sizeLine:=by rw[<- rel.length];exact z
  have hl:(putK kvs k v).length<=sizeLine:=by have:=X3 kvs k v;omega
  refine wpAny_setItem_pairs (hsz:=hz) (N9 ry) dd fun h' dd' hs=>h _ ?_;have he:∃ q,h'.get? a=some q:=let ⟨q,_,_,hq,_⟩:=dd';⟨q,hq⟩;exact Qm I (by rw[e];exact True.intro) hs he (G3 hl hd (rel.put k rv) dd')
 ·subst ey eH;cases (show u=Value.ref b from ry);obtain⟨z,hd,xs,rel,dd⟩:=zfl I.hok e;have hz:xs.length<=sizeLine:=by rw[<- Paired.length rel];exact z
  have hl:(putK kvs k v).length<=sizeLine:=by have:=X3 kvs k v;omega
  refine wpAny_setItem_heap (hsz:=hz) (tupleKind_room_in1 hu) (Pc I.hok eb) dd fun h' dd' hs=>h _ ?_;obtain⟨q,es,ep,hq,h2,h3,h4,_,h5⟩:=dd';refine Qm I (by rw[e];exact True.intro) hs ⟨q,hq⟩ ⟨hl,hd,_,(rel.put k eb rv).keeps fun c ys ec=>?_,q,es,ep,hq,h2,h3,h4,h5⟩;rw[Zi (Yo ec e (fun z=>nomatch z))];exact ec
end
section
variable{X:Cx}{pins:List (Addr×Obj)}{σ:St}{H:Hp}{s:Shared}{a:Addr}{kvs:List (Key×V)}{k:Key}{u:Value}{A:Around}{E:Value->Shared->Prop}
theorem zh5(I:Inv X pins σ H s)(e:H a=some (.dK kvs))(ry:RelV (kV k) u)(l:valV kvs k=some v)(hm:more=[]\/∃ x,more=[x])
  (h:∀ w' s',Inv X pins σ (upd H a (.dK (Xn kvs k))) s'->RelV v w'->Q w' s'):wpAny (model X.prog X.w) A (call (.builtin "dict.pop") (.ref a :: u :: more)) Q E s:=by
 obtain⟨z,hd,vs,rel,dd⟩:=Ei I.hok e;obtain⟨w',hw,rw'⟩:=RelO.some_of (v:=v) (o:=valueAt vs k) (by rw[<- l];exact rel.val k);have hp:(keyPart u).isSome=true:=by
  cases k with
  | inl i=>obtain⟨t,q⟩:=(show ∃ t,u=Value.int i t from ry);subst q;rfl
  | inr x=>obtain⟨t,q⟩:=(show ∃ t,u=Value.str x t from ry);subst q;rfl
 have ha:argsOk "dict.pop" ⟨.ref a :: u :: more,[]⟩:=by
  rcases hm with q|⟨x,q⟩
  ·subst q;exact PySem.F.args_dict_pop_2 _ _
  ·subst q;exact PySem.F.args_dict_pop_3 _ _ _
 refine call_meetsIn PySem.F.slot_dict_pop dd.typeIs PySem.F.entry_dict_pop ha (meets_dict_pop_there (Yd X.prog X.w) a (N9 ry) more hm hp)
  ⟨vs,w',dd,by rw[<- rel.length];exact z,hw,fun h' dd' hs=>h w' _ ?_ rw'⟩
 have he:∃ q,h'.get? a=some q:=let ⟨q,_,_,hq,_⟩:=dd';⟨q,hq⟩;exact Qm I (by rw[e];exact True.intro) hs he (G3 (zto (Eh kvs k) z) hd (rel.drop k) dd')
theorem zh6(I:Inv X pins σ H s)(e:Rd H a (.dK kvs))(h:∀ t s',Inv X pins σ H s'->Q (.int kvs.length t) s'):wpAny (model X.prog X.w) A (call (.builtin "len") [.ref a]) Q E s:=by
 obtain⟨z,hd,vs,rel,dd⟩:=Rv I.hok e;refine call_len_dict hd dd (by rw[<- rel.length];rw[sizeLine_eq] at z;omega) ?_;rw[<- rel.length];exact h _ _ (I.tok _)
end
def zgd(i:Expr):Prop:=∀ ov iv,subscripted i false ov iv=operate [ov,iv] (getItem ov iv)
theorem zem{prog:Program}{w:World}{A:Around}{E:Value->Shared->Prop}{s:Shared}{env:Env}{value slice:Expr}{pos:Pos}{T id:String}{Q:Value->Shared->Prop}
  (hl:typeLookup (.type T) "__getitem__"=pure (some (.builtin id))) (hs:zgd slice)
  (h:wpAny (model prog w) A (eval value env) (fun o s₁=>wpAny (model prog w) A (eval slice env) (fun i s₂=>s₂.TypeIs o T/\wpAny (model prog w) A (getItem o i) Q E s₂) E s₁) E s) :
  wpAny (model prog w) A (eval (.Subscript value slice pos) env) Q E s:=by
 refine Subscript_ (wpAny_mono h (fun o s₁ h₁=>wpAny_mono h₁ (fun i s₂ h₂=>?_) fun _ _ x=>x) fun _ _ x=>x);obtain⟨hT,h₂⟩:=h₂;unfold subscriptTail;refine wpAny_bind ?_;rw[getitemInPython_of_ne hT.not_modules];refine wpAny_bind (wpAny_specialOf hT hl ?_);have fin:wpAny (model prog w) A (subscripted slice false o i) (fun r s₃=>wpAny (model prog w) A (letTemporaryGo value o r >>= fun _=>pure r) Q E s₃) E s₂:=by
  rw[hs o i];exact wpAny_operating (wpAny_mono h₂ (fun r s₃ h₃=>wpAny_bind (wpAny_letTemporaryGo (wpAny_pure h₃))) fun _ _ x=>x)
 first
  | exact wpAny_pure (wpAny_bind fin)
  | exact wpAny_bind (wpAny_pure (wpAny_bind fin))
  | exact wpAny_bind fin
theorem Ej(I:Inv X pins σ H s)(g:DGet H a y o):s.TypeIs (.ref a) "dict":=by
 rcases g with ⟨kvs,k,e,_,_⟩|⟨kvs,k,b,e,_,_,_⟩
 ·obtain⟨_,_,vs,_,dd⟩:=Rv I.hok e;exact dd.typeIs
 ·obtain⟨_,_,xs,_,dd⟩:=Ly I.hok e;exact dd.typeIs
inductive zge(Q:VK)(x:V)(y:V)(H2:Hp):Prop where
 | mk(a)(v)(_:x=.ref a)(_:DGet H2 a y (some v))(_:Q v H2)
def zfm(td ty:TE):TE:=fun σ H Q=>td σ H fun x H1=>ty σ H1 fun y H2=>zge Q x y H2
inductive zh7(Q:VK)(y:V)(x:V)(H2:Hp):Prop where
 | mk(a)(o)(_:x=.ref a)(_:DGet H2 a y o)(_:Q (.bl o.isSome) H2)
def zjg(ty td:TE):TE:=fun σ H Q=>ty σ H fun y H1=>td σ H1 fun x H2=>zh7 Q y x H2
inductive zce(Q:VK)(y:V)(x:V)(H2:Hp):Prop where
 | mk(a)(o)(_:x=.ref a)(_:DGet H2 a y o)(_:Q (.bl (!o.isSome)) H2)
def zen(ty td:TE):TE:=fun σ H Q=>ty σ H fun y H1=>td σ H1 fun x H2=>zce Q y x H2
inductive zgf(D:Oa)(σ:L2.St)(v:V)(x:V)(y:V)(H3:Hp):Prop where
 | mk(a)(H4)(_:x=.ref a)(_:DPut H3 a y v H4)(_:D.nx σ H4)
def zh8(td ty tv:TE):TS:=fun D σ H=>tv σ H fun v H1=>td σ H1 fun x H2=>ty σ H2 fun y H3=>zgf D σ v x y H3
section
variable{X:Cx}{o i e value:Expr}{pos pos' tpos:Pos}{td ty tv:TE}
theorem zeo(hu:X.A.units+1<cLine)(ho:PE X o td)(hi:PE X i ty)(hs:zgd i):PE X (.Subscript o i pos) (zfm td ty):=by
 intro pins s σ H Q I h;refine zem PySem.F.slot_dict_getitem.lookup hs (thn (ho pins s σ H _ I h) fun u s1 ⟨x,H1,I1,rx,q1⟩=>thn (hi pins s1 σ H1 _ I1 q1) fun iv s2 ⟨y,H2,I2,ry,a,v,ex,g,q2⟩=>?_);subst ex;obtain rfl:u=Value.ref a:=rx;exact⟨Ej I2 g,zao hu I2 g ry fun w' s3 I3 rw'=>⟨v,H2,I3,rw',q2⟩⟩
theorem G4(hu:X.A.units+1<cLine)(hi:PE X i ty)(ho:PE X o td):PC X .In i o (zjg ty td):=by
 intro pins s σ H Q I h;refine thn (hi pins s σ H _ I h) fun iv s1 ⟨y,H1,I1,ry,q1⟩=>thn (ho pins s1 σ H1 _ I1 q1) fun u s2 ⟨x,H2,I2,rx,a,ov,ex,g,q2⟩=>?_;subst ex;obtain rfl:u=Value.ref a:=rx;exact zjf hu I2 g ry fun s3 I3=>⟨.bl ov.isSome,H2,I3,rfl,q2⟩
theorem Na(hu:X.A.units+1<cLine)(hi:PE X i ty)(ho:PE X o td):PC X .NotIn i o (zen ty td):=by
 intro pins s σ H Q I h;refine thn (hi pins s σ H _ I h) fun iv s1 ⟨y,H1,I1,ry,q1⟩=>thn (ho pins s1 σ H1 _ I1 q1) fun u s2 ⟨x,H2,I2,rx,a,ov,ex,g,q2⟩=>?_;subst ex;obtain rfl:u=Value.ref a:=rx;exact zel hu I2 g ry fun s3 I3=>⟨.bl (!ov.isSome),H2,I3,rfl,q2⟩
theorem Uh(hu:X.A.units+1<cLine)(ho:PE X o td)(hi:PE X i ty)(hv:PE X value tv)(hs:swapsWith value (some (.Subscript o i pos')) pos.line X.env=pure false) :
  PS X (.Assign [.Subscript o i pos'] value pos) (zh8 td ty tv):=by
 intro pins s σ H D I h;refine wpAny_Assign_Subscript (thn (hv pins s σ H _ I h) fun r s1 ⟨v,H1,I1,rv,q1⟩=>thn (ho pins s1 σ H1 _ I1 q1) fun u s2 ⟨x,H2,I2,rx,q2⟩=>thn (hi pins s2 σ H2 _ I2 q2) fun iv s3 ⟨y,H3,I3,ry,a,H4,ex,g,q3⟩=>?_) hs;subst ex;obtain rfl:u=Value.ref a:=rx;exact zap hu I3 g ry rv fun s4 I4=>⟨σ,H4,I4,q3⟩
end
theorem Ek(h:Heap)(hb:sysModules<h.objs.size):Ym P w H (h.push { cls:=.type "dict",data:=.dict #[] }) h.objs.size (.dK []) :=
 ⟨ztt _,ztr.mpr (Ne.symm (ztv hb)),[],.nil,Heap.DictOf.new h⟩
theorem zcf(h:Heap)(hb:sysModules<h.objs.size):Ym P w H (h.push { cls:=.type "dict",data:=.dict #[] }) h.objs.size (.dT []) :=
 ⟨ztt _,ztr.mpr (Ne.symm (ztv hb)),[],.nil,_,#[],0,Heap.get?_push_size _ rfl,⟨rfl,rfl,rfl⟩,rfl,rfl,zuv⟩
def zgg:TE:=fun _ H Q=>∀ p,H p=none->Q (.ref p) (upd H p (.dK []))
def zgh:TE:=fun _ H Q=>∀ p,H p=none->Q (.ref p) (upd H p (.dT []))
section
variable{X:Cx}{pos:Pos}
theorem Oc:PE X (.Dict [] [] pos) zgg:=fun pins s σ H Q I h =>
 wpAny_Dict_empty ⟨.ref s.heap.objs.size,_,I.laid (a:=s.heap.objs.size) (o:=.dK []) (t':=s.toks) (fun _ _ q=>Heap.get?_push_of_some _ q) (ztb _) (Ek s.heap I.big),rfl,h _ (I.hok.fresh (ztb _))⟩
theorem El:PE X (.Dict [] [] pos) zgh:=fun pins s σ H Q I h =>
 wpAny_Dict_empty ⟨.ref s.heap.objs.size,_,I.laid (a:=s.heap.objs.size) (o:=.dT []) (t':=s.toks) (fun _ _ q=>Heap.get?_push_of_some _ q) (ztb _) (zcf s.heap I.big),rfl,h _ (I.hok.fresh (ztb _))⟩
end
def C3:List (TE×TE)->St->Hp->(List (V×V)->Hp->Prop)->Prop
 | [],_,H,Q=>Q [] H
 | (tk,tv) :: r,σ,H,Q=>tk σ H fun x H1=>tv σ H1 fun y H2=>C3 r σ H2 fun ps H3=>Q ((x,y) :: ps) H3
abbrev VV:List (V×V)->List (Value×Value)->Prop:=Paired fun p q=>RelV p.1 q.1/\RelV p.2 q.2
def PPs(X:Cx)(pos:Pos)(keys:List (Option Expr))(values:List Expr)(trs:List (TE×TE)):Prop :=
 ∀ (pins:List (Addr×Obj)) (s:Shared) (σ:St) (H:Hp) (Q:List (V×V)->Hp->Prop),Inv X pins σ H s->C3 trs σ H Q ->
   wpAny (model X.prog X.w) X.A (evalPairs (pairTrees keys values X.env pos)) (fun vs s'=>∃ ps H',Inv X pins σ H' s'/\VV ps vs/\Q ps H') X.xe s
theorem Aa:PPs X pos [] [] []:=fun pins s σ H Q I h=>pairTrees_nil_walk ⟨[],H,I,.nil,h⟩
theorem Od(hk:PE X k tk)(hv:PE X v tv)(hr:PPs X pos ks vs trs) :
  PPs X pos (some k :: ks) (v :: vs) ((tk,tv) :: trs):=fun pins s σ H Q I h =>
 pairTrees_cons_walk (thn (hk pins s σ H _ I h) fun u s1 ⟨x,H1,I1,rx,q1⟩=>thn (hv pins s1 σ H1 _ I1 q1) fun w2 s2 ⟨y,H2,I2,ry,q2⟩ =>
  thn (hr pins s2 σ H2 _ I2 q2) fun ws s3 ⟨ps,H3,I3,rel,q3⟩=>⟨(x,y) :: ps,H3,I3,.cons ⟨rx,ry⟩ rel,q3⟩)
def Vr(kvs more:List (Key×V)):List (Key×V):=more.foldl (fun acc kv=>putK acc kv.1 kv.2) kvs
theorem KV.merge:∀ {more:List (Key×V)} {rs:List (Key×Value)} {kvs:List (Key×V)} {vs:List (Key×Value)},KV more rs->KV kvs vs->KV (Vr kvs more) (merged vs rs):=by
 intro more rs kvs vs r;unfold KV at r
 induction r generalizing kvs vs with
 | nil=>intro q;exact q
 | @cons p q ps qs h t ih =>
   intro r0;have e:KV (putK kvs p.1 p.2) (stored vs q.1 q.2):=by
    have:=r0.put p.1 h.2;rw[<- h.1];exact this
   exact ih e
theorem Tp:∀ (more kvs:List (Key×V)),(Vr kvs more).length<=kvs.length+more.length
 | [],kvs=>by show kvs.length<=kvs.length+0;omega
 | p :: r,kvs=>by
   have h1:=Tp r (putK kvs p.1 p.2);have h2:=X3 kvs p.1 p.2;show (Vr (putK kvs p.1 p.2) r).length<=_;rw[ztk];omega
theorem Lz:∀ {kvs:List (Key×V)} {ws:List (Value×Value)},VV (kvs.map fun kv=>(kV kv.1,kv.2)) ws->∃ rs,Carries (Yd P w) ws rs/\KV kvs rs
 | [],_,r=>by rw[List.map_nil] at r;cases r;exact⟨[],True.intro,.nil⟩
 | p :: kvs,_,r=>by
   rw[ztf] at r;cases r with
   | @cons a b as bs h t =>
     obtain⟨rs,c,q⟩:=Lz (P:=P) (w:=w) t;obtain⟨b1,b2⟩:=b;exact⟨(p.1,b2) :: rs,⟨N9 h.1,rfl,c⟩,.cons ⟨rfl,h.2⟩ q⟩
def zh9(trs:List (TE×TE)):TE:=fun σ H Q=>∀ p,H p=none->C3 trs σ (upd H p (.dK [])) fun ps H2=>H2 p=some (.dK [])/\∃ kvs:List (Key×V),ps=kvs.map (fun kv=>(kV kv.1,kv.2))/\kvs.length<=15/\Q (.ref p) (upd H2 p (.dK (Vr [] kvs)))
theorem Ab(h:PPs X pos keys values trs)(hall:keys.all (·.isSome)=true)(hl:keys.length=values.length)(h0:keys≠[])
  (h15:keys.length<=15):PE X (.Dict keys values pos) (zh9 trs):=by
 intro pins s σ H Q I q;have hn:=I.hok.fresh (ztb s.heap.objs.size);have I1:=I.laid (a:=s.heap.objs.size) (o:=.dK []) (h':=s.heap.push { cls:=.type "dict",data:=.dict #[] }) (t':=s.toks) (fun _ _ q=>Heap.get?_push_of_some _ q) (ztb _) (Ek s.heap I.big);refine wpAny_Dict_walk (knd:=Yd X.prog X.w) hall hl h0 h15 (thn (h pins _ σ _ _ I1 (q _ hn)) fun ws s2 ⟨ps,H2,I2,rel,e,kvs,ep,lk,q2⟩=>?_);subst ep;obtain⟨rs,c,rk⟩:=Lz (P:=X.prog) (w:=X.w) rel;obtain⟨z,hd,vs0,r0,dd⟩:=Ei I2.hok e;cases r0;refine⟨rs,c,dd,fun h' dd' hs=>⟨.ref s.heap.objs.size,_,?_,rfl,q2⟩⟩;have hz:(Vr [] kvs).length<=sizeLine:=by
  have h1:=Tp kvs [];rw[List.length_nil] at h1;rw[sizeLine_eq];omega
 have he:∃ q,h'.get? s.heap.objs.size=some q:=let ⟨q,_,_,hq,_⟩:=dd';⟨q,hq⟩;exact Qm I2 (by rw[e];exact True.intro) hs he (G3 hz hd (rk.merge .nil) dd')
structure M1(X:Cx)(o:Expr)(m:Str)(apos:Pos)(e:Expr)(cpos:Pos):Prop where
 base:attributeBase o m X.env (eval o X.env)=eval o X.env
 few:((backTo cpos (starEach [e] X.env)).all (fun x=>!x.1)&&(backToKw cpos (keywordEach [] X.env)).all (fun x=>x.1.isSome)
  && decide (([e]:List Expr).length+([]:List Keyword).length+(if ([]:List Keyword).isEmpty then 0 else 1)<30))=true
 line:(apos.endLine == cpos.line)=true
 trees:backTo cpos (starEach [e] X.env)=[(false,eval e X.env)]
structure M2(X:Cx)(o:Expr)(m:Str)(apos:Pos)(e f:Expr)(cpos:Pos):Prop where
 base:attributeBase o m X.env (eval o X.env)=eval o X.env
 few:((backTo cpos (starEach [e,f] X.env)).all (fun x=>!x.1)&&(backToKw cpos (keywordEach [] X.env)).all (fun x=>x.1.isSome)
  && decide (([e,f]:List Expr).length+([]:List Keyword).length+(if ([]:List Keyword).isEmpty then 0 else 1)<30))=true
 line:(apos.endLine == cpos.line)=true
 trees:backTo cpos (starEach [e,f] X.env)=[(false,eval e X.env),(false,eval f X.env)]
def IsD(H:Hp)(a:Addr):Prop:=(∃ kvs,Rd H a (.dK kvs))\/∃ kvs,Rd H a (.dT kvs)
theorem C4(I:Inv X pins σ H s)(d:IsD H a) :
  s.TypeIs (.ref a) "dict"/\(∀ b,Value.ref a=.ref b->∃ ob,s.heap.get? b=some ob/\ob.dict=none)/\(a == sysModules)=false:=by
 rcases d with ⟨kvs,e⟩|⟨kvs,e⟩
 ·obtain⟨_,hd,vs,_,dd⟩:=Rv I.hok e;refine⟨dd.typeIs,fun b q=>?_,hd⟩;cases q;obtain⟨ob,_,_,h1,h2,_⟩:=dd;exact⟨ob,h1,h2.2.1⟩
 ·obtain⟨_,hd,xs,_,dd⟩:=Ly I.hok e;refine⟨dd.typeIs,fun b q=>?_,hd⟩;cases q;obtain⟨ob,_,_,h1,h2,_⟩:=dd;exact⟨ob,h1,h2.2.1⟩
section
variable{X:Cx}{pins:List (Addr×Obj)}{σ:St}{H:Hp}{s:Shared}{a:Addr}{y d:V}{u r:Value}{o:Option V}{A:Around}{E:Value->Shared->Prop}
theorem zgi(hu:A.units+1<cLine)(I:Inv X pins σ H s)(g:DGet H a y o)(ry:RelV y u)(rd:RelV d r)(h:∀ w' s',Inv X pins σ H s'->RelV (o.getD d) w'->Q w' s') :
  wpAny (model X.prog X.w) A (call (.builtin "dict.get") [.ref a,u,r]) Q E s:=by
 rcases g with ⟨kvs,k,e,ey,l⟩|⟨kvs,k,b,e,ey,eb,l⟩
 ·subst ey;obtain⟨z,hd,vs,rel,dd⟩:=Rv I.hok e;refine call_meetsIn PySem.F.slot_dict_get dd.typeIs PySem.F.entry_dict_get (PySem.F.args_dict_get_3 _ _ _) (meets_dict_get_default (Yd X.prog X.w) a (N9 ry) hd r) ⟨_,dd.mapOf,h _ _ (I.tok _) ?_⟩;rw[l];exact(rel.val k).getD rd
 ·subst ey;cases (show u=Value.ref b from ry);obtain⟨z,hd,xs,rel,dd⟩:=Ly I.hok e;refine call_meetsIn PySem.F.slot_dict_get dd.typeIs PySem.F.entry_dict_get (PySem.F.args_dict_get_3 _ _ _) (meetsH_dict_get_default (tupleKind (Yd X.prog X.w)) a b hd r) ⟨tupleKind_room_in1 hu,k,xs,Pc I.hok eb,dd,h _ _ (I.tok _) ?_⟩;rw[l];exact(rel.val k).getD rd
end
inductive zep(ty:TE)(tx:TE)(σ:L2.St)(Q:VK)(x:V)(H1:Hp):Prop where
 | mk(a)(_:x=.ref a)(_:IsD H1 a)(_:ty σ H1 fun y H2=>tx σ H2 fun z H3=>∃ o,DGet H3 a y o/\Q (o.getD z) H3)
def zgj(td ty tx:TE):TE:=fun σ H Q=>td σ H fun x H1=>zep ty tx σ Q x H1
inductive zeq(ty:TE)(σ:L2.St)(Q:VK)(x:V)(H1:Hp):Prop where
 | mk(a)(_:x=.ref a)(_:IsD H1 a)(_:ty σ H1 fun y H2=>∃ kvs k v,H2 a=some (.dK kvs)/\y=kV k/\valV kvs k=some v/\Q v (upd H2 a (.dK (Xn kvs k))))
def zgk(td ty:TE):TE:=fun σ H Q=>td σ H fun x H1=>zeq ty σ Q x H1
section
variable{X:Cx}{o e f:Expr}{apos cpos:Pos}{td ty tx:TE}
theorem zcg(hu:X.A.units+1<cLine)(ho:PE X o td)(he:PE X e ty)(hf:PE X f tx)(m:M2 X o "get" apos e f cpos):PE X (.Call (.Attribute o "get" apos) [e,f] [] cpos) (zgj td ty tx):=by
 intro pins s σ H Q I h;refine wpAny_Call_method m.base m.few m.line PySem.F.plainAttrs_dict PySem.F.slot_dict_get PySem.F.type_dict_get (thn (ho pins s σ H _ I h) fun u s1 ⟨x,H1,I1,rx,a,ex,d,q1⟩=>?_);subst ex;obtain rfl:u=Value.ref a:=rx;obtain⟨t1,t2,_⟩:=C4 I1 d;refine⟨t1,t2,?_⟩;rw[m.trees];refine Calls.callWith_builtin rfl (Calls.evalArgs_plain (Calls.spliced_cons (thn (he pins s1 σ H1 _ I1 q1) fun iv s2 ⟨y,H2,I2,ry,q2⟩ =>
  Calls.spliced_cons (thn (hf pins s2 σ H2 _ I2 q2) fun fv s3 ⟨z,H3,I3,rz,ov,g,q3⟩=>Calls.spliced_nil ?_))))
 exact zgi hu I3 g ry rz fun w' s4 I4 rw'=>⟨_,H3,I4,rw',q3⟩
theorem zch(ho:PE X o td)(he:PE X e ty)(m:M1 X o "pop" apos e cpos):PE X (.Call (.Attribute o "pop" apos) [e] [] cpos) (zgk td ty):=by
 intro pins s σ H Q I h;refine wpAny_Call_method m.base m.few m.line PySem.F.plainAttrs_dict PySem.F.slot_dict_pop PySem.F.type_dict_pop (thn (ho pins s σ H _ I h) fun u s1 ⟨x,H1,I1,rx,a,ex,d,q1⟩=>?_);subst ex;obtain rfl:u=Value.ref a:=rx;obtain⟨t1,t2,_⟩:=C4 I1 d;refine⟨t1,t2,?_⟩;rw[m.trees];refine Calls.callWith_builtin rfl (Calls.evalArgs_plain (Calls.spliced_cons (thn (he pins s1 σ H1 _ I1 q1) fun iv s2 ⟨y,H2,I2,ry,kvs,k,v,ea,ey,l,q2⟩=>Calls.spliced_nil ?_)));subst ey;exact zh5 I2 ea ry l (.inl rfl) fun w' s3 I3 rw'=>⟨v,_,I3,rw',q2⟩
end
end L2
namespace HT
open PySem PyProof.Rows
section
open PySem.SeqAt
open PySem.AutoSeq1 (wpAny_loadPart')
open PySem.MeetsSeq PySem.MeetsSeq2 PySem.MeetsSeq3
end
section
variable{prog:Program}{w:World}{A:Around}{E:Value->Shared->Prop}{s:Shared}
theorem cat_tup(ht:IsTup s.heap t vs.toArray)(hb:IsTup s.heap b ws.toArray)(hv:vs≠[])
  (h1:ws=[]->Q (.ref t) s) (h2:ws≠[]->Q (.ref s.heap.objs.size) { s with heap:=s.heap.push { cls:=.type "tuple",data:=.seq (vs++ws).toArray } })
  (hsz:vs.length+ws.length<=sizeLine):wpAny (model prog w) A (binaryOp .Add (.ref t) (.ref b)) Q E s:=by
 obtain⟨⟨cls,dd,data,sl⟩,ho,hc,n,hd⟩:=id ht;obtain⟨⟨cls2,dd2,data2,sl2⟩,ho2,hc2,n2,hd2⟩:=id hb;simp only at hc hd hc2 hd2;subst hc hd hc2 hd2;have e:vs.toArray++ws.toArray=(vs++ws).toArray:=by simp
 by_cases hw:ws=[]
 ·exact concat_meets ⟨_,ho,rfl⟩ ⟨_,ho2,rfl⟩ noFill_tuple_add seq_tuple_add PySem.F.slot_tuple_add PySem.F.entry_tuple_add (PySem.F.args_tuple_add_2 _ _)
   (tuple_addW1 t b vs.toArray ws.toArray n n2 dd dd2 sl sl2 (by simpa using hv) (by simp[hw])) ⟨ho,ho2,h1 hw⟩
 ·refine concat_meets ⟨_,ho,rfl⟩ ⟨_,ho2,rfl⟩ noFill_tuple_add seq_tuple_add PySem.F.slot_tuple_add PySem.F.entry_tuple_add (PySem.F.args_tuple_add_2 _ _)
   (tuple_addW2 t b vs.toArray ws.toArray n n2 dd dd2 sl sl2 (by simpa using hv) (by simpa using hw) (by rw[zte,zte];exact hsz)) ⟨ho,ho2,?_⟩
  rw[e];exact h2 hw
def sIx(n d:Nat):Option Int->Nat
 | none=>d
 | some v=>if v<0 then (v+(n:Int)).toNat else min v.toNat n
theorem sIx_none(n d:Nat):sIx n d none=d:=rfl
theorem sIx_nat(n d k:Nat):sIx n d (some (k:Int))=min k n:=by
 show (if (k:Int)<0 then ((k:Int)+(n:Int)).toNat else min (k:Int).toNat n)=min k n;rw[if_neg ⋯,ztq]
end
end HT
namespace L2
open PySem PySem.Spec PyProof.Rows
abbrev TO:=St->Hp->(Option Int->Hp->Prop)->Prop
def PO(X:Cx)(e:Option Expr)(t:TO):Prop :=
 ∀ (pins:List (Addr×Obj)) (s:Shared) (σ:St) (H:Hp) (Q:Option Int->Hp->Prop),Inv X pins σ H s->t σ H Q ->
   wpAny (model X.prog X.w) X.A (evalPart e X.env) (fun u s'=>∃ o H',Inv X pins σ H' s'/\IsPart u o/\Q o H') X.xe s
def zer:TO:=fun _ H Q=>Q none H
inductive zgl(Q:Option Int->Hp->Prop)(x:V)(H1:Hp):Prop where
 | mk(i)(_:x=.int i)(_:Q (some i) H1)
def zia(t:TE):TO:=fun σ H Q=>t σ H fun x H1=>zgl Q x H1
section
variable{X:Cx}{e:Expr}{te:TE}{lo hi:Option Expr}{tl th:TO}{pos p2:Pos}
theorem zes:PO X none zer:=by
 intro pins s σ H Q I h;rw[evalPart_none];exact wpAny_pure ⟨none,H,I,.none,h⟩
theorem zet(h:PE X e te):PO X (some e) (zia te):=by
 intro pins s σ H Q I hw;rw[evalPart_some];refine thn (h pins s σ H _ I hw) fun u s1 ⟨x,H1,I1,r1,q1⟩=>?_;obtain⟨i,rfl,q⟩:=q1;obtain⟨t,rfl⟩:=r1;exact⟨some i,H1,I1,.int i t,q⟩
def SlR(X:Cx)(r:V->Option Int->Option Int->Hp->VK->Prop):Prop :=
 ∀ (pins:List (Addr×Obj)) (s:Shared) (σ:St) (H:Hp) (x:V) (v vl vu:Value) (lo hi:Option Int) (sl:Addr) (Q:VK),Inv X pins σ H s->RelV x v->s.heap.IsSliceOf sl vl vu .none->IsPart vl lo->IsPart vu hi->r x lo hi H Q ->
   ∃ T id,typeLookup (.type T) "__getitem__"=pure (some (.builtin id))/\s.TypeIs v T/\wpAny (model X.prog X.w) X.A (getItem v (.ref sl)) (EP X pins σ Q) X.xe s
def tSl(r:V->Option Int->Option Int->Hp->VK->Prop)(te:TE)(tl th:TO):TE:=fun σ H Q=>te σ H fun x H1=>tl σ H1 fun l H2=>th σ H2 fun u H3=>r x l u H3 Q
theorem zci(hr:SlR X r)(he:PE X e te)(hl:PO X lo tl)(hu:PO X hi th):PE X (.Subscript e (.Slice lo hi none p2) pos) (tSl r te tl th):=by
 intro pins s σ H Q I h;refine Subscript_ (thn (he pins s σ H _ I h) fun v s1 ⟨x,H1,I1,r1,q1⟩=>?_);refine wpAny_Slice (thn (hl pins s1 σ H1 _ I1 q1) fun vl s2 ⟨l,H2,I2,pl,q2⟩=>thn (hu pins s2 σ H2 _ I2 q2) fun vu s3 ⟨u,H3,I3,pu,q3⟩=>?_);rw[evalPart_none];refine wpAny_pure ?_;have I4:Inv X pins σ H3 { s3 with heap:=s3.heap.push { cls:=.type "slice",data:=.fields #[vl,vu,.none] } }:=I3.kept (t':=s3.toks) fun b ob q=>Heap.get?_push_of_some _ q;obtain⟨T,id,hT,ht,hg⟩:=hr pins { s3 with heap:=s3.heap.push { cls:=.type "slice",data:=.fields #[vl,vu,.none] } } σ H3 x v vl vu l u s3.heap.objs.size Q I4 r1 (Heap.IsSliceOf.new ..) pl pu q3;show wpAny (model X.prog X.w) X.A (subscriptTail e (.Slice lo hi none p2) v (.ref s3.heap.objs.size)) (EP X pins σ Q) X.xe { s3 with heap:=s3.heap.push { cls:=.type "slice",data:=.fields #[vl,vu,.none] } };exact tail_any (ops:=[.ref s3.heap.objs.size,v]) ht hT hg (by with_unfolding_all rfl)
def zaq(xs:List V)(lo hi:Option Int):List V:=(xs.drop (HT.sIx xs.length 0 lo)).take (HT.sIx xs.length xs.length hi-HT.sIx xs.length 0 lo)
theorem Em(xs:List V)(lo hi:Option Int):(zaq xs lo hi).length<=xs.length:=by
 unfold zaq;rw[List.length_take,List.length_drop];omega
inductive zfn(K:Frag)(x:V)(y:V)(H:Hp)(Q:VK):Prop where
 | mk(a)(b)(xs)(ys)(_:x=.ref a)(_:y=.ref b)(_:SqT K H a xs)(_:SqT K H b ys)(_:xs≠[])(_:xs.length+ys.length<=sizeLine)(_:(ys=[]->Q (.ref a) H))(_:(ys≠[]->∀ p,H p=none->Q (.ref p) (upd H p (.tup (xs++ys)))))
theorem Vals.nil_iff(r:Vals xs us):us=[]↔xs=[]:=by
 cases r with
 | nil=>simp
 | cons _ _=>simp
theorem zeu:OpR X (binaryOp .Add) (zfn X.K):=by
 intro pins s σ H x y v u Q I rx ry h;obtain⟨a,b,xs,ys,rfl,rfl,ha,hb,hx,hz,q1,q2⟩:=h;cases rx;cases ry;obtain⟨its,r1,p1,_⟩:=I.tuple ha;obtain⟨its2,r2,p2,_⟩:=I.tuple hb;refine HT.cat_tup p1 p2 (fun z=>hx (r1.nil_iff.mp z)) (fun z=>⟨.ref a,H,I,rfl,q1 (r2.nil_iff.mp z)⟩) (fun z=>?_) (by rw[<- r1.length,<- r2.length];exact hz);refine⟨.ref s.heap.objs.size,_,I.laid (t':=s.toks) (o:=.tup (xs++ys)) (fun b ob q=>Heap.get?_push_of_some _ q) (ztb _) ?_,rfl,q2 (fun w=>z (r2.nil_iff.mpr w)) _ (I.hok.fresh (ztb _))⟩;exact⟨by rw[zs8];exact hz,_,r1.append r2,IsTup.new _ _⟩
end
def ixN(n:Nat)(i:Int):Option Nat:=if 0<=i then (if i<n then some i.toNat else none) else if -(n:Int)<=i then some (i+n).toNat else none
def atI{α:Type}(xs:List α)(i:Int):Option α:=(ixN xs.length i).bind fun j=>xs[j]?
theorem Ac(h:ixN n i=some j):seqIndex? i n=some j/\j<n/\-(n:Int)<=i/\i<n:=by
 unfold ixN at h;by_cases h0:0<=i
 ·rw[if_pos h0] at h;by_cases h1:i<n
  ·rw[if_pos h1] at h;have e:i.toNat=j:=Option.some.inj h;exact⟨by rw[seqIndex_of h0 h1,e],by omega,by omega,h1⟩
  ·rw[if_neg h1] at h;cases h
 ·rw[if_neg h0] at h;by_cases h1:-(n:Int)<=i
  ·rw[if_pos h1] at h;have e:(i+n).toNat=j:=Option.some.inj h;exact⟨by rw[seqIndex_neg ⋯ h1,e],by omega,h1,by omega⟩
  ·rw[if_neg h1] at h;cases h
theorem Ae(h:atI xs i=some v):∃ j,seqIndex? i xs.length=some j/\xs[j]?=some v/\j<xs.length/\-(xs.length:Int)<=i/\i<xs.length:=by
 unfold atI at h;cases e:ixN xs.length i with
 | none=>rw[e] at h;cases h
 | some j =>
   rw[e] at h;obtain⟨h1,h2,h3,h4⟩:=Ac e;exact⟨j,h1,h,h2,h3,h4⟩
theorem Ye{α:Type}{xs:List α}{j:Nat}{v:α}(h:xs[j]?=some v):atI xs (j:Int)=some v:=by
 have hj:j<xs.length:=(zs5.mp h).1;have e:ixN xs.length (j:Int)=some j:=by
  unfold ixN;rw[if_pos ⋯,if_pos ⋯];simp
 unfold atI;rw[e];exact h
def Af(b:Expr):Prop:=∀ o i,subscripted b false o i=operate [o,i] (getItem o i)
def IxR(X:Cx)(r:R2):Prop :=
 ∀ (value slice:Expr) (pins:List (Addr×Obj)) (s:Shared) (σ:St) (H:Hp) (x y:V) (v u:Value) (Q:VK),Inv X pins σ H s->RelV x v->RelV y u->r x y H Q ->
   subscripted slice false v u=operate [v,u] (getItem v u)->wpAny (model X.prog X.w) X.A (subscriptTail value slice v u) (EP X pins σ Q) X.xe s
def MtR(X:Cx)(id:String)(r:V->List V->Hp->VK->Prop):Prop :=
 ∀ (pins:List (Addr×Obj)) (s:Shared) (σ:St) (H:Hp) (x:V) (xs:List V) (v:Value) (us:List Value) (Q:VK),Inv X pins σ H s->RelV x v->Vals xs us->r x xs H Q ->
   wpAny (model X.prog X.w) X.A (call (.builtin id) (v :: us)) (EP X pins σ Q) X.xe s
section
variable{X:Cx}{a b:Expr}{ta tb:TE}{pos:Pos}
theorem zib(hr:IxR X r)(ha:PE X a ta)(hb:PE X b tb)(hs:Af b):PE X (.Subscript a b pos) (tOp r ta tb):=by
 intro pins s σ H Q I h;exact Subscript_ (binT ha hb I h fun v u s2 x y H2 I2 rx ry q=>hr a b pins s2 σ H2 x y v u Q I2 rx ry q (hs _ _))
inductive zgm(K:Frag)(x:V)(y:V)(H:Hp)(Q:VK):Prop where
 | mk(p)(xs)(i)(v)(_:x=.ref p)(_:y=.int i)(_:SqL K H p xs)(_:atI xs i=some v)(_:Q v H)
inductive zgn(K:Frag)(x:V)(y:V)(H:Hp)(Q:VK):Prop where
 | mk(p)(xs)(i)(v)(_:x=.ref p)(_:y=.int i)(_:SqT K H p xs)(_:atI xs i=some v)(_:Q v H)
theorem zew:IxR X (zgm X.K):=by
 intro value slice pins s σ H x y v u Q I rx ry h hs;obtain⟨p,xs,i,z,rfl,rfl,hq,he,q⟩:=h;cases rx;obtain⟨t,rfl⟩:=ry;obtain⟨its,r,pl,hz⟩:=I.list hq;obtain⟨j,h1,h2,h3,h4,h5⟩:=Ae he;obtain⟨w,ew,rw'⟩:=r.get h2;have hl:=r.length;have hn:=Pb;have fin:EP X pins σ Q w s:=⟨z,H,I,rw',q⟩;by_cases h0:0<=i
 ·have hj:i.toNat=j:=by
   rw[seqIndex_of h0 h5] at h1;exact Option.some.inj h1
  exact item_listR pl.isList h0 ⋯ (by rw[hj];simpa using ew) fin hs
 ·have hj:(i+(its.toArray.size:Int)).toNat=j:=by
   rw[seqIndex_neg ⋯ h4] at h1;rw[zte,<- hl];exact Option.some.inj h1
  exact subscriptTail_builtinR (x:=w) pl.isList.typeIs slot_list_getitem.lookup
   (wpAny_getItem_list_neg (Q:=fun r s'=>r=w/\EP X pins σ Q r s') pl.isList ⋯ (by rw[zte]<;>omega) ⋯ (by rw[hj];simpa using ew) ⟨rfl,fin⟩) hs
theorem zgo:IxR X (zgn X.K):=by
 intro value slice pins s σ H x y v u Q I rx ry h hs;obtain⟨p,xs,i,z,rfl,rfl,hq,he,q⟩:=h;cases rx;obtain⟨t,rfl⟩:=ry;obtain⟨its,r,pl,hz⟩:=I.tuple hq;obtain⟨j,h1,h2,h3,h4,h5⟩:=Ae he;obtain⟨w,ew,rw'⟩:=r.get h2;have hl:=r.length;have hn:=Pb;have fin:EP X pins σ Q w s:=⟨z,H,I,rw',q⟩;exact subscriptTail_builtinR (x:=w) pl.typeIs slot_tuple_getitem.lookup
  (getItem_tuple (j:=j) (Q:=fun r s'=>r=w/\EP X pins σ Q r s') pl ⋯ ⋯ (by rw[zte,<- hl];exact h1) (by simpa using ew) ⟨rfl,fin⟩) hs
theorem C5(its:List Value)(n j:Nat)(u:Value):Obj.mapSeq (·.setIfInBounds j u) { cls:=.type "list",data:=.seq its.toArray n }={ cls:=.type "list",data:=.seq (its.set j u).toArray n }:=by
 simp[Obj.mapSeq]
theorem Inv.lst(I:Inv X pins σ H s)(h:H p=some (.lst xs)) :
  ∃ (its:List Value) (n:Nat),Vals xs its/\s.heap.get? p=some { cls:=.type "list",data:=.seq its.toArray n }/\xs.length<=sizeLine:=by
 obtain⟨z,its,n,r,e⟩:=I.hok p _ h;exact⟨its,n,r,e,z⟩
theorem Inv.lstUpd{pins:List (Addr×Obj)}{σ:St}{H:Hp}{s:Shared}{p:Addr}{xs ys:List V}{its its':List Value}{n n':Nat}{f:Obj->Obj}(I:Inv X pins σ H s)(h:H p=some (.lst xs))
  (ho:s.heap.get? p=some { cls:=.type "list",data:=.seq its.toArray n }) (hf:f { cls:=.type "list",data:=.seq its.toArray n }={ cls:=.type "list",data:=.seq its'.toArray n' }) (r:Vals ys its') (hz:ys.length<=sizeLine) (t:Nat) :
  Inv X pins σ (upd H p (.lst ys)) { s with heap:=s.heap.update p f,toks:=t }:=by
 have e:(s.heap.update p f).get? p=some { cls:=.type "list",data:=.seq its'.toArray n' }:=by
  rw[Heap.get?_update_self f ho (by rw[hf]<;>rfl),hf]
 refine I.write (x:=p) (e:=p) (by rw[h];trivial) (.inl rfl) (fun b u hb q=>(Heap.get?_update_other _ _ (Ne.symm hb)).trans q) ⟨_,e⟩ ?_;exact⟨hz,its',n',r,e⟩
def zic:V->V->V->Hp->(Hp->Prop)->Prop:=fun o i v H Q=>∃ p xs k j,o=.ref p/\i=.int k/\H p=some (.lst xs)/\ixN xs.length k=some j/\Q (upd H p (.lst (xs.set j v)))
theorem En:zhp X zic:=by
 intro pins s σ H o i v ov iv u Q I ro ri rv h;obtain⟨p,xs,k,j,rfl,rfl,hp,hj,q⟩:=h;cases ro;obtain⟨t,rfl⟩:=ri;obtain⟨its,n,r,ho,hz⟩:=I.lst hp;obtain⟨h1,h2,h3,h4⟩:=Ac hj;have hl:=r.length;have hn:=Pb;have I':Inv X pins σ (upd H p (.lst (xs.set j v))) { s with heap:=s.heap.update p (Obj.mapSeq (·.setIfInBounds j u)) } :=
  I.lstUpd hp ho (C5 its n j u) (r.set rv j) (by rw[zuh];exact hz) s.toks
 by_cases h0:0<=k
 ·have hk:k.toNat=j:=by
   rw[seqIndex_of h0 h4] at h1;exact Option.some.inj h1
  exact PySem.W.ki_setAt ho h0 ⋯ (by rw[zte,<- hl];exact h4) (by rw[hk];exact⟨_,I',q⟩)
 ·have hk:(k+(its.toArray.size:Int)).toNat=j:=by
   rw[seqIndex_neg ⋯ h3] at h1;rw[zte,<- hl];exact Option.some.inj h1
  exact PySem.W.ki_setBack ho ⋯ (by rw[zte,<- hl];exact h3) ⋯ (by rw[hk];exact⟨_,I',q⟩)
theorem G5(lo hi:Option Int)(n:Nat):(sliceBounds lo hi none n).1=((HT.sIx n 0 lo:Nat):Int)/\(sliceBounds lo hi none n).2.1=((HT.sIx n n hi:Nat):Int)/\(sliceBounds lo hi none n).2.2=1:=by
 refine⟨?_,?_,rfl⟩
 ·cases lo with
  | none=>simp[sliceBounds,HT.sIx]
  | some i =>
    simp only[sliceBounds,HT.sIx,Option.getD_none,show (1:Int)>0 by decide,if_true];by_cases h:i<0
    ·simp only[h,if_true]<;>omega
    ·simp only[h,if_false]<;>omega
 ·cases hi with
  | none=>simp[sliceBounds,HT.sIx]
  | some i =>
    simp only[sliceBounds,HT.sIx,Option.getD_none,show (1:Int)>0 by decide,if_true];by_cases h:i<0
    ·simp only[h,if_true]<;>omega
    ·simp only[h,if_false]<;>omega
theorem Jo(its:List Value)(lo hi:Option Int):slicePick its.toArray lo hi none=((its.drop (HT.sIx its.length 0 lo)).take (HT.sIx its.length its.length hi-HT.sIx its.length 0 lo)).toArray:=by
 obtain⟨h1,h2,h3⟩:=G5 lo hi its.toArray.size;unfold slicePick;rw[h1,h2,h3];simp only[sliceRange_one,pick_run,zte]<;>rfl
def zid(K:Frag):V->Option Int->Option Int->Hp->VK->Prop:=fun x lo hi H Q=>∃ a xs,x=.ref a/\SqL K H a xs/\∀ p,H p=none->Q (.ref p) (upd H p (.lst (zaq xs lo hi)))
theorem zex:SlR X (zid X.K):=by
 intro pins s σ H x v vl vu lo hi sl Q I rx hs pl pu h;obtain⟨a,xs,rfl,hx,q⟩:=h;cases rx;obtain⟨its,r,ht,hz⟩:=I.list hx;have hlen:=r.length;refine⟨"list",_,slot_list_getitem.lookup,ht.isList.typeIs,?_⟩;refine wpAny_getItem_list_slice ht.isList hs pl pu .none (by simp) ?_ (by rw[zte]<;>omega);rw[Jo,<- hlen];refine⟨.ref s.heap.objs.size,_,I.laid (t':=s.toks) (o:=.lst (zaq xs lo hi)) (fun b ob q=>Heap.get?_push_of_some _ q) (ztb _) ?_,rfl,q _ (I.hok.fresh (ztb _))⟩;exact⟨zto (Em xs lo hi) hz,_,0,(r.drop (HT.sIx xs.length 0 lo)).take (HT.sIx xs.length xs.length hi-HT.sIx xs.length 0 lo),Heap.get?_push_size _ rfl⟩
def Rj:V->Bool
 | .non=>true
 | .bl _=>true
 | .int _=>true
 | .str _=>true
 | _=>false
def eqV:V->V->Bool
 | .non,.non=>true
 | .bl a,.bl b=>a == b
 | .bl a,.int b=>(if a then 1 else 0) == b
 | .int a,.bl b=>a == (if b then 1 else 0)
 | .int a,.int b=>a == b
 | .str a,.str b=>a == b
 | _,_=>false
theorem zgp(ry:RelV y u)(rx:RelV x v)(fy:Rj y=true)(fx:Rj x=true):SeqAt.EqAt A s u v (eqV y x):=by
 cases y with
 | non =>
   cases ry;cases x with
   | non=>cases rx;exact SeqAt.EqAt.same _
   | bl b=>cases rx;exact SeqAt.EqAt.none_bool b
   | int b=>obtain⟨t,rfl⟩:=rx;exact SeqAt.EqAt.none_int b t
   | str b=>obtain⟨t,rfl⟩:=rx;exact SeqAt.EqAt.none_str b t
   | _=>exact absurd (show false=true from fx) zti
 | bl a =>
   cases ry;cases x with
   | non=>cases rx;exact SeqAt.EqAt.bool_none a
   | bl b=>cases rx;exact SeqAt.EqAt.bool_bool a b
   | int b=>obtain⟨t,rfl⟩:=rx;exact SeqAt.EqAt.bool_int a b t
   | str b=>obtain⟨t,rfl⟩:=rx;exact SeqAt.EqAt.bool_str a b t
   | _=>exact absurd (show false=true from fx) zti
 | int a =>
   obtain⟨t',rfl⟩:=ry;cases x with
   | non=>cases rx;exact SeqAt.EqAt.int_none a t'
   | bl b=>cases rx;exact SeqAt.EqAt.int_bool a t' b
   | int b=>obtain⟨t,rfl⟩:=rx;exact SeqAt.EqAt.int_int a t' b t
   | str b=>obtain⟨t,rfl⟩:=rx;exact SeqAt.EqAt.int_str a t' b t
   | _=>exact absurd (show false=true from fx) zti
 | str a =>
   obtain⟨t',rfl⟩:=ry;cases x with
   | non=>cases rx;exact SeqAt.EqAt.str_none a t'
   | bl b=>cases rx;exact SeqAt.EqAt.str_bool a t' b
   | int b=>obtain⟨t,rfl⟩:=rx;exact SeqAt.EqAt.str_int a t' b t
   | str b=>obtain⟨t,rfl⟩:=rx;exact SeqAt.EqAt.str_str a t' b t
   | _=>exact absurd (show false=true from fx) zti
 | _=>exact absurd (show false=true from fy) zti
def eqU(x:V)(u:Value):Bool:=match u with
 | .none=>eqV .non x
 | .bool b=>eqV (.bl b) x
 | .int i _=>eqV (.int i) x
 | .str z _=>eqV (.str z) x
 | _=>false
theorem C6(r:RelV y u)(f:Rj y=true):eqU x u=eqV y x:=by
 cases y with
 | non=>cases r;rfl
 | bl b=>cases r;rfl
 | int i=>obtain⟨t,rfl⟩:=r;rfl
 | str z=>obtain⟨t,rfl⟩:=r;rfl
 | _=>exact absurd (show false=true from f) zti
theorem G6:∀ {xs:List V} {us:List Value},Vals xs us->xs.all Rj=true->us.any (eqU x)=xs.any fun y=>eqV y x
 | _,_,.nil,_=>rfl
 | y :: xs,u :: us,.cons r t,f=>by
   rw[List.all_cons,zut] at f;rw[zu1,zu1,C6 r f.1,G6 t f.2]
theorem Oe(rx:RelV x v)(fx:Rj x=true):∀ {xs:List V} {us:List Value},Vals xs us->xs.all Rj=true->∀ u∈us,SeqAt.EqAt A s u v (eqU x u)
 | _,_,.nil,_=>fun u hu=>by cases hu
 | y :: xs,u :: us,.cons r t,f=>fun u' hu=>by
   rw[List.all_cons,zut] at f;rcases zs7.mp hu with rfl|hu
   ·rw[C6 r f.1];exact zgp r rx f.1 fx
   ·exact Oe rx fx t f.2 u' hu
def inV(x:V)(xs:List V):Bool:=xs.any fun y=>eqV y x
inductive rIn(K:Frag)(neg:Bool)(x:V)(y:V)(H:Hp)(Q:VK):Prop where
 | mk(p)(xs)(_:y=.ref p)(_:(SqL K H p xs\/SqT K H p xs))(_:Rj x=true)(_:xs.all Rj=true)(_:Q (.bl (if neg then !inV x xs else inV x xs)) H)
theorem zar:OpR X (compareOp .In) (rIn X.K false):=by
 intro pins s σ H x y v u Q I rx ry h;obtain⟨p,xs,rfl,hq,fx,fs,q⟩:=h;cases ry;rcases hq with hq|hq
 ·obtain⟨its,r,pl,hz⟩:=I.list hq;refine SeqAt.in_listAt (eqU x) pl.isList (fun w hw=>Oe rx fx r fs w (by simpa using hw)) ⟨.bl _,H,I,rfl,?_⟩;rw[show its.toArray.any (eqU x)=its.any (eqU x) by simp,G6 r fs];exact q
 ·obtain⟨its,r,pl,hz⟩:=I.tuple hq;refine SeqAt.in_tupleAt (eqU x) pl (fun w hw=>Oe rx fx r fs w (by simpa using hw)) ⟨.bl _,H,I,rfl,?_⟩;rw[show its.toArray.any (eqU x)=its.any (eqU x) by simp,G6 r fs];exact q
theorem G7:Wf X (.builtin "len") (fun xs H Q=>∃ p ys,xs=[.ref p]/\(SqL X.K H p ys\/SqT X.K H p ys)/\Q (.int ys.length) H):=by
 intro pins s σ H xs us Q I r h;obtain⟨p,ys,rfl,hq,q⟩:=h;obtain⟨u,rfl,rx⟩:=Tg r;cases rx;have hn:=Pb;rcases hq with hq|hq
 ·obtain⟨its,r',pl,hz⟩:=I.list hq;have hlen:=r'.length;exact Calls.call_len_list pl.isList (by simp only[zte]<;>omega) ⟨.int ys.length,H,I.tok _,⟨s.toks+1,by rw[zte,hlen]⟩,q⟩
 ·obtain⟨its,r',pl,hz⟩:=I.tuple hq;have hlen:=r'.length;exact len_tuple pl (by simp only[zte]<;>omega) ⟨.int ys.length,H,I.tok _,⟨s.toks+1,by rw[zte,hlen]⟩,q⟩
theorem G8:Wf X (.type "list") (fun xs H Q=>∃ p ys,xs=[.ref p]/\(SqL X.K H p ys\/SqT X.K H p ys)/\∀ l,H l=none->Q (.ref l) (upd H l (.lst ys))):=by
 intro pins s σ H xs us Q I r h;obtain⟨p,ys,rfl,hq,q⟩:=h;obtain⟨u,rfl,rx⟩:=Tg r;cases rx;have fin:∀ (its:List Value),Vals ys its->ys.length<=sizeLine->∀ (h':Heap) (c':Nat),(∀ b o',s.heap.get? b=some o'->h'.get? b=some o') ->
   h'.get? s.heap.objs.size=some { cls:=.type "list",dict:=none,data:=.seq its.toArray c',slots:=#[] }->EP X pins σ Q (.ref s.heap.objs.size) { s with heap:=h' }:=fun its r' hz h' c' kp e =>
  ⟨.ref s.heap.objs.size,_,I.laid (t':=s.toks) kp (ztb _) (show Ym X.prog X.w _ h' _ (.lst ys) from⟨hz,its,c',r',e⟩),rfl,q _ (I.hok.fresh (ztb _))⟩
 rcases hq with hq|hq
 ·obtain⟨its,r',pl,hz⟩:=I.list hq;have hlen:=r'.length;obtain⟨o,ho,hc,n,hd⟩:=pl.isList;exact call_list_seq p (.inl rfl) ho hc hd (fun h' c' kp e=>fin its r' hz h' c' kp e) (by simp only[zte]<;>omega)
 ·obtain⟨its,r',pl,hz⟩:=I.tuple hq;have hlen:=r'.length;obtain⟨o,ho,hc,n,hd⟩:=pl;exact call_list_seq p (.inr rfl) ho hc hd (fun h' c' kp e=>fin its r' hz h' c' kp e) (by simp only[zte]<;>omega)
theorem Jp:Wf X (.type "tuple") (fun xs H Q=>∃ p ys,xs=[.ref p]/\((SqL X.K H p ys/\∀ l,H l=none->Q (.ref l) (upd H l (.tup ys)))\/(SqT X.K H p ys/\Q (.ref p) H))):=by
 intro pins s σ H xs us Q I r h;obtain⟨p,ys,rfl,h⟩:=h;obtain⟨u,rfl,rx⟩:=Tg r;cases rx;rcases h with ⟨hq,q⟩|⟨hq,q⟩
 ·obtain⟨its,r',pl,hz⟩:=I.list hq;have hlen:=r'.length;refine call_tuple_list pl.isList (fun h' kp=>?_) (by simp only[zte]<;>omega);have I1:Inv X pins σ H { s with heap:=h' }:=I.kept (t':=s.toks) kp;have I2:Inv X pins σ (upd H h'.objs.size (.tup ys)) { s with heap:=h'.push { cls:=.type "tuple",data:=.seq its.toArray } } :=
   I1.laid (t':=s.toks) (fun b o e=>Heap.get?_push_of_some _ e) (ztb _) (show Ym X.prog X.w _ _ _ (.tup ys) from⟨hz,its,r',IsTup.new _ _⟩)
  exact⟨.ref h'.objs.size,_,I2,rfl,q _ (I1.hok.fresh (ztb _))⟩
 ·obtain⟨its,r',pl,hz⟩:=I.tuple hq;exact call_tuple_same pl ⟨.ref p,H,I,rfl,q⟩
def tyV(K:Frag)(T:String)(x:V)(H:Hp):Prop:=match x with
 | .str _=>T="str"
 | .int _=>T="int"
 | .ref p=>(T="list"/\∃ xs,SqL K H p xs)\/(T="tuple"/\∃ o,K.lookup p=some o/\o.cls=.type "tuple"/\o.dict=none) \/
   (T="dict"/\((∃ kvs,H p=some (.dK kvs))\/∃ kvs,H p=some (.dT kvs)))\/(T="set"/\∃ S n,H p=some (.set S n))
 | _=>False
theorem C7(I:Inv X pins σ H s)(r:RelV x v)(ty:tyV X.K T x H) :
  s.TypeIs v T/\∀ a,v=.ref a->∃ ob,s.heap.get? a=some ob/\ob.dict=none:=by
 cases x with
 | str z =>
   obtain⟨t,rfl⟩:=r;cases (show T="str" from ty);exact⟨typeIs_str s z t,fun _ e=>nomatch e⟩
 | int i =>
   obtain⟨t,rfl⟩:=r;cases (show T="int" from ty);exact⟨typeIs_int s i t,fun _ e=>nomatch e⟩
 | ref p =>
   cases r;rcases ty with ⟨rfl,xs,hq⟩|⟨rfl,o,hk,hc,hd⟩|⟨rfl,hk⟩|⟨rfl,S,n,hk⟩
   ·obtain⟨its,_,pl,_⟩:=I.list hq;refine⟨pl.isList.typeIs,fun a e=>?_⟩;cases e;obtain⟨o,n,e,c,hd,_⟩:=pl;exact⟨o,e,hd⟩
   ·refine⟨⟨o,I.kIn p o hk,hc⟩,fun a e=>?_⟩;cases e;exact⟨o,I.kIn _ o hk,hd⟩
   ·have z:∃ o,s.heap.get? p=some o/\o.ExactDict:=by
     rcases hk with ⟨kvs,hk⟩|⟨kvs,hk⟩
     ·obtain⟨_,_,_,_,o,_,_,e,ex,_⟩:=I.hok p _ hk;exact⟨o,e,ex⟩
     ·obtain⟨_,_,_,_,o,_,_,e,ex,_⟩:=I.hok p _ hk;exact⟨o,e,ex⟩
    obtain⟨o,e,ex⟩:=z;refine⟨⟨o,e,ex.1⟩,fun a e2=>?_⟩;cases e2;exact⟨o,e,ex.2.1⟩
   ·obtain⟨o,_,_,_,e,ex,_⟩:=I.hok p _ hk;refine⟨⟨o,e,ex.1⟩,fun a e2=>?_⟩;cases e2;exact⟨o,e,ex.2.1⟩
 | _=>exact False.elim ty
inductive zie(K:Frag)(T:String)(r:V->List V->Hp->VK->Prop)(Q:VK)(x:V)(H1:Hp):Prop where
 | mk(_:tyV K T x H1)(_:r x [] H1 Q)
def zjh(K:Frag)(T:String)(r:V->List V->Hp->VK->Prop)(to:TE):TE:=fun σ H Q=>to σ H fun x H1=>zie K T r Q x H1
inductive zji(K:Frag)(T:String)(r:V->List V->Hp->VK->Prop)(t:TA)(σ:L2.St)(Q:VK)(x:V)(H1:Hp):Prop where
 | mk(_:tyV K T x H1)(_:t σ H1 fun xs H2=>r x xs H2 Q)
def tBM(K:Frag)(T:String)(r:V->List V->Hp->VK->Prop)(to:TE)(t:TA):TE:=fun σ H Q=>to σ H fun x H1=>zji K T r t σ Q x H1
variable{o e:Expr}{es:List Expr}{to:TE}{t:TA}{name:Str}{apos cpos:Pos}{T id:String}{r:V->List V->Hp->VK->Prop}
theorem zcj(pa:PlainAttrs T)(slot:Slot T name id)(hty:typeOf (.builtin id)=pure (.type "method_descriptor"))(hm:MtR X id r)(ho:PE X o to)
  (hbase:attributeBase o name X.env (eval o X.env)=eval o X.env:=by rfl) (hline:(apos.endLine == cpos.line)=true:=by rfl):PE X (.Call (.Attribute o name apos) [] [] cpos) (zjh X.K T r to):=by
 intro pins s σ H Q I h;refine wpAny_Call_method0_late hbase hline (thn (ho pins s σ H _ I h) fun v s1 ⟨x,H1,I1,r1,ty,q1⟩=>?_);obtain⟨h1,h2⟩:=C7 I1 r1 ty;exact⟨T,id,pa,slot,hty,h1,h2,Calls.callWith_builtin rfl (PySem.evalArgs_none (hm pins s1 σ H1 x [] v [] Q I1 r1 .nil q1))⟩
theorem zck(pa:PlainAttrs T)(slot:Slot T name id)(hty:typeOf (.builtin id)=pure (.type "method_descriptor"))(hm:MtR X id r)(ho:PE X o to)(ha:PA X (e :: es) t)
  (hbase:attributeBase o name X.env (eval o X.env)=eval o X.env:=by rfl)
  (hfew:((backTo cpos (starEach (e :: es) X.env)).all (fun x=>!x.1)&&(backToKw cpos (keywordEach [] X.env)).all (fun x=>x.1.isSome)
   && decide ((e :: es).length+([]:List Keyword).length+(if ([]:List Keyword).isEmpty then 0 else 1)<30))=true:=by rfl)
  (hline:(apos.endLine == cpos.line)=true:=by rfl) (hs:starEach (e :: es) X.env=(false,eval e X.env) :: starEach es X.env:=by rfl) (hplain:(backTo cpos (starEach es X.env)).any (·.1)=false:=by rfl) :
  PE X (.Call (.Attribute o name apos) (e :: es) [] cpos) (tBM X.K T r to t):=by
 intro pins s σ H Q I h;refine wpAny_Call_method_late hbase hfew hline rfl (thn (ho pins s σ H _ I h) fun v s1 ⟨x,H1,I1,r1,ty,q1⟩=>?_);obtain⟨h1,h2⟩:=C7 I1 r1 ty;refine⟨T,id,pa,slot,hty,h1,h2,?_⟩;have hA:=ha cpos pins s1 σ H1 _ I1 q1;rw[hs] at hA ⊢;refine Calls.callWith_builtin (by show (false||(backTo cpos (starEach es X.env)).any (·.1))=false;rw[hplain]<;>rfl) (Calls.evalArgs_plain ?_);exact thn hA fun us s2 ⟨vs,H2,I2,r2,q2⟩=>hm pins s2 σ H2 x vs v us Q I2 r1 r2 q2
end
def MtM(X:Cx)(id:String)(r:V->List V->Hp->VK->Prop):Prop :=
 ∀ (pins:List (Addr×Obj)) (s:Shared) (σ:St) (H:Hp) (x:V) (xs:List V) (v:Value) (us:List Value) (Q:VK),Inv X pins σ H s->RelV x v->Vals xs us->r x xs H Q ->
   wpAny (model X.prog X.w) X.A (call (.builtin id) (v :: us)) (EP X pins σ Q) X.xe s
theorem Vals.one:∀ {x:V} {us:List Value},Vals [x] us->∃ u,us=[u]/\RelV x u
 | _,_,.cons r .nil=>⟨_,rfl,r⟩
theorem Vals.zero:∀ {us:List Value},Vals [] us->us=[]
 | _,.nil=>rfl
theorem Vals.dropLast(h:Vals xs us):Vals xs.dropLast us.dropLast:=by
 induction h with
 | nil=>exact .nil
 | cons r t ih =>
   cases t with
   | nil=>exact .nil
   | cons q t'=>exact .cons r ih
theorem Vals.reverse(h:Vals xs us):Vals xs.reverse us.reverse:=by
 induction h with
 | nil=>exact .nil
 | cons r t ih=>rw[zuy,zuy];exact Vals.append ih (.cons r .nil)
theorem Vals.rep(h:Vals xs us):∀ k:Nat,Vals (List.replicate k xs).flatten (List.replicate k us).flatten
 | 0=>.nil
 | k+1=>by
   rw[zul,zul,List.flatten_cons,List.flatten_cons];exact Vals.append h (Vals.rep h k)
theorem C8(l:List α):l.eraseIdx (l.length-1)=l.dropLast:=by
 induction l with
 | nil=>rfl
 | cons a r ih =>
   cases r with
   | nil=>rfl
   | cons b r =>
     have e:(a :: b :: r).length-1=((b :: r).length-1)+1:=by
      have h1:(a :: b :: r).length=r.length+2:=rfl;have h2:(b :: r).length=r.length+1:=rfl;omega
     rw[e,List.eraseIdx_cons_succ,ih]
     all_goals rfl
theorem Hk(its:List Value):∀ (k:Nat) (acc:List Value),
  List.foldl (fun x1 x2=>x1++x2) acc.toArray (List.replicate k its.toArray)=(acc++(List.replicate k its).flatten).toArray
 | 0,acc=>by simp
 | k+1,acc=>by
   have e:acc.toArray++its.toArray=(acc++its).toArray:=by simp
   have e2:(acc++its)++(List.replicate k its).flatten=acc++(List.replicate (k+1) its).flatten:=by
    rw[zul,List.flatten_cons,List.append_assoc]
   rw[<- e2,<- Hk its k (acc++its),<- e,zul,List.foldl_cons]
section
variable{X:Cx}{pins:List (Addr×Obj)}{σ:St}{H:Hp}{s:Shared}{l b:Addr}{xs ys zs:List V}
theorem Inv.lset{its its':List Value}{n:Nat}{f:Array Value->Array Value}{t':Nat}(I:Inv X pins σ H s)(hH:H l=some (.lst xs))
  (e:s.heap.get? l=some { cls:=.type "list",data:=.seq its.toArray n }) (hf:f its.toArray=its'.toArray) (hv:Vals ys its') (hz:ys.length<=sizeLine) :
  Inv X pins σ (upd H l (.lst ys)) { s with heap:=s.heap.update l (Obj.mapSeq f),toks:=t' }:=by
 have q:=PySem.IsL.update e f;rw[hf] at q;refine I.write (x:=l) (e:=l) (by rw[hH];exact trivial) (.inl rfl) (fun b' u hb hu=>(Heap.get?_update_other s.heap (Obj.mapSeq f) (Ne.symm hb)).trans hu) ⟨_,q⟩ ?_;exact⟨hz,its',_,hv,q⟩
theorem Inv.lnew(I:Inv X pins σ H s)(hv:Vals ys its)(hz:ys.length<=sizeLine) :
  Inv X pins σ (upd H s.heap.objs.size (.lst ys)) { s with heap:=s.heap.push { cls:=.type "list",data:=.seq its.toArray },toks:=t' } :=
 I.laid (fun _ _ q=>Heap.get?_push_of_some _ q) (ztb _) ⟨hz,its,0,hv,Heap.get?_push_size _ rfl⟩
theorem Inv.fresh(I:Inv X pins σ H s):H s.heap.objs.size=none:=I.hok.fresh (ztb _)
theorem Inv.lstM(I:Inv X pins σ H s)(hH:H l=some (.lst xs)):xs.length<=sizeLine/\∃ (its:List Value) (n:Nat),Vals xs its/\xs.length=its.length/\s.heap.get? l=some { cls:=.type "list",data:=.seq its.toArray n }:=by
 obtain⟨z,its,n,r,e⟩:=I.hok l _ hH;exact⟨z,its,n,r,r.length,e⟩
theorem zcl(h:n<=sizeLine):Builtin.List.listTooLong n=false:=by
 unfold Builtin.List.listTooLong;exact ztc ⋯
end
section
variable{X:Cx}
inductive zey(x:V)(vs:List V)(H:Hp)(Q:VK):Prop where
 | mk(l)(xs)(y)(_:x=.ref l)(_:vs=[y])(_:H l=some (.lst xs))(_:xs.length<sizeLine)(_:Q .non (upd H l (.lst (xs++[y]))))
theorem zas:MtM X "list.append" zey:=by
 intro pins s σ H x vs v us Q I rx rv h;obtain⟨l,xs,y,rfl,rfl,hH,hz,q⟩:=h;cases rx;obtain⟨u,rfl,ru⟩:=rv.one;obtain⟨z,its,n,r,hl,e⟩:=I.lstM hH;refine call_meets F.slot_list_append ⟨_,e,rfl⟩ F.entry_list_append (F.args_list_append_2 _ _) (PySem.list_append l its.toArray n u (by rw[zte];omega)) ⟨e,?_⟩;refine⟨.non,_,I.lset (its':=its++[u]) hH e (by simp) (r.append (.cons ru .nil)) ?_,rfl,q⟩;rw[zs8,List.length_singleton];omega
inductive zjj(x:V)(vs:List V)(H:Hp)(Q:VK):Prop where
 | mk(l)(xs)(y)(_:x=.ref l)(_:vs=[])(_:H l=some (.lst xs))(_:xs[xs.length-1]?=some y)(_:Q y (upd H l (.lst xs.dropLast)))
theorem zgq:MtM X "list.pop" zjj:=by
 intro pins s σ H x vs v us Q I rx rv h;obtain⟨l,xs,y,rfl,rfl,hH,hy,q⟩:=h;cases rx;have hus:=rv.zero;subst hus;obtain⟨z,its,n,r,hl,e⟩:=I.lstM hH;obtain⟨u,hu,ru⟩:=r.get hy;have hy':its.toArray[its.toArray.size-1]?=some u:=by
  show its.toArray[its.length-1]?=some u;rw[<- Array.getElem?_toList,<- hl];exact hu
 refine call_meets F.slot_list_pop ⟨_,e,rfl⟩ F.entry_list_pop (F.args_list_pop_1 _) (MeetsSeq.list_pop_last l its.toArray n u hy' (by rw[zte];omega)) ⟨e,?_⟩;refine⟨y,_,I.lset (its':=its.dropLast) hH e ?_ r.dropLast ?_,ru,q⟩
 ·show its.toArray.eraseIdxIfInBounds (its.toArray.size-1)=its.dropLast.toArray;rw[zte,List.eraseIdxIfInBounds_toArray,C8]
 ·rw[List.length_dropLast];omega
inductive zcm(x:V)(vs:List V)(H:Hp)(Q:VK):Prop where
 | mk(l)(xs)(_:x=.ref l)(_:vs=[])(_:H l=some (.lst xs))(_:Q .non (upd H l (.lst xs.reverse)))
theorem C9:MtM X "list.reverse" zcm:=by
 intro pins s σ H x vs v us Q I rx rv h;obtain⟨l,xs,rfl,rfl,hH,q⟩:=h;cases rx;have hus:=rv.zero;subst hus;obtain⟨z,its,n,r,hl,e⟩:=I.lstM hH;refine call_meets F.slot_list_reverse ⟨_,e,rfl⟩ F.entry_list_reverse (F.args_list_reverse_1 _) (AutoSeq1.list_reverse_list_0 l its.toArray n (by rw[zte];omega)) ⟨e,?_⟩;refine⟨.non,_,I.lset (its':=its.reverse) hH e (by simp) r.reverse ?_,rfl,q⟩;rw[List.length_reverse];omega
inductive zgr(x:V)(y:V)(H:Hp)(Q:VK):Prop where
 | mk(l)(b)(xs)(zs)(_:x=.ref l)(_:y=.ref b)(_:H l=some (.lst xs))(_:H b=some (.lst zs))(_:xs.length+zs.length<=sizeLine)(_:∀ p,H p=none->Q (.ref p) (upd H p (.lst (xs++zs))))
theorem Sr:OpR X (binaryOp .Add) zgr:=by
 intro pins s σ H x y v u Q I rx ry h;obtain⟨l,b,xs,zs,rfl,rfl,hH,hB,hz,q⟩:=h;cases rx;cases ry;obtain⟨z,its,n,r,hl,e⟩:=I.lstM hH;obtain⟨z2,its2,n2,r2,hl2,e2⟩:=I.lstM hB;refine PySem.P.add_list e e2 ?_ (by rw[zte,zte];omega);have ea:its.toArray++its2.toArray=(its++its2).toArray:=by simp
 rw[ea];exact⟨.ref _,_,I.lnew (t':=s.toks) (r.append r2) (by rw[zs8];omega),rfl,q _ I.fresh⟩
inductive zjk(x:V)(y:V)(H:Hp)(Q:VK):Prop where
 | mk(l)(k)(xs)(_:x=.ref l)(_:y=.int k)(_:H l=some (.lst xs))(_:-(2 ^ 63)<=k)(_:k<2 ^ 63)(_:xs.length*k.toNat<=sizeLine)(_:∀ p,H p=none->Q (.ref p) (upd H p (.lst (List.replicate k.toNat xs).flatten)))
theorem zez(xs:List α)(k:Nat):(List.replicate k xs).flatten.length=k*xs.length:=by
 induction k with
 | zero=>simp
 | succ k ih=>rw[zul,List.flatten_cons,zs8,ih,Nat.succ_mul,Nat.add_comm]
theorem Ba:OpR X (binaryOp .Mult) zjk:=by
 intro pins s σ H x y v u Q I rx ry h;obtain⟨l,k,xs,rfl,rfl,hH,h1,h2,hz,q⟩:=h;cases rx;obtain⟨t,rfl⟩:=ry;obtain⟨z,its,n,r,hl,e⟩:=I.lstM hH;have hlen:its.toArray.size*k.toNat<=sizeLine:=by rw[zte,<- hl];exact hz
 have hcap:¬ its.toArray.size*k.toNat>(2 ^ 63-1)/8:=by
  have:(sizeLine:Nat)<=(2 ^ 63-1)/8:=by decide
  omega
 have hfit:¬ (!Builtin.List.listFitsIndex k)=true:=by
  rw[fitsIndex_both h1 h2];exact zti
 have hlong:¬ Builtin.List.listTooLong (its.toArray.size*k.toNat)=true:=by
  rw[zcl hlen];exact zti
 have hnew:List.foldl (fun x1 x2=>x1++x2) #[] (List.replicate (if its.toArray.isEmpty=true then 0 else k.toNat) its.toArray)=(List.replicate k.toNat its).flatten.toArray:=by
  have f0:∀ m:Nat,List.foldl (fun x1 x2=>x1++x2) #[] (List.replicate m its.toArray)=(List.replicate m its).flatten.toArray:=fun m=>by
   have:=Hk its m [];rw[zu2] at this;exact this
  rw[f0];cases its with
  | nil=>simp
  | cons a r'=>rw[if_neg (by simp)]
 refine wpAny_binaryOp_repeat_ref (T:="list") (U:="int") ⋯ ⟨_,e,rfl⟩ (fun s'=>typeIs_int s' k t) noFill_list_mul F.fills_int_mul F.slot_int_rmul repeat_list F.slot_int_index.lookup
  (call_meets F.slot_int_rmul (typeIs_int s k t) F.entry_int_rmul (F.args_int_rmul_2 _ _) (int___rmul___int_list k t l its.toArray n)
   ⟨e,rfl,⟨_,e,rfl⟩,call_meets F.slot_list_mul ⟨_,e,rfl⟩ F.entry_list_mul (F.args_list_mul_2 _ _) (AutoListH.list___mul___list_int_3 l its.toArray n k t hfit hcap hlong) ⟨e,?_⟩⟩)
 rw[hnew];exact⟨.ref _,_,I.lnew (t':=s.toks) (r.rep k.toNat) (by rw[zez,Nat.mul_comm];exact hz),rfl,q _ I.fresh⟩
end
end L2
namespace Att
open PySem PySem.W PySem.Calls PyProof.Rows
theorem Mi:∀ (ns:List Int) (vs:List Value),WellAll P h vs (ns.map WData.int)->IntsAre vs ns:=by
 intro ns
 induction ns with
 | nil =>
   intro vs w;rw[List.map_nil] at w;cases w;exact .nil
 | cons n ns ih =>
   intro vs w;rw[ztf] at w;cases w with
   | cons a b =>
     cases a;exact .cons _ _ (ih _ b)
theorem zat{l:OpenLaw}{n:Nat}(hn:l.most=some n){P:Params}{h:Heap}{args:List WData}{vals:List Value}
  (hpre:l.row.toRowW.claim.pre args=true) (hwl:WellAll P h vals args) :
  ∃ a vs ns,vals=[Value.ref a]/\args=[WData.list (ns.map WData.int)]/\h.get? a=some { cls:=.type "list",data:=.seq vs.toArray }/\IntsAre vs ns/\ns.length<=n:=by
 have hsh:WShape.hasAll [] args [.list .int]=true:=(pre_splitW hpre).1;have hc:l.pre.holds [] { args:=args }=true:=(pre_splitW hpre).2;obtain⟨d,r,rfl,h1,h2⟩:=hasAllW_cons hsh;obtain rfl:=hasAllW_nil h2;obtain⟨xs,rfl,h3⟩:=hasW_list h1;obtain⟨ns,rfl⟩:=items_int h3;have hlen:ns.length<=n:=by
  unfold OpenLaw.pre at hc;have h4:(WTm.not (.lt (.lit (.int (n:Int))) (.len (.arg 0)))).holds [] { args:=[.list (ns.map .int)] }=true:=by
   have h4:=(holds_andW hc).1;rw[hn] at h4;exact h4
  have h5:=condW_of h4 (w_not (w_lt w_lit (w_len_list (w_arg rfl))));rw[zs3] at h5;refine Nat.le_of_not_lt fun q=>?_;have q':(n:Int)<((ns.length:Nat):Int):=by omega
  first
   | (rw[zs6 q'] at h5;exact absurd h5 ⋯)
   | (simp at h5;omega)
 cases hwl with
 | cons w1 w2 =>
   cases w2;cases w1 with
   | list ho hall=>exact⟨_,_,ns,rfl,rfl,ho,Mi ns _ hall,hlen⟩
theorem zau(l:OpenLaw)(args:List WData):l.row.toRowW.claim.post args (.bool true) args=true :=
 postW_of (r:=l.row.toRowW) (X:=(true == true))
  (show WShape.has [] (.bool true) .bool=true by first|rfl|decide|simp[WShape.has,WShape.arms,WShape.armsAll])
  (show (WTm.eq .res (.lit (.bool true))).value [] { args:=args,res:=some (.bool true),after:=args }=some (.bool (true == true)) from w_eq_bool (w_res rfl) w_lit) rfl
theorem attach_call{l:OpenLaw}{n:Nat}{q:Program}{loose:List Str}{XP:(Str->Option Value)->Heap->Prop}{YP:World->Heap->Prop}{d:DefRec}
  (hn:l.most=some n) (hdf:d.params.defaults=[])
  (call:∀ (w:World) (s₀ s₁:Shared) (mg mb:Str->Option Value) (fa:Addr) (o:Obj) (pm cd doc:Value) (a:Addr) (vs:List Value) (ns:List Int),
   Ground q loose [] XP w s₀ mg mb s₁.heap->YP w s₁.heap ->
   s₁.heap.get? fa=some o->o.data=.func (docDef d.name d.params d.body d.scope pm cd doc)->s₁.heap.CodeRec cd d.name->mg d.name=some (.ref fa) ->
   s₁.heap.get? a=some { cls:=.type "list",data:=.seq vs.toArray }->IntsAre vs ns->ns.length<=n->s₁.gens=#[] ->
   codeAny (model l.prog w) callerA (.call (.ref fa) ⟨[.ref a],[]⟩) (fun r s'=>r=.ok (.ret (.bool true))/\OldK s₁.heap s'.heap/\s'.os=s₁.os/\AllBare s'.gens) s₁) :
  WalkO q loose XP YP l.row.toRowW d [] (fun f vs=>PySem.call f vs):=by
 intro w s₀ s₁ mg mb G Y fa o pm cd doc dV kV ho hd hcd hD hmg hg args vals as hpre hlay hrd hwl hlo;obtain rfl:dV=.none:=Dflts.none hD hdf;obtain rfl:kV=.none:=Dflts.noKw hD;obtain⟨a,vs,ns,rfl,rfl,hobj,hints,hlen⟩:=zat hn hpre hwl;refine enter_call (codeAny_mono (call w s₀ s₁ mg mb fa o pm cd doc a vs ns G Y ho (fd_plain hd) hcd hmg hobj hints hlen hg) fun r s' hq=>?_);obtain⟨rfl,h2,h3,h4⟩:=hq;exact⟨.inl ⟨.bool true,.bool true,[],rfl,fun _=>rfl,.bool true,zau l _,fun _=>⟨List.Pairwise.nil,fun _ hm=>(nomatch hm)⟩⟩,h2,h3,h4⟩
section
variable{prog:Program}{w:World}{A:Around}{E:Value->Shared->Prop}{s:Shared}{K:Frag}
def noObjs(h:Heap):Heap:={ h with objs:=#[] }
theorem noObjs_get(h:Heap)(b:Addr):(noObjs h).get? b=none:=by
 cases e:(noObjs h).get? b with
 | none=>rfl
 | some o=>exact absurd (Heap.lt_size e) (zu3 _)
end
end Att
namespace L2
open PySem PySem.Spec PyProof.Rows
theorem Nb:∀ {vs:List Value} {ns:List Int},IntsAre vs ns->Vals (ns.map V.int) vs
 | _,_,.nil=>.nil
 | _,_,.cons n t h=>.cons ⟨t,rfl⟩ (Nb h)
def zgs(H:Hp):Prop:=∀ b,H b=none\/∃ o xs,H b=some (.frz o (.lst xs))
theorem zcn{P:Program}{w:World}{K:Frag}{mg mb:Str->Option Value}{CX:CXT}{k:Nat}{fa a:Addr}{fd:FuncData}{x:Str}{sp:Sp}{s₁:Shared}{vs:List Value}{ns:List Int}
  (KX:K.In s₁.heap) (hns:s₁.heap.Ns mainGlobals mg) (hb:s₁.heap.Ns builtinsNs mb) (hbb:∀ x:Str,x≠"__name__"->mb x=bootBuiltins x) (hlim:s₁.heap.NoLimit) (hg:s₁.gens=#[])
  (ha:s₁.heap.get? a=some { cls:=.type "list",data:=.seq vs.toArray }) (hi:IntsAre vs ns) (hl:ns.length<=sizeLine) (hr:Wn k callerA)
  (F:∀ base:Heap,K.In base->base.Ns mainGlobals mg->FnOk P w K mg base CX k fa fd [x] sp) (hbind:∀ (s:Shared) (u:Value),BindsTo s fd ⟨[u],[]⟩ [(x,u)])
  (hsp:∀ H:Hp,zgs H->SqL K H a (ns.map V.int)->sp [.ref a] H (fun v _=>v=.bl true) fun _ _ _=>False)
  (hCX:∀ H e s',CX [] H s₁ (fun _ _ _=>False) e s'->False) :
  codeAny (model P w) callerA (.call (.ref fa) ⟨[.ref a],[]⟩) (fun r s'=>r=.ok (.ret (.bool true))/\OldK s₁.heap s'.heap/\s'.os=s₁.os/\AllBare s'.gens) s₁:=by
 have rv:=Nb hi;have lenV:=hi.length;have core:∀ H:Hp,zgs H->SqL K H a (ns.map V.int)->HOk P w H s₁.heap->(∀ b,H b≠none->b=a)->(H a≠none->K.lookup a=none) ->
   codeAny (model P w) callerA (.call (.ref fa) ⟨[.ref a],[]⟩) (fun r s'=>r=.ok (.ret (.bool true))/\OldK s₁.heap s'.heap/\s'.os=s₁.os/\AllBare s'.gens) s₁:=by
  intro H hO hS hok hA hK;have base_of:∀ {b:Addr} {o:Obj},s₁.heap.get? b=some o->H b=none->(G0 s₁.heap H).get? b=some o:=fun e n=>zb0 e n;have noA:∀ {b:Addr} {o:Obj} {es:Array DictEntry} {ep:Nat},s₁.heap.get? b=some o->o.data=.dict es ep->H b=none:=fun {b o es ep} e d=>by
   cases q:H b with
   | none=>rfl
   | some u =>
     have e':b=a:=hA b (by rw[q];simp);subst e';rw[ha] at e;cases e;have d':Data.seq vs.toArray _=Data.dict es ep:=d;cases d'
  have nsK:∀ {b:Addr} {m:Str->Option Value},s₁.heap.Ns b m->(G0 s₁.heap H).Ns b m:=fun {b m} ⟨o,es,ep,e,d,r⟩=>⟨o,es,ep,base_of e (noA e d),d,r⟩
  have hKb:K.In (G0 s₁.heap H):=fun b o e=>base_of (KX b o e) (by
   cases q:H b with
   | none=>rfl
   | some u =>
     have e':b=a:=hA b (by rw[q];simp);subst e';rw[hK (by rw[q];simp)] at e;cases e)
  have hM:Mod K mg (G0 s₁.heap H):=⟨hKb,nsK hns,⟨mb,nsK hb,hbb⟩,let ⟨mc,h1,h2⟩:=hlim;⟨mc,nsK h1,h2⟩⟩;have e0:Mh P w K mg (G0 s₁.heap H) callerA [] s₁ H:=⟨rfl,hM,fun b o e=>zec e,Nat.le_of_eq (zag _ _),trivial,fun b hb=>absurd (show b∈([]:List Addr) from hb) (by simp),hok,.of_eq hg⟩;refine codeAny_mono ((F _ hKb (nsK hns)).run callerA [] s₁ H ⟨[.ref a],[]⟩ [.ref a] [.ref a] _ _ hr e0 (hbind s₁ (.ref a)) (.cons rfl .nil) (hsp H hO hS)) fun r s' h=>?_;cases r with
  | error e=>exact(hCX H e s' h).elim
  | ok fl =>
    cases fl with
    | next=>exact False.elim h
    | brk=>exact False.elim h
    | cont=>exact False.elim h
    | ret u =>
      obtain⟨v,H',os,bare,un,hok',r',q⟩:=h;have q':v=.bl true:=q;subst q';obtain rfl:u=Value.bool true:=r';refine⟨rfl,OldK.of_keep fun b o e=>?_,os,bare⟩;cases q:H b with
      | none=>exact un.keep b o e q (by intro z;exact absurd (show b∈([]:List Addr) from z) (by simp)) (by simp)
      | some u =>
        rcases hO b with z|⟨ob,xs,z⟩
        ·rw[q] at z;cases z
        ·have z2:=un.frzs b ob _ z;obtain⟨e1,_⟩:=hok b _ z;obtain⟨e2,_⟩:=hok' b _ z2;rw[e] at e1;cases e1;exact e2
 cases hk:K.lookup a with
 | some o =>
   have e:=KX a o hk;rw[ha] at e;cases e;refine core (fun _=>none) (fun _=>.inl rfl) (.inr ⟨_,vs.toArray,_,hk,rfl,rfl,rfl,by rw[zte,lenV];exact hl,by simpa using rv⟩) (fun b u z=>by have z':(none:Option HO)=some u:=z;cases z') (fun b z=>absurd rfl z) fun z=>absurd rfl z
 | none =>
   refine core (fun b=>if b=a then some (.frz { cls:=.type "list",data:=.seq vs.toArray } (.lst (ns.map V.int))) else none) (fun b=>?_) (.inl (.inr ⟨{ cls:=.type "list",data:=.seq vs.toArray },if_pos rfl⟩)) (fun b u z=>?_) (fun b z=>?_) fun _=>hk
   ·by_cases hb:b=a
    ·exact .inr ⟨_,_,if_pos hb⟩
    ·exact .inl (if_neg hb)
   ·by_cases hb:b=a
    ·have z':=(if_pos hb).symm.trans z;cases z';subst hb;exact⟨ha,by rw[zs3];exact hl,vs,_,rv,ha⟩
    ·have z':=(if_neg hb).symm.trans z;cases z'
   ·by_cases hb:b=a
    ·exact hb
    ·exact absurd (if_neg hb) z
theorem ze0{l:PySem.W.OpenLaw}{n k:Nat}{q:Program}{loose:List Str}{XP:(Str->Option Value)->Heap->Prop}{YP:World->Heap->Prop}{d:DefRec}{K:Params->Frag}{CX:World->CXT}{sp:World->Sp}{x:Str}
  (hn:l.most=some n) (hn2:n<=sizeLine) (hdf:d.params.defaults=[]) (hr:Wn k callerA)
  (hY:∀ (w:World) (h:Heap),YP w h->(K w.params).In h)
  (F:∀ (w:World) (mg:Str->Option Value) (fa:Addr) (h:Heap),(K w.params).In h->h.Ns mainGlobals mg->mg d.name=some (.ref fa) ->
   ∃ fd:FuncData,(∀ (s:Shared) (u:Value),BindsTo s fd ⟨[u],[]⟩ [(x,u)]) /\
     ∀ base:Heap,(K w.params).In base->base.Ns mainGlobals mg->FnOk l.prog w (K w.params) mg base (CX w) k fa fd [x] (sp w))
  (hsp:∀ (w:World) (H:Hp) (a:Addr) (ns:List Int),ns.length<=n->zgs H->SqL (K w.params) H a (ns.map V.int)->sp w [.ref a] H (fun v _=>v=.bl true) fun _ _ _=>False)
  (hCX:∀ (w:World) (H:Hp) (s:Shared) (e:Value) (s':Shared),CX w [] H s (fun _ _ _=>False) e s'->False) :
  PySem.W.WalkO q loose XP YP l.row.toRowW d [] (fun f vs=>PySem.call f vs):=by
 refine Att.attach_call hn hdf fun w s₀ s₁ mg mb fa o pm cd doc a vs ns G Y ho hd hcd hmg hobj hints hlen hg=>?_;have KX:=hY w _ Y;obtain⟨fd,hb,hF⟩:=F w mg fa _ KX G.T.g hmg;exact zcn KX G.T.g G.T.b G.T.builtins G.T.nolimit hg hobj hints (zto hlen hn2) hr hF hb (fun H hO hS=>hsp w H a ns hlen hO hS) fun H e s'=>hCX w H s₁ e s'
def Zy(s:Stmt)(j:Nat):Stmt:=match s with
 | .ClassDef _ _ _ body _ _ _ _ _ _ _=>body.getD j (.Pass ⟨0,0,0,0⟩)
 | _=>.Pass ⟨0,0,0,0⟩
def Ti(s:Stmt):Arguments:=match s with
 | .FunctionDef _ a _ _ _ _ _ _ _ _=>a
 | _=>{ posonlyargs:=[],args:=[],vararg:=none,kwonlyargs:=[],kw_defaults:=[],kwarg:=none,defaults:=[] }
def Yf(s:Stmt):List Stmt:=match s with
 | .FunctionDef _ _ b _ _ _ _ _ _ _=>b
 | _=>[]
def Zj(s:Stmt):Scope:=match s with
 | .FunctionDef _ _ _ _ _ _ sc _ _ _=>sc
 | _=>{ kind:=.function,names:=[],isGenerator:=false,isCoroutine:=false }
abbrev E0:XK:=fun _ _ _=>False
structure Fun(K:Frag)(x qual:Str)(st:Stmt)(f:Addr)(fd:FuncData):Prop where
 ex:∃ (oc:Value) (od:Option Addr) (kV doc pm:Value) (an:Option Addr) (cdv ct:Value) (osl:Array (Option Value)),
  fd=PySem.W.fnOf x qual (Ti st) (Yf st) (Zj st) .none kV doc pm an cdv ct/\K.lookup f=some ⟨oc,od,.func fd,osl⟩/\PySem.W.codeIn K cdv qual=true
 kp:PySem.W.keepIn K (.ref f)=true
section
variable{P:Program}{w:World}{K:Frag}{mg:Str->Option Value}{base:Heap}
theorem Fun.binds{x qual:Str}{st:Stmt}{f:Addr}{fd:FuncData}{ps:List Str}(F:Fun K x qual st f fd)
  (h:∀ (kV doc pm:Value) (an:Option Addr) (cdv ct:Value) (us:List Value),us.length=ps.length->bindArgs (PySem.W.fnOf x qual (Ti st) (Yf st) (Zj st) .none kV doc pm an cdv ct) ⟨us,[]⟩=pure (ps.zip us)):T9 K fd ps []:=by
 obtain⟨oc,od,kV,doc,pm,an,cdv,ct,osl,rfl,lk,hcd⟩:=F.ex;exact .all (h kV doc pm an cdv ct)
theorem Pd{x qual:Str}{st:Stmt}{f:Addr}{oc:Value}{od an:Option Addr}{osl:Array (Option Value)}{kV doc pm cdv ct:Value}(l:K.lookup f=some ⟨oc,od,.func (PySem.W.fnOf x qual (Ti st) (Yf st) (Zj st) .none kV doc pm an cdv ct),osl⟩)
  (c:PySem.W.codeIn K cdv qual=true) (k:PySem.W.keepIn K (.ref f)=true):Fun K x qual st f (PySem.W.fnOf x qual (Ti st) (Yf st) (Zj st) .none kV doc pm an cdv ct):=⟨⟨oc,od,kV,doc,pm,an,cdv,ct,osl,rfl,l,c⟩,k⟩
end
theorem W8(hr:Wn k A):A.units+1<cLine:=zuo (Nat.add_le_add_left (by decide:1<=64) _) hr.units
theorem Ul(h:n<=1000):n<sizeLine:=zuo h ⋯
section
variable{X:Cx}
theorem pv(i:Nat)(hN:X.N[i]?=some x:=by rfl)(hv:Vis X.env.scope x:=by first|exact Or.inl rfl|exact Or.inr (Or.inl rfl)|exact Or.inr (Or.inr rfl))(hd:(x == ("__debug__":Str))=false:=by decide)
  (hcd:(x == ("__classdict__":Str))=false:=by decide):PE X (.Name x pos) (tVar i):=zf0 hN hv hd hcd
theorem zav:Wf X (.builtin "len") (fun xs H Q=>∃ a kvs,xs=[V.ref a]/\H a=some (.dK kvs)/\Q (.int kvs.length) H):=by
 intro pins s σ H xs us Q I r h;obtain⟨a,kvs,rfl,ha,q⟩:=h;obtain⟨u,rfl,ru⟩:=Tg r;cases ru;exact zh6 I (.inl ha) fun t s' I'=>⟨.int kvs.length,H,I',⟨t,rfl⟩,q⟩
end
theorem iteF{A B:Prop}(h:B):if false=true then A else B:=by
 rw[if_neg zti];exact h
theorem iteT{A B:Prop}(h:A):if true=true then A else B:=by
 rw[if_pos rfl];exact h
theorem Eo{c A B:Prop}[Decidable c](h1:c->A)(h2:¬ c->B):if c then A else B:=by
 by_cases h:c
 ·rw[if_pos h];exact h1 h
 ·rw[if_neg h];exact h2 h
def Same(H H':Hp):Prop:=∀ b o,H b=some o->H' b=some o
theorem Same.refl(H:Hp):Same H H:=fun _ _ h=>h
theorem Same.trans(a:Same H H1)(b:Same H1 H2):Same H H2:=fun c o h=>b c o (a c o h)
theorem Same.free(e:Same H H')(h:H' l=Option.none):H l=Option.none:=by
 cases q:H l with
 | none=>rfl
 | some o =>
   rw[e l o q] at h;cases h
theorem Same.seq{K:Frag}{H H':Hp}{a:Addr}{xs:List V}(e:Same H H')(h:SqL K H a xs):SqL K H' a xs:=by
 rcases h with (h|⟨o,h⟩)|h
 ·exact .inl (.inl (e _ _ h))
 ·exact .inl (.inr ⟨o,e _ _ h⟩)
 ·exact .inr h
section
variable{κ:Type}[DecidableEq κ]
theorem G9:∀ {l:List κ} {k:κ},l.Nodup->¬ k∈l->(l++[k]).Nodup
 | [],k,_,_=>by simp
 | a :: r,k,h,hk=>by
   obtain⟨h1,h2⟩:=ztx.mp h;show (a :: (r++[k])).Nodup;refine ztx.mpr ⟨fun m=>?_,G9 h2 fun m=>hk (zs7.mpr (Or.inr m))⟩;rcases zth.mp m with q|q
   ·exact h1 q
   ·exact hk (zs7.mpr (Or.inl (zs9.mp q).symm))
theorem zaw{p:κ×V}{r:List (κ×V)}{k:κ}(e:p.1=k):Xn (p :: r) k=Xn r k:=by
 unfold Xn;rw[zua,if_neg (by simp[e])]
theorem zax{p:κ×V}{r:List (κ×V)}{k:κ}(e:¬ p.1=k):Xn (p :: r) k=p :: Xn r k:=by
 unfold Xn;rw[zua,if_pos (by simp[e])]
end
section
variable{X:Cx}{pins:List (Addr×Obj)}{σ:List (Option V)}{H H':Hp}{s:Shared}{h':Heap}
theorem Inv.stepN{g':Array GenState}{t':Nat}{d':Drawn}{ch:List Addr}(I:Inv X pins σ H s)
  (hch:∀ b∈ch,(b∈X.ex\/X.s₀.heap.get? b=none)/\b≠X.env.locals/\(∀ x c,X.env.cells.lookup x=some c->c≠b)/\∀ p∈X.pn++pins,p.1≠b)
  (keep:∀ b o,b≠X.env.locals->b∉X.fs->b∉ch->s.heap.get? b=some o->H b=none->h'.get? b=some o)
  (slot:∀ b o,b≠X.env.locals->b∈X.fs->b∉ch->s.heap.get? b=some o->H b=none->∃ sl,h'.get? b=some { o with slots:=sl }) (free:∀ b o,b∉ch->s.heap.get? b=some o->H b=none->H' b=none)
  (there:∀ b o,b∉ch->s.heap.get? b=some o->∃ o',h'.get? b=some o')
  (tups:∀ b xs,H b=some (.tup xs)->H' b=some (.tup xs)) (frzs:∀ b o u,H b=some (.frz o u)->H' b=some (.frz o u)) (tbls:∀ b ps,H b=some (.tbl ps)->∃ more,H' b=some (.tbl (ps++more)))
  (ns:∀ m,s.heap.Ns X.env.locals m->h'.Ns X.env.locals m) (hok:HOk X.prog X.w H' h') (hg:AllBare g') :
  Inv X pins σ H' { s with heap:=h',gens:=g',drawn:=d',toks:=t' }:=by
 have neL:∀ b o,X.s₀.heap.get? b=some o->b≠X.env.locals:=fun b o e=>ztv (ztm (Heap.lt_size e) I.ok.above);have neC:∀ b o,X.s₀.heap.get? b=some o->b∉X.ex->b∉ch:=fun b o e hx hb=>by
  rcases(hch b hb).1 with z|z
  ·exact hx z
  ·rw[z] at e;cases e
 have cellK:∀ x c,X.env.cells.lookup x=some c->∀ v,s.heap.IsCell c v->h'.IsCell c v:=fun x c e v ⟨o,ho,hd⟩=>by
  have nch:c∉ch:=fun z=>(hch c z).2.2.1 x c e rfl;by_cases hc:c∈X.fs
  ·obtain⟨sl,q⟩:=slot c o (I.cne x c e) hc nch ho (I.freeC x c e);exact⟨_,q,hd⟩
  ·exact⟨o,keep c o (I.cne x c e) hc nch ho (I.freeC x c e),hd⟩
 refine⟨I.ok,I.os,hg,⟨fun b o e n hb hx=>?_,fun b o e n hb hx=>?_,fun b o e n hx=>?_,fun b o e hx=>?_,fun b xs e=>tups b xs (I.base.tups b xs e),fun b o xs e=>frzs b o xs (I.base.frzs b o xs e),fun b ps e=>?_⟩,?_,fun x c e=>?_,?_,fun x c e=>?_,fun p hp=>?_,hok,I.len⟩
 ·exact keep b o (neL b o e) hb (neC b o e hx) (I.base.keep b o e n hb hx) (I.base.free b o e n hx)
 ·obtain⟨sl,e1⟩:=I.base.slot b o e n hb hx;obtain⟨sl',e2⟩:=slot b _ (neL b o e) hb (neC b o e hx) e1 (I.base.free b o e n hx);exact⟨sl',e2⟩
 ·obtain⟨o',e1⟩:=I.base.there b o e hx;exact free b o' (neC b o e hx) e1 (I.base.free b o e n hx)
 ·obtain⟨o',e1⟩:=I.base.there b o e hx;exact there b o' (neC b o e hx) e1
 ·obtain⟨m1,e1⟩:=I.base.tbls b ps e;obtain⟨m2,e2⟩:=tbls b _ e1;exact⟨m1++m2,by rw[e2,Array.append_assoc]⟩
 ·obtain⟨m,hn,hl⟩:=I.loc;refine⟨m,ns m hn,fun i x v e1 e2 e3=>?_⟩;obtain⟨u,r,l⟩:=hl i x v e1 e2 e3;refine⟨u,r,?_⟩;rcases l with l|⟨k,c,e,z⟩
  ·exact .inl l
  ·exact .inr ⟨k,c,e,cellK x c e _ z⟩
 ·obtain⟨v,z⟩:=I.cell x c e;exact⟨v,cellK x c e v z⟩
 ·obtain⟨m,⟨o,_,_,ho,_⟩,_⟩:=I.loc;exact free _ o (fun z=>(hch _ z).2.1 rfl) ho I.free
 ·obtain⟨v,o,ho,hd⟩:=I.cell x c e;exact free c o (fun z=>(hch c z).2.2.1 x c e rfl) ho (I.freeC x c e)
 ·obtain⟨e,n,ne,nf,d⟩:=I.pin p hp;have nch:p.1∉ch:=fun z=>(hch p.1 z).2.2.2 p hp rfl;exact⟨keep p.1 p.2 ne nf nch e n,free p.1 p.2 nch e n,ne,nf,d⟩
theorem Inv.callN{g':Array GenState}{t':Nat}{d':Drawn}{ch:List Addr}(I:Inv X pins σ H s)(u:Un (frs X.stack) ch H H' s.heap h')(hok:HOk X.prog X.w H' h')(hg:AllBare g')
  (hch:∀ b∈ch,(b∈X.ex\/X.s₀.heap.get? b=none)/\b≠X.env.locals/\(∀ x c,X.env.cells.lookup x=some c->c≠b)/\∀ p∈X.pn++pins,p.1≠b) :
  Inv X pins σ H' { s with heap:=h',gens:=g',drawn:=d',toks:=t' }:=by
 obtain⟨m,⟨o,es,ep,ho,r⟩,_⟩:=id I.loc;obtain⟨sl,hL⟩:=u.any ho I.free fun z=>(hch _ z).2.1 rfl;exact I.stepN (ch:=ch) hch (fun b o hL hb hc e n=>u.keep b o e n (fun z=>(zs7.mp (I.stkSub b z)).elim hL hb) hc) (fun b o _ _ hc e n=>u.any e n hc) (fun b o hc e n=>u.free b o e n hc) (fun b o hc e=>u.there b o e hc) u.tups u.frzs u.tbls (fun m' hm=>by
  obtain⟨o',es',ep',ho',r'⟩:=hm;rw[ho] at ho';cases ho';exact⟨_,es',ep',hL,r'⟩) hok hg
theorem Inv.callN'(I:Inv X pins σ H s)(ho:s'.os=s.os)(u:Un (frs X.stack) ch H H' s.heap s'.heap)(hok:HOk X.prog X.w H' s'.heap)(hg:AllBare s'.gens)
  (hch:∀ b∈ch,(b∈X.ex\/X.s₀.heap.get? b=none)/\b≠X.env.locals/\(∀ x c,X.env.cells.lookup x=some c->c≠b)/\∀ p∈X.pn++pins,p.1≠b):Inv X pins σ H' s':=by
 obtain⟨h',g',d',t',o'⟩:=s';have e:o'=s.os:=ho;subst e;exact I.callN (g':=g') (t':=t') (d':=d') u hok hg hch
end
section
variable{P:Program}{w:World}{H H':Hp}{h h' g:Heap}{a:Addr}{o:HO}
theorem Ym.there(x:Ym P w H h a o):∃ ob,h.get? a=some ob:=by
 cases o with
 | lst xs=>obtain⟨_,_,_,_,e⟩:=x;exact⟨_,e⟩
 | tup xs=>obtain⟨_,_,_,ob,e,_⟩:=x;exact⟨_,e⟩
 | dK kvs=>obtain⟨_,_,_,_,o,_,_,e,_⟩:=x;exact⟨_,e⟩
 | dT kvs=>obtain⟨_,_,_,_,o,_,_,e,_⟩:=x;exact⟨_,e⟩
 | set S n=>obtain⟨o,_,_,_,e,_⟩:=x;exact⟨_,e⟩
 | ins C dx fs=>obtain⟨_,_,_,e,_⟩:=x;exact⟨_,e⟩
 | own y=>obtain⟨_,e⟩:=x;exact⟨_,e⟩
 | xd fs=>obtain⟨_,⟨_,_,_,e,_⟩,_⟩:=x;exact⟨_,e⟩
 | rng lo hi=>obtain⟨_,_,_,e⟩:=x;exact⟨_,e⟩
 | frz ob u=>obtain⟨e,_⟩:=x;exact⟨_,e⟩
 | tbl ps=>exact⟨_,(show h.get? a=some _ from x)⟩
 | met f y=>exact⟨_,(show h.get? a=some _ from x)⟩
 | ext φ=>obtain⟨_,⟨_,e⟩,_⟩:=x;exact⟨_,e⟩
theorem HOk.none_of(x:HOk P w H h)(e:h.get? a=none):H a=none:=by
 cases q:H a with
 | none=>rfl
 | some u =>
   obtain⟨_,z⟩:=(x a u q).there;rw[e] at z;cases z
theorem Ep(e:(PySem.W.hideAll h as).get? a=none):h.get? a=none\/a∈as:=by
 by_cases m:a∈as
 ·exact .inr m
 ·cases q:h.get? a with
  | none=>exact .inl rfl
  | some o=>rw[PySem.W.hideAll_get as q m] at e;cases e
end
structure Fly(g:Heap)(H:Hp)(h:Heap)(e T:Addr)(cls:Value):Prop where
 ex:∃ oe vs oT ts,h.get? e=some oe/\oe.cls=cls/\oe.data=.fields vs/\vs[1]?=some (.ref T)/\T≠e/\h.get? T=some oT/\oT.data=.fields ts/\ts[3]?=some .none
 newE:g.get? e=none
 newT:g.get? T=none
 freeE:H e=none
 freeT:H T=none
def CX1(P:Program)(w:World):CXT:=fun outer H s E e s'=>∃ a T cls H',e=.ref a/\s'.os=s.os/\AllBare s'.gens/\Un (frs outer) [] H H' s.heap s'.heap/\HOk P w H' s'.heap/\Fly s.heap H' s'.heap a T cls/\E cls none H'
section
variable{X:Cx}{pins:List (Addr×Obj)}{σ:St}{H H':Hp}{s s':Shared}{h':Heap}{e T:Addr}{cls:Value}
structure Up(X:Cx)(ch:List Addr)(h h':Heap):Prop where
 keep:∀ b o,h.get? b=some o->b∉ch->b∉frs X.stack->h'.get? b=some o
 slot:∀ b o,h.get? b=some o->b∉ch->b∈frs X.stack->∃ sl,h'.get? b=some { o with slots:=sl }
theorem Up.of(I:Inv X pins σ H s)(st:(PySem.W.hideAll s.heap (as++frs X.stack)).StaysIn h')(up:s.heap.UpToSlots h'):Up X as s.heap h' where
 keep:=fun b o q n1 n2=>st b o (PySem.W.hideAll_get _ q (by simp[n1,n2]))
 slot:=fun b o q _ m=>by
  obtain⟨_,o',ho,nf⟩:=I.stack.mem m;rw[q] at ho;cases ho;exact up b o q nf
theorem Up.un(I:Inv X pins σ H s)(t:Up X ch s.heap h')(hch:∀ b∈ch,H b=none):Un (frs X.stack) ch H H s.heap h' where
 keep:=fun b o q n hf hc=>t.keep b o q hc hf
 slot:=fun b o q n hf hc=>t.slot b o q hc hf
 free:=fun _ _ _ n _=>n
 there:=fun b o q hc=>by
  by_cases m:b∈frs X.stack
  ·obtain⟨_,z⟩:=t.slot b o q hc m;exact⟨_,z⟩
  ·exact⟨o,t.keep b o q hc m⟩
 tups:=fun _ _ q=>q
 frzs:=fun _ _ _ q=>q
 tbls:=fun b ps q=>⟨#[],by rw[q];simp⟩
theorem Up.hok(I:Inv X pins σ H s)(t:Up X ch s.heap h')(hch:∀ b∈ch,H b=none):HOk X.prog X.w H h':=fun b u q=>by
 have tr:∀ c v,H c=some v->c∉ch/\c∉frs X.stack:=fun c v z=>⟨(fun m=>by rw[hch c m] at z;cases z),(fun m=>by rw[I.stkFree c m] at z;cases z)⟩
 refine(I.hok b u q).stay (fun c v hc r=>?_) (fun _ z=>z) fun _ _ z=>z;rcases hc with z|z
 ·subst z;exact t.keep c v r (tr c u q).1 (tr c u q).2
 ·exact t.keep c v r (tr c _ z).1 (tr c _ z).2
theorem Inv.newRec(I:Inv X pins σ H s)(hx:X.ex=[])(n:s.heap.get? b=none):(b∈X.ex\/X.s₀.heap.get? b=none)/\b≠X.env.locals/\(∀ x c,X.env.cells.lookup x=some c->c≠b)/\∀ p∈X.pn++pins,p.1≠b:=by
 refine⟨.inr ?_,?_,?_,?_⟩
 ·cases q:X.s₀.heap.get? b with
  | none=>rfl
  | some o =>
    obtain⟨_,z⟩:=I.base.there b o q (by rw[hx];simp);rw[n] at z;cases z
 ·rintro rfl;obtain⟨m,⟨o,_,_,ho,_⟩,_⟩:=I.loc;rw[n] at ho;cases ho
 ·rintro x c hc rfl;obtain⟨v,o,ho,_⟩:=I.cell x c hc;rw[n] at ho;cases ho
 ·rintro p hp rfl;obtain⟨z,_⟩:=I.pin p hp;rw[n] at z;cases z
theorem Inv.raised(I:Inv X pins σ H s)(ho:s'.os=s.os)(hg:AllBare s'.gens)(u:Un (frs X.stack) [] H H' s.heap s'.heap)(hok:HOk X.prog X.w H' s'.heap):Inv X pins σ H' s' :=
 I.call' ho u hok hg (fun _ z=>nomatch z)
theorem Fly.flying(J:Inv X pins σ H s)(hl:s.heap.FunFrames X.base l)(hsub:∀ b∈frs l,b∈frs X.stack)(F:Fly g H s.heap e T cls) :
  ∃ a0,Heap.FlyingW (PySem.W.hideAll s.heap ([e,T]++frs X.stack)) l e cls a0 s.heap:=by
 obtain⟨oe,vs,oT,ts,e1,e2,e3,e4,e5,e6,e7,e8⟩:=F.ex;have sz:0<vs.size:=zuo (ztt _) (Array.getElem?_eq_some_iff.mp e4).1;refine⟨vs[0],fun b o q=>PySem.W.of_hideAll _ q,PySem.W.hideAll_none _ (by simp),PySem.W.funFrames_hide hl fun env he a ha=>?_,oe,vs,T,oT,ts,e1,⟨e2,?_⟩,e3,e4,PySem.W.hideAll_none _ (by simp),e5,e6,e7,e8⟩
 ·have:a∈frs l:=zum.mpr ⟨env,he,ha⟩;simp[hsub a this]
 ·exact Array.getElem?_eq_getElem sz
theorem Fly.again(J:Inv X pins σ H s)(F:Fly g H s.heap e T cls)(hg:∀ b,s.heap.get? b=none->g.get? b=none)
  (up:s.heap.UpToSlots h') (st:(PySem.W.hideAll s.heap ([e,T]++frs X.stack)).StaysIn h') (tr:h'.TracedW (PySem.W.hideAll s.heap ([e,T]++frs X.stack)) e cls a0):∃ T',Fly g H h' e T' cls:=by
 obtain⟨oe,vs,T',oT,ts,f1,⟨f2,_⟩,f3,f4,f5,f6,f7,f8,f9⟩:=tr;refine⟨T',⟨oe,vs,oT,ts,f1,f2,f3,f4,f6,f7,f8,f9⟩,F.newE,?_,F.freeE,?_⟩
 all_goals
  rcases Ep f5 with z|z
  ·first
    | exact hg _ z
    | exact J.hok.none_of z
  ·simp only[zth,zs7,zt1,or_false] at z;rcases z with (z|z)|z
   ·exact absurd z f6
   ·subst z
    first
     | exact F.newT
     | exact F.freeT
   ·obtain⟨_,o,ho,nf⟩:=J.stack.mem z;obtain⟨sl,q⟩:=up T' o ho nf;rw[f7] at q;cases q;exact absurd f8 (nf _)
end
section
variable{P:Program}{w:World}{K:Frag}{mg:Str->Option Value}{base:Heap}{N:List Str}{qual:Str}{scope:Scope}{f:Addr}{cd:Value}{A:Around}{outer:List Env}{s0:Shared}{H0:Hp}{E:XK}
 {pins:List (Addr×Obj)} {σ:St} {H H':Hp} {s s':Shared} {h':Heap} {e T:Addr} {cls:Value}
theorem Er(hx:X.ex=[])(J:Inv X pins σ H s)(hst:X.stack=X.env :: X.outer)(hf:X.env.frame=some X.env.locals)(t:Up X ch s.heap h')(hch:∀ b∈ch,X.s₀.heap.get? b=none) :
  Un X.fs [] X.H₀ H X.s₀.heap h':=by
 have nb:∀ b o,X.s₀.heap.get? b=some o->b∉ch:=fun b o q m=>by rw[hch b m] at q;cases q
 have mem:∀ b,b∈frs X.stack↔b=X.env.locals\/b∈X.fs:=fun b=>by
  unfold Cx.fs frs;rw[hst,zus,hf];exact zs7
 have neL:∀ b o,X.s₀.heap.get? b=some o->b≠X.env.locals:=fun b o q=>ztv (ztm (Heap.lt_size q) J.ok.above);have nx:∀ b:Addr,b∉X.ex:=fun b=>by rw[hx];simp
 refine⟨fun b o q n hb _=>?_,fun b o q n hb _=>?_,fun b o q n _=>J.base.free b o q n (nx b),fun b o q _=>?_,J.base.tups,J.base.frzs,J.base.tbls⟩
 ·refine t.keep b o (J.base.keep b o q n hb (nx b)) (nb b o q) fun m=>?_;exact((mem b).mp m).elim (neL b o q) hb
 ·obtain⟨sl,z⟩:=J.base.slot b o q n hb (nx b);obtain⟨sl',z'⟩:=t.slot b _ z (nb b o q) ((mem b).mpr (.inr hb));exact⟨sl',z'⟩
 ·obtain⟨o',z⟩:=J.base.there b o q (nx b);by_cases m:b∈frs X.stack
  ·obtain⟨_,z'⟩:=t.slot b o' z (nb b o q) m;exact⟨_,z'⟩
  ·exact⟨o',t.keep b o' z (nb b o q) m⟩
theorem Zk:Wh (CX1 P w) (cxOf (CX1 P w) P w K mg base N qual scope f cd A outer s0 H0 E) E:=by
 intro pins σ H s ev s' I h;obtain⟨a,T,cls,H',q0,ho,hg,u,hok,F,hE⟩:=h;subst q0;have J:=I.raised ho hg u hok;obtain⟨a0,hfl⟩:=F.flying J J.stack (fun _ z=>z);refine wpAny_leaves_onW (base:=PySem.W.hideAll s'.heap ([a,T]++frs _)) J.ok.frames rfl hfl fun h2 hfl2 up=>?_;have old:∀ b,s.heap.get? b=none->s0.heap.get? b=none:=fun b n=>by
  cases q:s0.heap.get? b with
  | none=>rfl
  | some o =>
    obtain⟨_,z⟩:=I.base.there b o q (by show b∉([]:List Addr);simp);rw[n] at z;cases z
 have old2:∀ b,s'.heap.get? b=none->s0.heap.get? b=none:=fun b n=>by
  cases q:s0.heap.get? b with
  | none=>rfl
  | some o =>
    obtain⟨_,z⟩:=J.base.there b o q (by show b∉([]:List Addr);simp);rw[n] at z;cases z
 have t:=Up.of (as:=[a,T]) J hfl2.1 up;have F0:Fly s0.heap H' s'.heap a T cls:=⟨F.ex,old _ F.newE,old _ F.newT,F.freeE,F.freeT⟩;obtain⟨T',F'⟩:=F0.again J old2 up hfl2.1 hfl2.2.2.2;refine⟨a,T',cls,H',rfl,J.os,J.bare,Er rfl J rfl rfl t ?_,t.hok J ?_,F',hE⟩
 ·intro b hb;rcases zs7.mp hb with rfl|hb
  ·exact F0.newE
  ·rcases zs7.mp hb with rfl|hb
   ·exact F0.newT
   ·cases hb
 ·intro b hb;rcases zs7.mp hb with rfl|hb
  ·exact F.freeE
  ·rcases zs7.mp hb with rfl|hb
   ·exact F.freeT
   ·cases hb
def zfo(X:Cx)(E:XK):Prop:=∀ (pins:List (Addr×Obj)) (σ:St) (H:Hp) (s:Shared) (h':Heap) (e C:Addr) (args:List Value),Inv X pins σ H s->Heap.MadeExcOf s.heap h' e (.ref C) args->E (.ref C) none H->X.xe (.ref e) { s with heap:=h' }
theorem Y2:zfo (cxOf (CX1 P w) P w K mg base N qual scope f cd A outer s0 H0 E) E:=by
 intro pins σ H s h1 e C args I hm hE;refine wpAny_leaves_madeW (base:=PySem.W.hideAll s.heap ([]++frs _)) (h:=s.heap) I.ok.frames rfl (fun b o q=>PySem.W.of_hideAll _ q)
  (PySem.W.funFrames_hide I.stack fun env he a ha=>by
   have:a∈frs _:=zum.mpr ⟨env,he,ha⟩
   simpa using this) hm fun h2 t hfl _ _ up=>?_
 have up2:s.heap.UpToSlots h2:=(Heap.UpToSlots.of_keeps hm.keeps).trans up;have tt:=Up.of (as:=[]) I hfl.1 up2;have old2:∀ b,s.heap.get? b=none->s0.heap.get? b=none:=fun b n=>by
  cases q:s0.heap.get? b with
  | none=>rfl
  | some o =>
    obtain⟨_,z⟩:=I.base.there b o q (by show b∉([]:List Addr);simp);rw[n] at z;cases z
 obtain⟨oe,vs,T',oT,ts,f1,⟨f2,_⟩,f3,f4,f5,f6,f7,f8,f9⟩:=hfl.2.2.2;have nT:s.heap.get? T'=none:=by
  rcases Ep f5 with z|z
  ·exact z
  ·have z':T'∈frs (cxOf (CX1 P w) P w K mg base N qual scope f cd A outer s0 H0 E).stack:=(zth.mp z).resolve_left (by simp);obtain⟨_,o,ho,nf⟩:=I.stack.mem z';obtain⟨sl,q⟩:=up2 T' o ho nf;rw[f7] at q;cases q;exact absurd f8 (nf _)
 refine⟨e,T',.ref C,H,rfl,I.os,I.bare,Er rfl I rfl rfl tt (fun _ z=>nomatch z),tt.hok I (fun _ z=>nomatch z),⟨⟨oe,vs,oT,ts,f1,f2,f3,f4,f6,f7,f8,f9⟩,old2 _ hm.new,old2 _ nT,I.hok.none_of hm.new,I.hok.none_of nT⟩,hE⟩
end
structure Rw(K:Frag)(mg:Str->Option Value)(x:Str)(C:Addr):Prop where
 nm:mg x=some (.ref C)
 ex:PySem.W.excIn K C [.type "ValueError",.type "Exception",.type "BaseException",.type "object"] "ValueError.__new__"=true
theorem Rw.own{K:Frag}{mg:Str->Option Value}{x:Str}{C:Addr}{h:Heap}(c:Rw K mg x C)(X:K.In h):OwnCls x C [.type "ValueError",.type "Exception",.type "BaseException",.type "object"] "ValueError.__new__" mg h:=by
 refine⟨c.nm,?_⟩;have q:=c.ex;unfold PySem.W.excIn at q;split at q
 ·rename_i dd cd sl ho;split at q
  ·rename_i C' bm k0 k1 k2 k3 n k5 hm hs;simp only[zut,beq_iff_eq,Bool.not_eq_true'] at q;obtain⟨⟨⟨⟨⟨rfl,rfl⟩,hdel⟩,ht⟩,hok⟩,hni⟩:=q;obtain⟨nm,bs,mro,ns,qn,hd,sn,sub,ab,col,del⟩:=cd;dsimp only at hm hdel hok hni;subst hm hdel;have hsl:sl=#[k0,k1,k2,k3,some (.builtin "ValueError.__new__"),k5]:=by
    obtain⟨l⟩:=sl;simp only at hs;rw[hs]
   subst hsl;exact⟨bm,ns,nm,qn,bs,hd,sn,sub,ab,col,dd,k0,k1,k2,k3,k5,_,X _ _ ho,.of_isNs (PySem.W.isNs_of_in X hok),PySem.W.nsMap_none_of_in X hok hni,PySem.W.tail_of_in X ht⟩
  ·cases q
 ·cases q
inductive ze1(C:Addr)(E:XK)(vs:List V)(H1:Hp):Prop where
 | mk(_:vs.length<=sizeLine)(_:E (.ref C) none H1)
def zgt(C:Addr)(E:XK)(t:TA):TS:=fun _ σ H=>t σ H fun vs H1=>ze1 C E vs H1
theorem Y3{X:Cx}{x:Str}{C:Addr}{E:XK}{e₀:Expr}{rest:List Expr}{t:TA}{np cpos pos:Pos}(hl:zfo X E)(hc:X.calm=true)(c:Rw X.K X.mg x C)(hg:Gl X x)(ha:PA X (e₀ :: rest) t)
  (he:starEach (e₀ :: rest) X.env=(false,eval e₀ X.env) :: starEach rest X.env:=by rfl) (hplain:(backTo cpos (starEach rest X.env)).any (·.1)=false:=by rfl) (hd:(x == ("__debug__":Str))=false:=by decide) :
  PS X (.Raise (some (.Call (.Name x np) (e₀ :: rest) [] cpos)) none pos) (zgt C E t):=by
 intro pins s σ H D I h;have O:=c.own I.mod.kin;obtain⟨tl,N,nm,q,bs,hdct,sn,sub,ab,col,dd,k0,k1,k2,k3,k5,mN,hC,hN,hni,T⟩:=O.obj;refine wpAny_Raise_call_subT (C:=C) (nm:=nm) (q:=q) (N:=N) (bs:=bs) (bm:=tl) (hdct:=hdct) (sn:=sn) (sub:=sub) (ab:=ab) (col:=col) (dd:=dd) (k0:=k0) (k1:=k1) (k2:=k2) (k3:=k3) (k5:=k5)
  PySem.F.excBase_ValueError (mN:=mN) (T.hasType (by rfl)) (I.ok.hd hc) (by rw[he];show (false||(backTo cpos (starEach rest X.env)).any (·.1))=false;rw[hplain];rfl) hni (Qj I hg c.nm ⟨rfl,?_⟩ hd)
 have hp:=ha cpos pins s σ H _ I h;rw[he] at hp ⊢;refine Calls.evalArgs_plain (wpAny_mono hp (fun us s2 h2=>?_) fun _ _ y=>y);obtain⟨vs,H1,I1,r,hlen,hE⟩:=h2;exact⟨rfl,by rw[<- r.length];exact hlen,I1.bk _ _ hC,hN.keeps I1.bk,T.keeps I1.bk,fun h' e hm=>hl _ _ _ _ _ _ _ _ I1 hm hE⟩
structure zco(K:Frag)(CB:Addr):Prop where
 ty:PySem.W.typeIn K (.ref CB)=some (.type "type")
 cl:(PySem.W.clsIn K CB).isSome=true
 bx:PySem.W.mroIn K CB (.type "BaseException")=some true
theorem Es{K:Frag}{M:Model}{A:Around}{E:Value->Shared->Prop}{s:Shared}{e C CB:Addr}{b:Bool}{oe:Obj}{Q:Bool->Shared->Prop}(X:K.In s.heap)(c:zco K CB)
  (he:s.heap.get? e=some oe) (hcls:oe.cls=.ref C) (hm:PySem.W.mroIn K C (.ref CB)=some b) (h:Q b s):wpAny M A (excMatches (.ref e) (.ref CB)) Q E s:=by
 obtain⟨hp,g,d,tk,os⟩:=s;have L1:=PySem.W.looks_typeIn (M:=M) X c.ty;have L2:=PySem.W.looks_mroIn (M:=M) X c.bx;have L3:=PySem.W.looks_mroIn (M:=M) X hm;have L0:PySem.W.Looks M hp (typeOf (.ref e)) (.ref C):=hcls▸(PySem.W.Looks.ld he).andThen .now;have L4:PySem.W.Looks M hp (isType (.ref CB)) true:=by
  have z:=c.cl;unfold PySem.W.clsIn at z;split at z
  ·rename_i c' d' cd' sl' ho;intro A' Q' E' s' k q;unfold isType loadHead;exact wpAny_bind (wpAny_loadPart (k _ _ (X _ _ ho)) (wpAny_pure q))
  ·cases z
 unfold excMatches isInstance isExcClass;refine wpAny_bind (wpAny_bind (L1.at (wpAny_of_eq tc_notTuple ?_)));simp only[zub,if_false,List.forIn_cons,List.forIn_nil];refine wpAny_bind (wpAny_pure (wpAny_bind ?_));simp only[List.forIn_cons,List.forIn_nil];refine wpAny_bind (wpAny_bind (wpAny_bind (L4.at ?_)));simp only[if_true];refine L2.at ?_;simp only[Bool.not_true,zub,if_false];refine wpAny_pure (wpAny_pure (wpAny_bind (L0.at (wpAny_bind (wpAny_bind (wpAny_bind (L3.at ?_)))))));cases b with
 | true=>simp only[if_true];exact wpAny_pure (wpAny_pure (wpAny_pure h))
 | false=>simp only[zub,if_false];exact wpAny_pure (wpAny_pure (wpAny_pure h))
end L2
namespace L2
open PySem PySem.Spec PyProof.Rows PySem.W PySem.Calls PySem.Builtin PySem.Builtin.ObjectAttr PySem.Builtin.Getset_descriptor
def excO(a:Addr)(cls:Value):HO:=.ext fun h=>∃ o vs,h.get? a=some o/\o.cls=cls/\o.data=.fields vs
structure Fb(K:Frag)(D:Addr):Prop where
 ga:findIn K (.ref D) "__getattribute__"=some (some (.builtin "BaseException.__getattribute__"))
 gk:findIn K (.ref D) "__getattr__"=some none
 cl:(clsIn K D).isSome=true
 at_:findIn K (.ref D) "__class__"=some (some (.builtin "object.__class__"))
 gt:specialIn K (.builtin "object.__class__") "__get__"=some (some (.builtin "getset_descriptor.__get__"))
 tk:takesIn K (.builtin "object.__class__")=some true
 mo:mroIn K D (.type "object")=some true
 mx:mroIn K D (.type "BaseException")=some true
section
variable{prog:Program}{w:World}{A:Around}{E:Value->Shared->Prop}{s:Shared}{K:Frag}{x D:Addr}
theorem zcp(X:K.In h)(c:Fb K D):Looks M h (find (.ref x) (.ref D) "__class__") (.bind (.builtin "getset_descriptor.__get__") (.builtin "object.__class__")):=by
 have L1:=looks_findIn (M:=M) X c.at_;have L2:Looks M h (getOf (some (.builtin "object.__class__"))) (some (.builtin "getset_descriptor.__get__")):=looks_specialIn X c.gt;have L3:=looks_takesIn (M:=M) X c.tk;exact L1.andThen (L2.andThen ((show Looks M h (dataDescriptor? (some (.builtin "object.__class__")) (some (.builtin "getset_descriptor.__get__"))) (some (.builtin "getset_descriptor.__get__",.builtin "object.__class__")) from L3.andThen .now).andThen (Looks.tag .now)))
theorem Bb(X:K.In s.heap)(hx:s.heap.get? x=some o)(hc:o.cls=.ref D)(c:Fb K D)(q:R (.ok (.ret (.ref D))) s) :
  codeAny (model prog w) A (.call (.builtin "getset_descriptor.__get__") ⟨[.builtin "object.__class__",.ref x,.ref D],[]⟩) R s:=by
 obtain⟨hh,g,d,t,os⟩:=s;have L0:Looks (model prog w) hh (typeOf (.ref x)) (.ref D):=hc▸(Looks.ld hx).andThen .now;have Lm:=looks_mroIn (M:=model prog w) X c.mo;refine codeAny_call_builtin KF.slot_gs.plain KF.entry_gs (KF.slot_gs.check _ _ _ _ _ _ _ _ KF.type_class (KF.args_gs _ _ _) ?_);unfold Builtin.«getset_descriptor.__get__» descrGet;rw[dga_obj];refine wpAny_bind (wpAny_pure ?_);unfold descrGetter descrCheckInstance descrNameAndClass isInstance;simp only[KF.owner_class]
 repeat lk
 refine⟨Code.quiet_builtin _ ⋯,codeAny_builtin KF.entry_class ?_⟩;unfold Builtin.«object.__class__» shownTypeOf
 repeat lk
 exact q
theorem zgu(X:K.In s.heap)(hx:s.heap.get? x=some o)(hc:o.cls=.ref D)(c:Fb K D)(q:Q (.done (.ret (.ref D))) s) :
  wpAny (model prog w) A (Builtin.«object.__getattribute__» ⟨[.ref x,.str "__class__" tk],[]⟩) Q E s:=by
 have L0:Looks (model prog w) s.heap (typeOf (.ref x)) (.ref D):=hc▸(Looks.ld hx).andThen .now;have Lf:=zcp (x:=x) (M:=model prog w) X c;have e1:slotArgs "__getattribute__" 1 ⟨[.ref x,.str "__class__" tk],[]⟩=pure (.ref x,[.str "__class__" tk]):=rfl;unfold Builtin.«object.__getattribute__»;rw[e1];refine wpAny_bind (wpAny_pure ?_);refine wpAny_bind (show wpAny _ _ (attrName (.str "__class__" tk)) _ _ _ from wpAny_pure ?_);obtain⟨hh,g,d,t,os⟩:=s;refine wpAny_bind (L0.at (wpAny_bind (Lf.at ?_)));show wpAny _ _ (bindTo _ _ _ _) _ _ _;unfold bindTo;dsimp only;refine wpAny_bind (wpAny_holding (wpAny_call (Bb X hx hc c ?_)));exact wpAny_pure q
theorem Jq(X:K.In s.heap)(hx:s.heap.get? x=some o)(hc:o.cls=.ref D)(c:Fb K D)(q:Q (some (.ref D)) { s with toks:=s.toks+1 }) :
  wpAny (model prog w) A (getAttr? (.ref x) "__class__") Q E s:=by
 obtain⟨hh,g,d,t,os⟩:=s;have L0:Looks (model prog w) hh (typeOf (.ref x)) (.ref D):=hc▸(Looks.ld hx).andThen .now;have La:=looks_findIn (M:=model prog w) X c.ga;have Lk:=looks_findIn (M:=model prog w) X c.gk;have Lx:=looks_mroIn (M:=model prog w) X c.mx;have hb:=PySem.F.attr_ValueError.ga.bind (.ref x);have hne0:(Value.builtin "BaseException.__getattribute__" == Value.builtin "object.__getattribute__")=false:=by decide +kernel
 have hne:(onTheHeap (Value.ref D)&&Value.builtin "BaseException.__getattribute__" == Value.builtin "object.__getattribute__")=false:=by rw[hne0];rfl
 unfold getAttr? getAttrBy? getAttrBy;refine wpAny_bind (wpAny_mkText (wpAny_bind (wpAny_attempt (wpAny_holding (wpAny_bind (L0.at (wpAny_bind (La.at ?_))))))));dsimp only;rw[if_neg (by rw[hne];decide)];unfold getAttrByItsOwn;refine wpAny_bind (show wpAny _ _ (typeLookup (.ref D) "__getattr__") _ _ _ from Lk.at ?_);refine wpAny_bind (wpAny_attempt (wpAny_holding ?_));show wpAny _ _ (boundAndCalled _ _ _) _ _ _;unfold boundAndCalled;rw[hb];refine wpAny_bind (wpAny_pure (wpAny_call ?_));refine codeAny_call_builtin PySem.F.attr_ValueError.ga.plain PySem.F.entry_bexc_ga ?_;have hk:builtinKind "BaseException.__getattribute__"=some .slot:=by decide +kernel
 have hsplit:splitId "BaseException.__getattribute__"=some ("BaseException","__getattribute__"):=by decide +kernel
 have ha:=PySem.F.args_bexc_ga (.ref x) (.str "__class__" t);simp only[checkBuiltinCall,hk,hsplit,List.cons_append,zu2];unfold isInstance
 repeat (first|with_reducible refine zgu X hx hc c ?_|lk)
 exact q
theorem zcq(c:Fb K D):KitX K (.ref x) (.ref D) (fun h=>∃ o,h.get? x=some o/\o.cls=.ref D) where
 ty:=fun M h _ p=>by obtain⟨o,hx,hc⟩:=p;exact hc▸(Looks.ld hx).andThen .now
 it:=fun _ _ X _=>by
  have z:=c.cl;unfold clsIn at z;split at z
  ·rename_i ho;intro A' Q' E' s' k q;unfold isType loadHead;exact wpAny_bind (wpAny_loadPart (k _ _ (X _ _ ho)) (wpAny_pure q))
  ·cases z
 ne:=fun h tp dd its n sl X htp=>by
  refine Bool.eq_false_iff.mpr fun q=>?_;have e:D=tp:=Value.ref.inj (beq_iff_eq.mp q);subst e;have z:=c.cl;unfold clsIn at z;split at z
  ·rename_i ho;have z:=(X _ _ ho).symm.trans htp;cases z
  ·cases z
 ca:=fun X p q=>by obtain⟨o,hx,hc⟩:=p;exact Jq X hx hc c q
end
inductive TyX(K:Frag)(H:Hp)(x:V)(t:Value):Prop where
 | of (h:O9 K H x t):TyX K H x t
 | exc {a D:Addr} (ex:x=.ref a) (et:t=.ref D) (h:H a=some (excO a (.ref D))) (c:Fb K D):TyX K H x t
def zif:V->Value
 | .ty n=>.type n
 | .ref a=>.ref a
 | _=>.none
inductive rIsI(K:Frag)(xs:List V)(H:Hp)(Q:VK):Prop where
 | mk(x)(c)(t)(b)(_:xs=[x,c])(_:TyX K H x t)(_:((∃ n,c=.ty n)\/∃ a,c=.ref a))(_:kitOne K t (zif c)=some b)(_:Q (.bl b) H)
theorem zcr:Wf X (.builtin "isinstance") (rIsI X.K):=by
 intro pins s σ H xs us Q I r h;obtain⟨x,c,t,b,rfl,ty,hc,hk,q⟩:=h;obtain⟨u,w',rfl,r1,r2⟩:=B7 r;have e:w'=zif c:=by
  rcases hc with ⟨n,rfl⟩|⟨a,rfl⟩
  ·exact r2
  ·exact r2
 subst e;cases ty with
 | of ty=>exact zam I r1 ty hk fun tk=>⟨.bl b,H,I.tok tk,rfl,q⟩
 | @exc a D ex et ha cl =>
   subst ex et;cases (show u=Value.ref a from r1);obtain⟨⟨o,vs,ho,hcl,_⟩,_⟩:=(show Ym X.prog X.w H s.heap a (excO a (.ref D)) from I.hok a _ ha);exact kia_one (zcq cl) I.kIn ⟨o,ho,hcl⟩ hk (fun z=>nomatch z) fun tk=>⟨.bl b,H,I.tok tk,rfl,q⟩
section
variable{X:Cx}{pins:List (Addr×Obj)}{σ:St}{H:Hp}{s:Shared}
theorem Qn(I:Inv X pins σ H s)(hN:X.N.Nodup)(hi:X.N[i]?=some x)(hk:X.env.scope.names.lookup x=some .local)(hlk:∀ v,X.lk[i]?≠some (some v))
  (h:∀ s',Inv X pins (σ.set i none) H s'->Q () s'):wpAny M A (do bindName X.env x .none;unbindBehindTheSuite X.env x pos) Q E s:=by
 obtain⟨m,hn,hl⟩:=id I.loc;have hcls:(X.env.scope.kind == .class||(X.env.scope.kind == .module&&X.env.locals != X.env.globals))=false:=by rw[I.ok.kind];rfl
 have hiσ:i<σ.length:=by rw[I.len];exact(zs5.mp hi).1
 have cne:=I.cne;refine wpAny_nameGoes_keeps hk hn hcls fun h' v hn' hs=>?_;obtain⟨oL,_,_,hoL,_⟩:=id hn;have ne0:∀ b o,X.s₀.heap.get? b=some o->b≠X.env.locals:=fun b o q=>ztv (ztm (Heap.lt_size q) I.ok.above);refine h _ ⟨I.ok,I.os,I.bare,⟨fun b o q n hb hx=>(hs.2 b (ne0 b o q)).trans (I.base.keep b o q n hb hx),fun b o q n hb hx=>?_,I.base.free,fun b o q hx=>?_,I.base.tups,I.base.frzs,I.base.tbls⟩,
  ⟨_,hn',fun j y v' e1 e2 e3=>?_⟩,fun y c e=>?_,I.free,I.freeC,fun p hp=>?_,fun b ob e=>?_,by simpa using I.len⟩
 ·obtain⟨sl,e1⟩:=I.base.slot b o q n hb hx;exact⟨sl,(hs.2 b (ne0 b o q)).trans e1⟩
 ·obtain⟨o',e1⟩:=I.base.there b o q hx;exact⟨o',(hs.2 b (ne0 b o q)).trans e1⟩
 ·by_cases hj:j=i
  ·subst hj;rcases e2 with e2|e2
   ·rw[zt4 hiσ] at e2;cases e2
   ·exact absurd e2 (hlk _)
  ·have e2':σ[j]?=some (some v')\/X.lk[j]?=some (some v'):=e2.imp_left fun z=>by rw[zt2 (Ne.symm hj)] at z;exact z
   obtain⟨u',r',q⟩:=hl j y v' e1 e2' e3;refine⟨u',r',?_⟩;rcases q with ⟨k,e⟩|⟨k,c,e,z⟩
   ·refine .inl ⟨k,?_⟩;have:y≠x:=fun e=>hj (Lr hN e1 (e▸hi));simp[this,e]
   ·exact .inr ⟨k,c,e,z.sameBut hs (cne y c e)⟩
 ·obtain⟨w',z⟩:=I.cell y c e;exact⟨w',z.sameBut hs (cne y c e)⟩
 ·obtain⟨e,n,ne,nf,d⟩:=I.pin p hp;exact⟨(hs.2 p.1 ne).trans e,n,ne,nf,d⟩
 ·refine(I.hok b ob e).stay (fun c w' hc q=>(hs.2 c ?_).trans q) (fun _ q=>q) fun _ _ q=>q;rintro rfl;rcases hc with rfl|hc
  ·rw[I.free] at e;cases e
  ·rw[I.free] at hc;cases hc
theorem Inv.track(I:Inv X pins σ H s)(n:H a=none)(hch:(a∈X.ex\/X.s₀.heap.get? a=none)/\a≠X.env.locals/\(∀ x c,X.env.cells.lookup x=some c->c≠a)/\∀ p∈X.pn++pins,p.1≠a)
  (hok:∀ H',Ym X.prog X.w H' s.heap a o):Inv X pins σ (upd H a o) s:=by
 have nt:∀ b u,H b=some u->b≠a:=fun b u q z=>by subst z;rw[n] at q;cases q
 have J:=I.stepN (h':=s.heap) (H':=upd H a o) (g':=s.gens) (d':=s.drawn) (t':=s.toks) (ch:=[a]) (fun b hb=>by rw[zs9.mp hb];exact hch) (fun _ _ _ _ _ q _=>q) (fun _ ob _ _ _ q _=>⟨ob.slots,q⟩)
  (fun b _ hb _ q=>by rw[Zi (fun z=>hb (by simp[z]))];exact q) (fun _ ob _ q=>⟨ob,q⟩) (fun b xs q=>by rw[Zi (nt b _ q)];exact q) (fun b u xs q=>by rw[Zi (nt b _ q)];exact q)
  (fun b ps q=>⟨#[],by rw[Zi (nt b _ q),q];simp⟩) (fun _ q=>q) (fun b u q=>?_) I.bare
 ·exact J
 ·by_cases hb:b=a
  ·subst hb;rw[Zd] at q;cases q;exact hok _
  ·rw[Zi hb] at q;exact(I.hok b u q).stay (fun c v _ z=>z) (fun c z=>by rw[Zi (nt c _ z)];exact z) fun c xs z=>by rw[Zi (nt c _ z)];exact z
end
def fgt:List Nat->St->St
 | [],σ=>σ
 | i :: r,σ=>fgt r (σ.set i none)
theorem L6:∀ (as:List Nat) (σ:St),(fgt as σ).length=σ.length
 | [],_=>rfl
 | i :: r,σ=>by rw[fgt,L6 r,zuh]
theorem Fc:∀ (as:List Nat) {σ:St} {i:Nat} {v:V},(fgt as σ)[i]?=some (some v)->σ[i]?=some (some v)/\i∉as
 | [],_,_,_,h=>⟨h,by simp⟩
 | j :: r,σ,i,v,h=>by
   obtain⟨h1,h2⟩:=Fc r h;by_cases e:i=j
   ·subst e;rw[List.getElem?_set] at h1;simp at h1
   ·rw[zt2 (Ne.symm e)] at h1;exact⟨h1,by simp[e,h2]⟩
abbrev Cx.tried(X:Cx)(E:Value->Shared->Prop)(lk:St)(pn:List (Addr×Obj)):Cx:={ X with xe:=E,lk:=lk,pn:=pn }
abbrev Cx.hand(X:Cx)(e:Addr):Cx:={ X with A:=X.A.mark (some (.ref e)),calm:=false,xe:=fun _ _=>False }
section
variable{X:Cx}{pins pins':List (Addr×Obj)}{σ σ' lk:St}{H:Hp}{s:Shared}{E:Value->Shared->Prop}{e:Addr}
theorem Cx.Ok.tried(ok:X.Ok)(E:Value->Shared->Prop)(lk:St)(pn:List (Addr×Obj)):(X.tried E lk pn).Ok :=
 ⟨ok.mod,ok.kind,ok.glob,ok.blt,ok.above,ok.inj,ok.has,ok.cab,ok.hd,ok.frames,ok.stk,ok.exf,ok.bs,ok.bsz,ok.noex,ok.exfs,ok.funs,ok.frf⟩
theorem Cx.Ok.untried{pn:List (Addr×Obj)}(ok:(X.tried E lk pn).Ok):X.Ok :=
 ⟨ok.mod,ok.kind,ok.glob,ok.blt,ok.above,ok.inj,ok.has,ok.cab,ok.hd,ok.frames,ok.stk,ok.exf,ok.bs,ok.bsz,ok.noex,ok.exfs,ok.funs,ok.frf⟩
theorem Cx.Ok.hand(ok:X.Ok)(e:Addr):(X.hand e).Ok :=
 ⟨ok.mod,ok.kind,ok.glob,ok.blt,ok.above,ok.inj,ok.has,ok.cab,fun z=>(nomatch z),ok.frames,ok.stk,ok.exf,ok.bs,ok.bsz,ok.noex,ok.exfs,ok.funs,ok.frf⟩
theorem Inv.tried(I:Inv X pins σ H s)(E:Value->Shared->Prop)(hlk:∀ (i:Nat) v,lk[i]?=some (some v)->σ[i]?=some (some v)):Inv (X.tried E lk (X.pn++pins)) [] σ H s:=by
 refine⟨I.ok.tried _ _ _,I.os,I.bare,I.base,?_,I.cell,I.free,I.freeC,fun p hp=>I.pin p (by simpa using hp),I.hok,I.len⟩;obtain⟨m,hn,hl⟩:=I.loc;exact⟨m,hn,fun i x v e1 e2 e3=>hl i x v e1 (.inl (e2.elim id (hlk i v))) e3⟩
theorem Inv.untried(I:Inv (X.tried E lk (X.pn++pins)) pins' σ' H s)(hX:X.lk=[])(hl:lk.length=X.N.length):Inv X pins lk H s:=by
 refine⟨I.ok.untried,I.os,I.bare,I.base,?_,I.cell,I.free,I.freeC,fun p hp=>I.pin p (zty _ hp),I.hok,hl⟩;obtain⟨m,hn,hl⟩:=I.loc;exact⟨m,hn,fun i x v e1 e2 e3=>hl i x v e1 (.inr (e2.elim id fun z=>by rw[hX] at z;simp at z)) e3⟩
theorem Inv.untriedN(I:Inv (X.tried E lk (X.pn++pins)) [] σ' H s)(hX:X.lk=[]):Inv X pins σ' H s:=by
 refine⟨I.ok.untried,I.os,I.bare,I.base,?_,I.cell,I.free,I.freeC,fun p hp=>I.pin p (by simpa using hp),I.hok,I.len⟩;obtain⟨m,hn,hl⟩:=I.loc;exact⟨m,hn,fun i x v e1 e2 e3=>hl i x v e1 (e2.elim .inl fun z=>by rw[hX] at z;simp at z) e3⟩
theorem Inv.hand(I:Inv X pins σ H s)(e:Addr):Inv (X.hand e) pins σ H s:=⟨I.ok.hand e,I.os,I.bare,I.base,I.loc,I.cell,I.free,I.freeC,I.pin,I.hok,I.len⟩
theorem Inv.unhand(ok:X.Ok)(I:Inv (X.hand e) pins σ H s):Inv X pins σ H s:=⟨ok,I.os,I.bare,I.base,I.loc,I.cell,I.free,I.freeC,I.pin,I.hok,I.len⟩
theorem SP.untried(hX:X.lk=[])(h:SP (X.tried E lk (X.pn++pins)) [] D f s'):SP X pins D f s':=by
 cases f with
 | next=>obtain⟨a,b,c,d⟩:=h;exact⟨a,b,c.untriedN hX,d⟩
 | brk=>obtain⟨a,b,c,d⟩:=h;exact⟨a,b,c.untriedN hX,d⟩
 | cont=>obtain⟨a,b,c,d⟩:=h;exact⟨a,b,c.untriedN hX,d⟩
 | ret u=>obtain⟨v,a,b,c,r,d⟩:=h;exact⟨v,a,b,c.untriedN hX,r,d⟩
end
structure zgv(X:Cx):Prop where
 ex:X.ex=[]
 lk:X.lk=[]
 st:X.stack=X.env :: X.outer
 fr:X.env.frame=some X.env.locals
theorem zay{CX:CXT}{P:Program}{w:World}{K:Frag}{mg:Str->Option Value}{base:Heap}{N:List Str}{qual:Str}{scope:Scope}{f:Addr}{cd:Value}{A:Around}{outer:List Env}{s0:Shared}{H0:Hp}{E:XK} :
  zgv (cxOf CX P w K mg base N qual scope f cd A outer s0 H0 E):=⟨rfl,rfl,rfl,rfl⟩
section
variable{X:Cx}{pins:List (Addr×Obj)}{σ:St}{H:Hp}{s:Shared}{E:Value->Shared->Prop}
theorem zjl(B:zgv X)(hlk:lk.length=X.N.length)
  (I:Inv (X.tried E' lk (X.pn++pins)) pins' σ' H1 s1) (h:CX1 X.prog X.w X.stack H1 s1 EX ev s2)
  (k:∀ a T cls H2 s3,ev=.ref a->EX cls none H2->Inv X pins lk H2 s3->Fly s1.heap H2 s3.heap a T cls->((a∈X.ex\/X.s₀.heap.get? a=none)/\a≠X.env.locals/\(∀ x c,X.env.cells.lookup x=some c->c≠a)/\∀ p∈X.pn++pins,p.1≠a) ->
   ((T∈X.ex\/X.s₀.heap.get? T=none)/\T≠X.env.locals/\(∀ x c,X.env.cells.lookup x=some c->c≠T)/\∀ p∈X.pn++pins,p.1≠T) ->
   wpAny (model X.prog X.w) X.A (handleBy (.ref a) X.env hs) Q E s3) :
  wpAny (model X.prog X.w) X.A (noteFrame ev X.env) (fun _ s₂=>wpAny (model X.prog X.w) X.A (setFlight ev none) (fun _ s₃=>wpAny (model X.prog X.w) X.A (handleBy ev X.env hs) Q E s₃) E s₂) E s2:=by
 obtain⟨a,T,cls,H2,q0,ho,hg,u,hok,F,hE⟩:=h;subst q0;have J:=I.raised ho hg u hok;obtain⟨a0,hfl⟩:=F.flying J J.stack (fun _ z=>z);have hfl':Heap.FlyingW (PySem.W.hideAll s2.heap ([a,T]++frs X.stack)) (X.env :: X.outer) a cls a0 s2.heap:=by rw[<- B.st];exact hfl
 refine wpAny_looks_onW (base:=PySem.W.hideAll s2.heap ([a,T]++frs X.stack)) (by rw[J.ok.frames];exact congrArg some B.st) B.fr hfl' fun h3 held up1=>?_;refine wpAny_landsW held fun h4 hfl4 up2=>?_;have up:s2.heap.UpToSlots h4:=up1.trans up2;have t:=Up.of (as:=[a,T]) J hfl4.1 up;have frE:∀ b∈[a,T],H2 b=none:=by
  intro b hb;rcases zs7.mp hb with rfl|hb
  ·exact F.freeE
  ·rcases zs7.mp hb with rfl|hb
   ·exact F.freeT
   ·cases hb
 have rcs:∀ b∈[a,T],(b∈X.ex\/X.s₀.heap.get? b=none)/\b≠X.env.locals/\(∀ x c,X.env.cells.lookup x=some c->c≠b)/\∀ p∈(X.pn++pins)++pins',p.1≠b:=by
  intro b hb;rcases zs7.mp hb with rfl|hb
  ·exact I.newRec B.ex F.newE
  ·rcases zs7.mp hb with rfl|hb
   ·exact I.newRec B.ex F.newT
   ·cases hb
 have J4:Inv (X.tried E' lk (X.pn++pins)) pins' σ' H2 { s2 with heap:=h4 }:=J.callN' (s':={ s2 with heap:=h4 }) (ch:=[a,T]) rfl (t.un J frE) (t.hok J frE) J.bare rcs;have old:∀ b,s2.heap.get? b=none->s1.heap.get? b=none:=fun b n=>by
  cases q:s1.heap.get? b with
  | none=>rfl
  | some o =>
    obtain⟨_,z⟩:=u.there b o q (by simp);rw[n] at z;cases z
 obtain⟨T',F'⟩:=F.again J old up hfl4.1 hfl4.2.2.2;have sub:∀ {b:Addr},((b∈X.ex\/X.s₀.heap.get? b=none)/\b≠X.env.locals/\(∀ x c,X.env.cells.lookup x=some c->c≠b)/\∀ p∈(X.pn++pins)++pins',p.1≠b) ->
   (b∈X.ex\/X.s₀.heap.get? b=none)/\b≠X.env.locals/\(∀ x c,X.env.cells.lookup x=some c->c≠b)/\∀ p∈X.pn++pins,p.1≠b:=fun z=>⟨z.1,z.2.1,z.2.2.1,fun p hp=>z.2.2.2 p (zty _ hp)⟩
 exact k a T' cls H2 _ rfl hE (J4.untried B.lk hlk) F' (sub (rcs a (by simp))) (sub (I.newRec B.ex F'.newT))
theorem zcs(I:Inv X pins σ H s)(F:Fly g H s.heap a T cls)(hg:∀ b,s.heap.get? b=none->g.get? b=none)
  (ha:(a∈X.ex\/X.s₀.heap.get? a=none)/\a≠X.env.locals/\(∀ x c,X.env.cells.lookup x=some c->c≠a)/\∀ p∈X.pn++pins,p.1≠a)
  (hT:(T∈X.ex\/X.s₀.heap.get? T=none)/\T≠X.env.locals/\(∀ x c,X.env.cells.lookup x=some c->c≠T)/\∀ p∈X.pn++pins,p.1≠T)
  (k:∀ s',Inv X pins σ H s'->(∃ T',Fly g H s'.heap a T' cls)->Q () s'):wpAny (model X.prog X.w) A (setFlight (.ref a) none) Q E s:=by
 obtain⟨a0,hfl⟩:=F.flying I I.stack (fun _ z=>z);refine lands_againW hfl fun h4 hfl4 up=>?_;have t:=Up.of (as:=[a,T]) I hfl4.1 up;have frE:∀ b∈[a,T],H b=none:=by
  intro b hb;rcases zs7.mp hb with rfl|hb
  ·exact F.freeE
  ·rcases zs7.mp hb with rfl|hb
   ·exact F.freeT
   ·cases hb
 have J4:Inv X pins σ H { s with heap:=h4 }:=I.callN' (s':={ s with heap:=h4 }) (ch:=[a,T]) rfl (t.un I frE) (t.hok I frE) I.bare fun b hb=>by
  rcases zs7.mp hb with rfl|hb
  ·exact ha
  ·rcases zs7.mp hb with rfl|hb
   ·exact hT
   ·cases hb
 exact k _ J4 (F.again I hg up hfl4.1 hfl4.2.2.2)
end
def xAs(K:Frag)(as:List Nat)(i:Nat)(CB:Addr)(th:TS)(D:Oa)(σ:St):XK:=fun cls _ H'=>∃ C,cls=.ref C/\PySem.W.mroIn K C (.ref CB)=some true /\
 ∀ a,H' a=none->th { nx:=fun σ' H''=>D.nx (σ'.set i none) H'',rt:=D.rt,bk:=fun σ' H''=>D.bk (σ'.set i none) H'',ct:=fun σ' H''=>D.ct (σ'.set i none) H'' } ((fgt as σ).set i (some (.ref a))) (upd H' a (excO a cls))
def zgw(K:Frag)(as:List Nat)(i:Nat)(CB:Addr)(tb:XK->TS)(th:TS):TS:=fun D σ H=>tb (xAs K as i CB th D σ) D σ H
section
variable{X:Cx}{as:List Nat}{i:Nat}{CB:Addr}{tb:XK->TS}{th:TS}{body suite:List Stmt}{b₀:Stmt}{n cx:Str}{p hpos pos:Pos}
theorem zct(B:zgv X)(hN:X.N.Nodup)(hi:X.N[i]?=some n)(hk:X.env.scope.names.lookup n=some .local)(c:zco X.K CB)(hg:Gl X cx)(hm:X.mg cx=some (.ref CB))
  (hb:∀ (E':Value->Shared->Prop) (lk:St) (pn:List (Addr×Obj)) (EX:XK),(∀ j∈as,∀ v,lk[j]?≠some (some v))->PassesOwn (model X.prog X.w) X.A X.env E'->Wh (CX1 X.prog X.w) (X.tried E' lk pn) EX->PSs (X.tried E' lk pn) body (tb EX))
  (hh:∀ a,PSs (X.hand a) (b₀ :: suite) th) (hd:(cx == ("__debug__":Str))=false:=by decide) :
  PS X (.Try body [.ExceptHandler (some (.Name cx p)) (some n) (b₀ :: suite) hpos] [] [] pos) (zgw X.K as i CB tb th):=by
 intro pins s σ H D I h;refine wpAny_Try_except ?_;have lkl:(fgt as σ).length=X.N.length:=by rw[L6];exact I.len
 have I':=I.tried (lk:=fgt as σ) (fun ev s₁=>wpAny (model X.prog X.w) X.A (noteFrame ev X.env) (fun _ s₂=>wpAny (model X.prog X.w) X.A (setFlight ev none)
  (fun _ s₃=>wpAny (model X.prog X.w) X.A (handleBy ev X.env [.ExceptHandler (some (.Name cx p)) (some n) (b₀ :: suite) hpos]) (SP X pins D) X.xe s₃) X.xe s₂) X.xe s₁) fun i v z=>(Fc as z).1
 refine wpAny_mono (hb _ _ _ (xAs X.K as i CB th D σ) (fun j hj v z=>(Fc as z).2 hj) PassesOwn.looking (fun pins' σ' H1 s1 ev s2 J hcx=>?_) [] s σ H D I' h) (fun f s1 h1=>?_) fun _ _ z=>z
 ·refine zjl B lkl J hcx fun a T cls H2 s3 _ hE J3 F ha hT=>?_;obtain⟨C,rfl,hmro,hth⟩:=hE;obtain⟨oe,vs,oT,ts,e1,e2,e3,_⟩:=F.ex;refine wpAny_handleBy_cons (codeAny_handlers_test (Qj (X:=X.hand a) (J3.hand a) hg hm (Es J3.kIn c e1 e2 hmro ?_) hd)) (by intro q;cases q);refine codeAny_handlers_suite_as ?_;have F0:Fly (Att.noObjs s3.heap) H2 s3.heap a T (.ref C):=⟨F.ex,Att.noObjs_get _ _,Att.noObjs_get _ _,F.freeE,F.freeT⟩;refine zcs J3 F0 (fun b _=>Att.noObjs_get _ _) ha hT fun s4 J4 ⟨T',F4⟩=>?_;obtain⟨oe,vs,oT,ts,e1,e2,e3,_⟩:=F4.ex;have J5:Inv X pins (fgt as σ) (upd H2 a (excO a (.ref C))) s4:=J4.track F4.freeE ha fun H'=>⟨⟨oe,vs,e1,e2,e3⟩,⟨oe,e1⟩,fun h1 h2 ⟨o,vs,z1,z2,z3⟩ k=>⟨o,vs,k o z1,z2,z3⟩⟩
  refine Ls (X:=X.hand a) (J5.hand a) hN hi (.inl hk) (v:=.ref a) (show RelV (.ref a) (.ref a) from rfl) (fun s5 J6=>?_) ⟨.inr hk,fun v z=>by rw[show (X.hand a).lk=[] from B.lk] at z;exact Xq v z⟩;refine wpAny_mono (hh a pins s5 _ _ _ J6 (hth a F.freeE)) (fun f s6 h6=>?_) fun _ _ z=>z.elim;have lk0:∀ v,X.lk[i]?≠some (some v):=fun v z=>by rw[B.lk] at z;exact Xq v z
  cases f with
  | next=>obtain⟨σ6,H6,J7,d⟩:=h6;exact Qn (J7.unhand I.ok) hN hi hk lk0 fun s7 J8=>⟨_,H6,J8,d⟩
  | brk=>obtain⟨σ6,H6,J7,d⟩:=h6;exact Qn (J7.unhand I.ok) hN hi hk lk0 fun s7 J8=>⟨_,H6,J8,d⟩
  | cont=>obtain⟨σ6,H6,J7,d⟩:=h6;exact Qn (J7.unhand I.ok) hN hi hk lk0 fun s7 J8=>⟨_,H6,J8,d⟩
  | ret u=>obtain⟨v,σ6,H6,J7,r,d⟩:=h6;exact Qn (J7.unhand I.ok) hN hi hk lk0 fun s7 J8=>⟨v,_,H6,J8,r,d⟩
 ·have h2:=SP.untried B.lk h1;cases f with
  | next=>exact wpAny_execs_nil h2
  | brk=>exact h2
  | cont=>exact h2
  | ret u=>exact h2
end
section
variable{P:Program}{w:World}{K:Frag}{mg:Str->Option Value}{base:Heap}
theorem Fun.okX{x qual:Str}{st:Stmt}{f:Addr}{fd:FuncData}{N ps:List Str}{k:Nat}{sp:Sp}(F:Fun K x qual st f fd)(S:Zl N ps (Zj st))(len:∀ vs H Q E,sp vs H Q E->vs.length=ps.length)
  (hbody:∀ (cdv:Value) (A:Around) (outer:List Env) (s:Shared) (H:Hp) (vs:List V) (Q:VK) (E:XK),Wn k (A.deeper (envOfC qual (Zj st) s.heap.objs.size f cdv))->sp vs H Q E ->
   ∃ t,PSs (cxOf (CX1 P w) P w K mg base N qual (Zj st) f cdv A outer s H E) (Yf st) t/\t { nx:=fun _ H'=>Q .non H',rt:=Q } (N8 N vs) H):FnOk P w K mg base (CX1 P w) (k+1) f fd ps sp:=by
 obtain⟨oc,od,kV,doc,pm,an,cdv,ct,osl,rfl,lk,hcd⟩:=F.ex;exact zh3 lk hcd S len fun A outer s H vs Q E hr hsp=>hbody cdv A outer s H vs Q E hr hsp
end
def Jr{α:Type}(p:α->Prop):List α->Prop
 | []=>True
 | a :: r=>p a/\Jr p r
theorem Jr.get:∀ {l:List α} {a:α},Jr p l->a∈l->p a
 | _ :: _,_,h,.head _=>h.1
 | _ :: _,_,h,.tail _ m=>Jr.get h.2 m
def Yq(X:Cx)(pn:List (Addr×Obj))(Nc:List Str)(scope:Scope)(cl:List (Str×Addr))(s₀:Shared)(H₀:Hp)(fp:List Addr)(C:Addr):Cx :=
 { X with N:=Nc,s₀:=s₀,H₀:=H₀,env:=compEnvC scope cl C X.env,outer:=X.stack,stack:=X.stack,ex:=fp,fn:=fun _=>false,pn:=pn,xe:=fun _ _=>False,lk:=[] }
def cs(js:List Nat)(σ:St)(x:V):St:=some x :: js.map fun j=>(σ[j]?).getD none
def PTs(X:Cx)(ifs:List Expr)(t:TT):Prop :=
 ∀ (pins:List (Addr×Obj)) (s:Shared) (σ:St) (H:Hp) (Q:Bool->Hp->Prop),Inv X pins σ H s->t σ H Q ->
   wpAny (model X.prog X.w) X.A (forIn ifs true fun c r=>if r=true then do let ok <- isTrue c X.env (eval c X.env);pure (ForInStep.yield ok) else pure (ForInStep.yield r)) (TP X pins σ Q) X.xe s
def tYes:TT:=fun _ H Q=>Q true H
theorem V2:PTs X [] tYes:=fun _ _ _ H _ I h=>wpAny_tests_nil ⟨H,I,h⟩
theorem Lh(h:PT X c t):PTs X [c] t:=fun pins s σ H Q I q=>wpAny_tests_one (h pins s σ H Q I q)
def Et(J:It)(js:List Nat)(tt:TT)(te:TE)(σ:St)(H:Hp)(Q:VK):Prop:=∃ W:Nat->Nat->List V->Hp->Prop,(∃ m,W 0 m [] H)/\∀ i m ys H,W i m ys H ->
 (J.stop i H/\ys.length<=sizeLine/\∀ p,H p=none->Q (.ref p) (upd H p (.lst ys))) \/
 (J.go i H/\ys.length<sizeLine/\∃ N:List V->Hp->Prop,(∀ ys' H',N ys' H'->∃ m',m' < m/\W (i+1) m' ys' H')/\∀ x H',J.yld i H x H'->tt (cs js σ x) H' fun b H2=>if b=true then te (cs js σ x) H2 fun y H3=>N (ys++[y]) H3 else N ys H2)
def zfp(wi:TI)(js:List Nat)(tt:TT)(te:TE):TE:=fun σ H Q=>wi σ H fun J H1=>Et J js tt te σ H1 Q
section
variable{X:Cx}{elt iter:Expr}{x:Str}{px pos:Pos}{ifs:List Expr}{scope:Scope}{cl:List (Str×Addr)}{ys:List Str}{js:List Nat}
structure Ag(X:Cx)(x:Str)(scope:Scope)(cl:List (Str×Addr))(ys:List Str)(js:List Nat):Prop where
 clos:closureFor scope X.env=pure cl
 kind:scope.kind=.function
 names:∀ y∈scope.names,y.2=.local->scope.names.lookup y.1=some .local
 nocell:∀ y∈scope.names,y.2≠.cell
 own:scope.names.lookup x=some .local
 nd:(x :: ys).Nodup
 at_:js.map (X.N[·]?)=ys.map some
 free:Jr (fun y=>X.env.kindOf y=some .cell/\(relabel scope X.env).names.lookup y=some .cell/\cl.lookup y=X.env.cells.lookup y) ys
 only:Jr (fun p=>X.env.cells.lookup p.1=some p.2) cl
 vis:∀ y∈scope.names,y.2=.free->y.1∈ys
theorem Of{env:Env}:∀ {names:List (Str×NameKind)} {y:Str},(names.map fun (n,k)=>if (k == NameKind.free&&env.scope.kind == .function&&env.kindOf n == some .cell) then (n,NameKind.cell) else (n,k)).lookup y=some .cell \/
  (names.map fun (n,k)=>if (k == NameKind.free&&env.scope.kind == .function&&env.kindOf n == some .cell) then (n,NameKind.cell) else (n,k)).lookup y=some .free->∃ k,(y,k)∈names/\(k=.cell\/k=.free)
 | [],_,h=>by rcases h with h|h<;>simp at h
 | (n,k) :: r,y,h=>by
   by_cases hx:y=n
   ·subst hx;refine⟨k,ztn,?_⟩;rw[ztf] at h;dsimp only at h;by_cases hc:(k == NameKind.free&&env.scope.kind == .function&&env.kindOf y == some .cell)=true
    ·simp only[zut,beq_iff_eq] at hc;exact .inr hc.1.1
    ·rw[if_neg hc] at h;simp only[zt3,beq_self_eq_true] at h;rcases h with h|h
     ·exact .inl (Option.some.inj h)
     ·exact .inr (Option.some.inj h)
   ·have hb:(y == n)=false:=ztr.mpr hx;have ih:=@Of env r y;rw[ztf] at h;have key:∀ z:Str×NameKind,z.1=n->List.lookup y (z :: (r.map fun (n,k)=>if (k == NameKind.free&&env.scope.kind == .function&&env.kindOf n == some .cell) then (n,NameKind.cell) else (n,k))) =
      List.lookup y (r.map fun (n,k)=>if (k == NameKind.free&&env.scope.kind == .function&&env.kindOf n == some .cell) then (n,NameKind.cell) else (n,k)):=fun z hz=>by
     obtain⟨z1,z2⟩:=z;cases hz;simp only[zt3,hb]
    rw[key _ (by dsimp only;split<;>rfl)] at h;obtain⟨k',m,q⟩:=ih h;exact⟨k',ztj _ m,q⟩
variable{wi:TI}{tt:TT}{te:TE}
end
theorem Um{K:Frag}{js:List Nat}{tt:TT}{te:TE}{a:Addr}{xs:List V}{σ:St}{H:Hp}{Q:VK}(Pv:Nat->List V->Hp->Prop)(h0:Pv 0 [] H)(hl:∀ i ys H,i<=xs.length->Pv i ys H->SqL K H a xs)(hz:xs.length<=sizeLine)
  (hy:∀ i ys H,Pv i ys H->ys.length<=i)
  (hs:∀ i x ys H,xs[i]?=some x->Pv i ys H->tt (cs js σ x) H fun b H2=>if b=true then te (cs js σ x) H2 fun y H3=>Pv (i+1) (ys++[y]) H3 else Pv (i+1) ys H2)
  (hd:∀ ys H,Pv xs.length ys H->∀ p,H p=none->Q (.ref p) (upd H p (.lst ys))):Et (Itl K a) js tt te σ H Q:=by
 refine⟨fun i m ys H=>m=xs.length-i/\i<=xs.length/\Pv i ys H,⟨xs.length,by simp,ztt _,h0⟩,?_⟩;rintro i m ys H ⟨rfl,hi,p⟩;have q:=hl i ys H hi p;have ly:=hy i ys H p;by_cases hlt:i<xs.length
 ·refine .inr ⟨⟨xs,xs[i],q,by simp[hlt]⟩,by omega,Pv (i+1),fun ys' H' p'=>⟨xs.length-(i+1),by omega,rfl,hlt,p'⟩,fun x H' y=>?_⟩;obtain⟨e,y⟩:=y;subst e;exact hs i x ys _ (y xs q) p
 ·have e:i=xs.length:=by omega
  subst e;exact .inl ⟨⟨xs,q,ztb _⟩,by omega,hd ys H p⟩
theorem Pe{js:List Nat}{tt:TT}{te:TE}{lo:Int}{n:Nat}{σ:St}{H:Hp}{Q:VK}(Pv:Nat->List V->Hp->Prop)(h0:Pv 0 [] H)(hz:n<=sizeLine)(hy:∀ i ys H,Pv i ys H->ys.length<=i)
  (hs:∀ i ys H,i<n->Pv i ys H->tt (cs js σ (.int (lo+i))) H fun b H2=>if b=true then te (cs js σ (.int (lo+i))) H2 fun y H3=>Pv (i+1) (ys++[y]) H3 else Pv (i+1) ys H2)
  (hd:∀ ys H,Pv n ys H->∀ p,H p=none->Q (.ref p) (upd H p (.lst ys))):Et (Itr lo n) js tt te σ H Q:=by
 refine⟨fun i m ys H=>m=n-i/\i<=n/\Pv i ys H,⟨n,by simp,ztt _,h0⟩,?_⟩;rintro i m ys H ⟨rfl,hi,p⟩;have ly:=hy i ys H p;by_cases hlt:i<n
 ·refine .inr ⟨hlt,by omega,Pv (i+1),fun ys' H' p'=>⟨n-(i+1),by omega,rfl,hlt,p'⟩,fun x H' y=>?_⟩;obtain⟨e,y⟩:=y;subst e y;exact hs i ys _ hlt p
 ·have e:i=n:=by omega
  subst e;exact .inl ⟨ztb _,by omega,hd ys H p⟩
theorem zaz{js:List Nat}{te:TE}{lo:Int}{n:Nat}{σ:St}{H:Hp}{Q:VK}(f:Nat->V)(hz:n<=sizeLine)
  (hs:∀ i (R:VK),i<n->R (f i) H->te (cs js σ (.int (lo+i))) H R) (hd:∀ p,H p=none->Q (.ref p) (upd H p (.lst ((List.range n).map f)))):Et (Itr lo n) js tYes te σ H Q:=by
 refine Pe (fun i ys H'=>H'=H/\ys=(List.range i).map f) ⟨rfl,rfl⟩ hz (fun i ys H' ⟨_,e⟩=>by rw[e,zs3,zt0];exact ztb _) (fun i ys H' hi ⟨e1,e2⟩=>?_) fun ys H' ⟨e1,e2⟩ p hp=>?_
 ·subst e1;unfold tYes;dsimp only;rw[if_pos rfl];refine hs i _ hi ⟨rfl,?_⟩;rw[e2,List.range_succ,ztl];rfl
 ·subst e1;rw[e2];exact hd p hp
theorem Ma:∀ {xs:List V} {us:List Value},xs.length=us.length->(∀ (j:Nat) x u,xs[j]?=some x->us[j]?=some u->RelV x u)->Vals xs us
 | [],[],_,_=>.nil
 | x :: xs,u :: us,hl,h=>.cons (h 0 x u rfl rfl) (Ma (by simpa using hl) fun j x' u' h1 h2=>h (j+1) x' u' (by simpa using h1) (by simpa using h2))
abbrev TF:=St->Hp->(Hp->Prop)->Prop
def PF(X:Cx)(e:Expr)(t:TF):Prop :=
 ∀ (pins:List (Addr×Obj)) (s:Shared) (σ:St) (H:Hp) (k:Hp->Prop),Inv X pins σ H s->t σ H k ->
   wpAny (model X.prog X.w) X.A (eval e X.env) (fun u s'=>∃ y tk H',u=.str y tk/\y.length<=10000/\Inv X pins σ H' s'/\k H') X.xe s
def PFs(X:Cx)(es:List Expr)(t:TF):Prop :=
 ∀ (pins:List (Addr×Obj)) (s:Shared) (σ:St) (H:Hp) (k:Hp->Prop) (acc:Str),Inv X pins σ H s->acc.length+10000*es.length<=sizeLine->t σ H k ->
   Joins (model X.prog X.w) X.A X.xe (evalEach es X.env) acc (fun out s'=>out.length<=sizeLine/\∃ H',Inv X pins σ H' s'/\k H') s
def zig:TF:=fun _ H k=>k H
def zih(t u:TF):TF:=fun σ H k=>t σ H fun H1=>u σ H1 k
def okF(v:V):Prop:=(∃ i,v=.int i/\i.natAbs.log2<1920)\/∃ y,v=.str y/\y.length<=10000
def zjm(te:TE):TF:=fun σ H k=>te σ H fun v H1=>okF v/\k H1
def zii(t:TF):TE:=fun σ H Q=>t σ H fun H1=>∀ z,Q (.str z) H1
section
variable{X:Cx}{e:Expr}{es:List Expr}{te:TE}{t u:TF}{pos:Pos}
theorem Xb{j}(h:x.length<=10000):PF X (.Constant (.str x) j pos) zig:=fun _ _ _ H _ I hk=>Calls.Constant_str ⟨x,_,H,rfl,h,I.tok _,hk⟩
theorem Wi(he:PE X e te):PF X (.FormattedValue e (-1) none pos) (zjm te):=by
 intro pins s σ H k I h;refine FormattedValue_plain (thn (he pins s σ H _ I h) fun v s1 ⟨x,H1,I1,r1,ok,hk⟩=>?_);rcases ok with ⟨i,rfl,hi⟩|⟨y,rfl,hy⟩
 ·obtain⟨t,rfl⟩:=r1;refine formatField_int_small hi ⟨_,_,H1,rfl,?_,I1.tok _,hk⟩;have:=int_text_length_le (k:=1920) ⋯ hi;show (Str.ofString (toString i)).length<=10000;rw[PySem.ofString_length];omega
 ·obtain⟨t,rfl⟩:=r1;exact formatField_str (fun t' tk=>⟨y,t',H1,rfl,hy,I1.tok tk,hk⟩) (by rw[sizeLine_eq];omega)
theorem Wr:PFs X [] zig:=fun _ _ _ H _ _ I hz hk=>⟨by simpa using hz,H,I,hk⟩
theorem Zx(h1:PF X e t)(h2:PFs X es u)(hs:evalEach (e :: es) X.env=eval e X.env :: evalEach es X.env:=by rfl):PFs X (e :: es) (zih t u):=by
 intro pins s σ H k acc I hz h;rw[hs];refine thn (h1 pins s σ H _ I h) fun v s1 ⟨y,tk,H1,e1,hy,I1,hk⟩=>⟨y,tk,e1,?_,?_⟩
 ·rw[strLen_append];rw[ztk] at hz;omega
 ·exact h2 pins s1 σ H1 k _ I1 (by rw[strLen_append];rw[ztk] at hz;omega) hk
theorem Ws(h:PFs X (e :: e' :: es) t)(hl:es.length<=100):PE X (.JoinedStr (e :: e' :: es) pos) (zii t):=by
 intro pins s σ H Q I h';refine wpAny_JoinedStr ?_;have q:=h pins s σ H _ Str.empty I (by rw[sizeLine_eq];simp only[ztk];have:Str.empty.length=0:=rfl;omega) h';have mono:∀ (ps:List (Sem Value)) (acc:Str) (Q1 Q2:Str->Shared->Prop) (s:Shared),(∀ o s,Q1 o s->Q2 o s)->Joins (model X.prog X.w) X.A X.xe ps acc Q1 s->Joins (model X.prog X.w) X.A X.xe ps acc Q2 s:=by
  intro ps
  induction ps with
  | nil=>intro acc Q1 Q2 s m z;exact m _ _ z
  | cons p r ih=>intro acc Q1 Q2 s m z;exact thn z fun v s1 ⟨y,tk,e1,hz,z1⟩=>⟨y,tk,e1,hz,ih _ _ _ _ m z1⟩
 refine mono _ _ _ _ _ (fun out s1 ⟨hz,H1,I1,hk⟩=>⟨hz,.str out,H1,I1.tok _,⟨_,rfl⟩,hk out⟩) q
end
section
variable{X:Cx}
theorem Bc(hc:X.calm=true):Wf X (.type "list") (fun xs H Q=>∃ a kvs,xs=[.ref a]/\Rd H a (.dK kvs)/\∀ l,H l=none->Q (.ref l) (upd H l (.lst (kvs.map fun kv=>kV kv.1)))):=by
 intro pins s σ H xs us Q I r h;obtain⟨a,kvs,rfl,ha,q⟩:=h;obtain⟨u,rfl,ru⟩:=Tg r;cases (show u=Value.ref a from ru);obtain⟨hz,lo,vs,kv,o,es,ep,e1,e2⟩:=Rv I.hok ha;have hl:kvs.length=vs.length:=KV.length kv;refine PySem.W.kdl_call (PySem.W.kdl_dict (knd:=Yd X.prog X.w) (kvs:=vs) (ep:=ep) lo) (I.ok.hd hc) ⟨o,es,e1,e2⟩ (by rw[<- hl];exact hz) fun h' tk acc c hk hS hacc=>?_;have hf:H s.heap.objs.size=none:=I.hok.fresh (ztb _);refine⟨.ref s.heap.objs.size,upd H s.heap.objs.size (.lst (kvs.map fun kv=>kV kv.1)),I.laid (t':=tk) hk (ztb _) ?_,rfl,q _ hf⟩;obtain⟨accl⟩:=acc;refine⟨by rw[zs3];exact hz,accl,c,?_,hS⟩;have hlen:accl.length=vs.length:=by have:=hacc.1;simpa using this
 refine Ma (by rw[zs3,hl,hlen]) fun j x u hx hu=>?_;obtain⟨k,y,hk1,hk2⟩:=hacc.2 j u (by simpa using hu);have ek:=congrArg (·[j]?) (KV.keys kv);simp only[zta,hk1,zt6] at ek;rw[zta] at hx;cases hkv:kvs[j]? with
 | none=>rw[hkv] at hx;cases hx
 | some p =>
   rw[hkv] at hx ek;have e1:kV p.1=x:=Option.some.inj hx;have e2:p.1=k:=Option.some.inj ek;rw[<- e1,e2];rcases Yn hk2 with ⟨i,t,rfl,rfl⟩|⟨z,t,rfl,rfl⟩
   ·exact⟨t,rfl⟩
   ·exact⟨t,rfl⟩
end
inductive Dt where
 | non|bl (b:Bool)|int (i:Int)|str (x:Str)|lst (xs:List Dt)|tup (xs:List Dt)
mutual
inductive Is(K:Frag)(H:Hp):V->Dt->Prop where
 | non:Is K H .non .non
 | bl (b:Bool):Is K H (.bl b) (.bl b)
 | int (i:Int):Is K H (.int i) (.int i)
 | str (x:Str):Is K H (.str x) (.str x)
 | lst {a:Addr} {xs:List V} {ds:List Dt} (h:SqL K H a xs) (hs:X4 K H xs ds):Is K H (.ref a) (.lst ds)
 | tup {a:Addr} {xs:List V} {ds:List Dt} (h:SqT K H a xs) (hs:X4 K H xs ds):Is K H (.ref a) (.tup ds)
inductive X4(K:Frag)(H:Hp):List V->List Dt->Prop where
 | nil:X4 K H [] []
 | cons {x:V} {xs:List V} {d:Dt} {ds:List Dt} (h:Is K H x d) (t:X4 K H xs ds):X4 K H (x :: xs) (d :: ds)
end
mutual
def eqD:Dt->Dt->Bool
 | .non,.non=>true
 | .bl a,.bl b=>a == b
 | .bl a,.int b=>(if a then 1 else 0) == b
 | .int a,.bl b=>a == (if b then 1 else 0)
 | .int a,.int b=>a == b
 | .str a,.str b=>a == b
 | .lst xs,.lst ys=>L7 xs ys
 | .tup xs,.tup ys=>L7 xs ys
 | _,_=>false
def L7:List Dt->List Dt->Bool
 | [],[]=>true
 | x :: xs,y :: ys=>eqD x y&&L7 xs ys
 | _,_=>false
end
mutual
theorem Eu:∀ d:Dt,eqD d d=true
 | .non=>by simp[eqD]
 | .bl _=>by simp[eqD]
 | .int _=>by simp[eqD]
 | .str _=>by simp[eqD]
 | .lst xs=>by rw[eqD];exact Nd xs
 | .tup xs=>by rw[eqD];exact Nd xs
theorem Nd:∀ ds:List Dt,L7 ds ds=true
 | []=>by simp[L7]
 | d :: ds=>by rw[L7,Eu d,Nd ds];rfl
end
mutual
def zjn:Dt->Nat
 | .lst xs=>zcu xs+1
 | .tup xs=>zcu xs+1
 | _=>0
def zcu:List Dt->Nat
 | []=>0
 | d :: ds=>max (zjn d) (zcu ds)
end
section
variable{X:Cx}{pins:List (Addr×Obj)}{σ:St}{H:Hp}{s:Shared}
theorem Rx(I:Inv X pins σ H s)(h1:SqL X.K H a xs)(h2:SqT X.K H a ys):False:=by
 obtain⟨_,_,⟨o,n,e1,e2,_⟩,_⟩:=I.list h1;obtain⟨_,_,⟨o',e1',e2',_⟩,_⟩:=I.tuple h2;rw[e1] at e1';cases e1';exact absurd (Value.type.inj (e2.symm.trans e2')) ⋯
mutual
theorem Is.inj(I:Inv X pins σ H s):∀ {x:V} {d d':Dt},Is X.K H x d->Is X.K H x d'->d=d'
 | _,_,_,.non,.non=>rfl
 | _,_,_,.bl _,.bl _=>rfl
 | _,_,_,.int _,.int _=>rfl
 | _,_,_,.str _,.str _=>rfl
 | _,_,_,.lst h hs,.lst h' hs'=>by
   have e:=I.list_inj h h';subst e;rw[X4.inj I hs hs']
 | _,_,_,.tup h hs,.tup h' hs'=>by
   have e:=I.tuple_inj h h';subst e;rw[X4.inj I hs hs']
 | _,_,_,.lst h _,.tup h' _=>(Rx I h h').elim
 | _,_,_,.tup h _,.lst h' _=>(Rx I h' h).elim
theorem X4.inj(I:Inv X pins σ H s):∀ {xs:List V} {ds ds':List Dt},X4 X.K H xs ds->X4 X.K H xs ds'->ds=ds'
 | _,_,_,.nil,.nil=>rfl
 | _,_,_,.cons h t,.cons h' t'=>by rw[Is.inj I h h',X4.inj I t t']
end
mutual
def toPy:Dt->PyData
 | .non=>.none
 | .bl b=>.bool b
 | .int i=>.int i
 | .str x=>.str x
 | .lst xs=>.list (Uq xs)
 | .tup xs=>.tuple (Uq xs)
def Uq:List Dt->List PyData
 | []=>[]
 | d :: ds=>toPy d :: Uq ds
end
mutual
theorem Ew:∀ d e:Dt,PyData.eqv (toPy d) (toPy e)=eqD d e
 | .non,e=>by cases e<;>simp[toPy,eqD,PyData.eqv]
 | .bl _,e=>by cases e<;>simp[toPy,eqD,PyData.eqv]
 | .int _,e=>by cases e<;>simp[toPy,eqD,PyData.eqv]
 | .str _,e=>by cases e<;>simp[toPy,eqD,PyData.eqv]
 | .lst xs,.lst ys=>by rw[toPy,toPy,PyData.eqv,eqD];exact Nf xs ys
 | .tup xs,.tup ys=>by rw[toPy,toPy,PyData.eqv,eqD];exact Nf xs ys
 | .lst _,.non=>by simp[toPy,eqD,PyData.eqv]
 | .lst _,.bl _=>by simp[toPy,eqD,PyData.eqv]
 | .lst _,.int _=>by simp[toPy,eqD,PyData.eqv]
 | .lst _,.str _=>by simp[toPy,eqD,PyData.eqv]
 | .lst _,.tup _=>by simp[toPy,eqD,PyData.eqv]
 | .tup _,.non=>by simp[toPy,eqD,PyData.eqv]
 | .tup _,.bl _=>by simp[toPy,eqD,PyData.eqv]
 | .tup _,.int _=>by simp[toPy,eqD,PyData.eqv]
 | .tup _,.str _=>by simp[toPy,eqD,PyData.eqv]
 | .tup _,.lst _=>by simp[toPy,eqD,PyData.eqv]
theorem Nf:∀ ds es:List Dt,PyData.eqvAll (Uq ds) (Uq es)=L7 ds es
 | [],[]=>by simp[Uq,L7,PyData.eqvAll]
 | [],_ :: _=>by simp[Uq,L7,PyData.eqvAll]
 | _ :: _,[]=>by simp[Uq,L7,PyData.eqvAll]
 | d :: ds,e :: es=>by rw[Uq,Uq,PyData.eqvAll,L7,Ew d e,Nf ds es]
end
mutual
theorem Is.reads(I:Inv X pins σ H s):∀ {d:Dt} {x:V} {u:Value},Is X.K H x d->RelV x u->∃ as,Reads s.heap u (toPy d) as
 | _,_,_,.non,r=>by cases r;exact⟨_,.none⟩
 | _,_,_,.bl b,r=>by cases r;exact⟨_,.bool b⟩
 | _,_,_,.int i,r=>by obtain⟨t,rfl⟩:=r;exact⟨_,.int i t⟩
 | _,_,_,.str i,r=>by obtain⟨t,rfl⟩:=r;exact⟨_,.str i t⟩
 | _,_,_,.lst h hs,r=>by
   cases r;obtain⟨its,r1,⟨o,n',e1,e2,e3,e4⟩,_⟩:=I.list h;obtain⟨as,q⟩:=X4.reads I hs r1;rw[toPy];exact⟨_,.list e1 e2 e4 (by simpa using q)⟩
 | _,_,_,.tup h hs,r=>by
   cases r;obtain⟨its,r1,⟨o,e1,e2,n',e4⟩,_⟩:=I.tuple h;obtain⟨as,q⟩:=X4.reads I hs r1;rw[toPy];exact⟨_,.tuple e1 e2 e4 (by simpa using q)⟩
theorem X4.reads(I:Inv X pins σ H s):∀ {ds:List Dt} {xs:List V} {us:List Value},X4 X.K H xs ds->Vals xs us->∃ as,ReadsAll s.heap us (Uq ds) as
 | _,_,_,.nil,r=>by cases r;exact⟨_,.nil⟩
 | _,_,_,.cons h t,r=>by
   cases r with
   | cons r1 r2 =>
     obtain⟨as,q1⟩:=Is.reads I h r1;obtain⟨bs,q2⟩:=X4.reads I t r2;exact⟨_,.cons q1 q2⟩
end
def shD(d:Dt):Prop:=SeqAt.shaped (toPy d)=true
inductive zij(K:Frag)(neg:Bool)(x:V)(y:V)(H:Hp)(Q:VK):Prop where
 | mk(d)(e)(_:Is K H x d)(_:Is K H y e)(_:shD d)(_:shD e)(_:Q (.bl (if neg then !eqD d e else eqD d e)) H)
theorem zgx(hu:X.A.units+64<cLine):OpR X (compareOp .NotEq) (zij X.K true):=by
 intro pins s σ H x y v u Q I rx ry h;obtain⟨d,e,h1,h2,s1,s2,q⟩:=h;obtain⟨as,r1⟩:=h1.reads I rx;obtain⟨bs,r2⟩:=h2.reads I ry;exact ne_dataH r1 r2 s1 s2 hu (by rw[Ew];exact⟨.bl _,H,I,rfl,q⟩)
end
mutual
theorem Is.same{K:Frag}{H H':Hp}(e:Same H H'):∀ {d:Dt} {x:V},Is K H x d->Is K H' x d
 | _,_,.non=>.non
 | _,_,.bl b=>.bl b
 | _,_,.int i=>.int i
 | _,_,.str i=>.str i
 | _,_,.lst h hs=>.lst (e.seq h) (X4.same e hs)
 | _,_,.tup h hs=>.tup (by
   rcases h with (h|⟨o,h⟩)|h
   ·exact .inl (.inl (e _ _ h))
   ·exact .inl (.inr ⟨o,e _ _ h⟩)
   ·exact .inr h) (X4.same e hs)
theorem X4.same{K:Frag}{H H':Hp}(e:Same H H'):∀ {ds:List Dt} {xs:List V},X4 K H xs ds->X4 K H' xs ds
 | _,_,.nil=>.nil
 | _,_,.cons h t=>.cons (Is.same e h) (X4.same e t)
end
section
variable{P:Program}{w:World}{K:Frag}{mg:Str->Option Value}{base:Heap}{x m:Str}{k j:Nat}{ps:List Str}{sp:Sp}{C:Addr}
def Z4(P:Program)(w:World)(K:Frag)(mg:Str->Option Value)(base:Heap)(x:Str)(k:Nat)(ps:List Str)(sp:Sp):Prop :=
 ∃ (f:Addr) (fd:FuncData),FnOk P w K mg base (CX1 P w) k f fd ps sp/\mg x=some (.ref f)/\PySem.W.keepIn K (.ref f)=true/\T9 K fd ps []
def Zt(P:Program)(w:World)(K:Frag)(mg:Str->Option Value)(base:Heap)(C:Addr)(m:Str)(k:Nat)(ps:List Str)(sp:Sp):Prop :=
 ∃ (f:Addr) (fd:FuncData),FnOk P w K mg base (CX1 P w) k f fd ps sp/\zb9 K C m f/\T9 K fd ps []
def Tq(P:Program)(w:World)(K:Frag)(mg:Str->Option Value)(base:Heap)(x:Str)(C:Addr)(k:Nat)(ps:List Str)(sp:Sp):Prop :=
 ∃ (f:Addr) (fd:FuncData),FnOk P w K mg base (CX1 P w) k f fd ps sp/\Mk K C f/\mg x=some (.ref C)/\T9 K fd ps []
theorem Ah:Wh (CX1 P w) X E0:=fun _ _ _ _ _ _ _ h=>by obtain⟨_,_,_,_,_,_,_,_,_,_,z⟩:=h;exact z.elim
structure zj0(K:Frag)(mg:Str->Option Value)(x:Str)(st:Stmt)(f:Addr)(fd:FuncData):Prop where
 fn:Fun K x x st f fd
 nm:mg x=some (.ref f)
end
section
variable{X:Cx}{k:Nat}{C:Addr}{ps:List Str}{sp:Sp}{E:XK}{x m:Str}{p pos apos:Pos}{e o:Expr}{es:List Expr}{ta:TE}{t:TA}
theorem Ai(D:Z4 X.prog X.w X.K X.mg X.base x k ps sp)(hr:Wn k X.A)(hx:Wh (CX1 X.prog X.w) X E)(hg:Gl X x)(ha:PA X (e :: es) t)(hdb:(x == ("__debug__":Str))=false:=by decide)
  (he:starEach (e :: es) X.env=(false,eval e X.env) :: starEach es X.env:=by rfl) (hpl:(backTo pos (starEach es X.env)).any (·.1)=false:=by rfl):PE X (.Call (.Name x p) (e :: es) [] pos) (zca sp [] E t):=by
 obtain⟨f,fd,F,hm,kp,b⟩:=D;exact zei F hr hg hm kp b .nil hx ha hdb he hpl
theorem Yz(he:PE X o ta)(c:Cls X.K C)(M:Zt X.prog X.w X.K X.mg X.base C m k ps sp)(hr:Wn k X.A)(hx:Wh (CX1 X.prog X.w) X E)(ha:PA X (e :: es) t)
  (hst:starEach (e :: es) X.env=(false,eval e X.env) :: starEach es X.env:=by rfl) (hpl:(backTo pos (starEach es X.env)).any (·.1)=false:=by rfl)
  (ht:eval (.Call (.Attribute o m apos) (e :: es) [] pos) X.env=(do
   let ov <- eval o X.env
   standAt apos.atName
   let (f,first) <- holding [ov] (getMethod ov m pl)
   callWith pos f first (backTo pos (starEach (e :: es) X.env)) (backToKw pos (keywordEach [] X.env))):=by rfl):PE X (.Call (.Attribute o m apos) (e :: es) [] pos) (B8 C m sp [] E ta t):=by
 obtain⟨f,fd,F,hm,b⟩:=M;exact zej he c hm F hr b .nil hx ha hst hpl ht
theorem Yb(he:PE X o ta)(c:Cls X.K C)(M:Zt X.prog X.w X.K X.mg X.base C m k ps sp)(hr:Wn k X.A)(hx:Wh (CX1 X.prog X.w) X E)
  (ht:eval (.Call (.Attribute o m apos) [] [] pos) X.env=(do
   let ov <- eval o X.env
   standAt apos.atName
   let (f,first) <- holding [ov] (getMethod ov m pl)
   callWith pos f first (backTo pos (starEach [] X.env)) (backToKw pos (keywordEach [] X.env))):=by rfl):PE X (.Call (.Attribute o m apos) [] [] pos) (B8 C m sp [] E ta tNil):=by
 obtain⟨f,fd,F,hm,b⟩:=M;exact zcb he c hm F hr b .nil hx ht
theorem Fd(M:Tq X.prog X.w X.K X.mg X.base x C k ps sp)(hr:Wn (k+1) X.A)(hx:Wh (CX1 X.prog X.w) X E)(hg:Gl X x)(ha:PA X (e :: es) t)(hdb:(x == ("__debug__":Str))=false:=by decide)
  (he:starEach (e :: es) X.env=(false,eval e X.env) :: starEach es X.env:=by rfl) (hpl:(backTo pos (starEach es X.env)).any (·.1)=false:=by rfl):PE X (.Call (.Name x p) (e :: es) [] pos) (B9 C sp [] E t):=by
 obtain⟨f,fd,F,mk,hm,b⟩:=M;exact zek mk F hr hg hm b .nil hx ha hdb he hpl
theorem Aj(M:Tq X.prog X.w X.K X.mg X.base x C k ps sp)(hr:Wn (k+1) X.A)(hx:Wh (CX1 X.prog X.w) X E)(hg:Gl X x)(hdb:(x == ("__debug__":Str))=false:=by decide):PE X (.Call (.Name x p) [] [] pos) (B9 C sp [] E tNil):=by
 obtain⟨f,fd,F,mk,hm,b⟩:=M;exact zcc mk F hr hg hm b .nil hx hdb
theorem Xz(hg:Gl X x)(hm:∃ t,X.mg x=some (.int i t))(hd:(x == ("__debug__":Str))=false:=by decide):PE X (.Name x pos) (tC (.int i)):=by
 obtain⟨t,hm⟩:=hm;exact B2 hg hm ⟨t,rfl⟩ hd
theorem Xr(hg:Gl X x)(hm:X.mg x=some (.ref C))(hd:(x == ("__debug__":Str))=false:=by decide):PE X (.Name x pos) (tC (.ref C)):=B2 hg hm (show RelV (.ref C) (.ref C) from rfl) hd
end
inductive zik(te:TE)(D:Oa)(σ:L2.St)(x:V)(H1:Hp):Prop where
 | mk(l)(xs)(_:x=.ref l)(_:H1 l=some (.lst xs))(_:te σ H1 fun y H2=>∃ ys,H2 l=some (.lst ys)/\ys.length<sizeLine/\D.nx σ (upd H2 l (.lst (ys++[y]))))
def zil(to te:TE):TS:=fun D σ H=>to σ H fun x H1=>zik te D σ x H1
theorem Xo(ho:PE X o to)(he:PE X e te)(hbase:attributeBase o "append" X.env (eval o X.env)=eval o X.env:=by rfl)
  (hst:starEach [e] X.env=[(false,eval e X.env)]:=by rfl)
  (hline:(apos.endLine == cpos.line)=true:=by rfl) (hs:swapsWith (.Call (.Attribute o "append" apos) [e] [] cpos) none pos.line X.env=pure false:=by rfl):PS X (.Expr (.Call (.Attribute o "append" apos) [e] [] cpos) pos) (zil to te):=by
 intro pins s σ H D I h;refine wpAny_Expr ?_ I.quiet;refine wpAny_Call_method_late hbase (by rw[hst];rfl) hline rfl (thn (ho pins s σ H _ I h) fun v s1 ⟨x,H1,I1,r1,l,xs,e1,hl,q1⟩=>?_);subst e1;obtain⟨h1,h2⟩:=C7 (T:="list") I1 r1 (.inl ⟨rfl,_,SqL.of hl⟩);refine⟨"list","list.append",PySem.F.plainAttrs_list,PySem.F.slot_list_append,PySem.F.type_list_append,h1,h2,?_⟩;rw[hst];refine Calls.callWith_builtin rfl (Calls.evalArgs_plain ?_);refine Calls.spliced_cons (thn (he pins s1 σ H1 _ I1 q1) fun u s2 ⟨y,H2,I2,r2,ys,hl2,hz,q2⟩=>Calls.spliced_nil ?_);refine thn (zas pins s2 σ H2 (.ref l) [y] v [u] (fun v H3=>v=.non/\D.nx σ H3) I2 r1 (.cons r2 .nil) ⟨l,ys,y,rfl,rfl,hl2,hz,rfl,q2⟩) fun z s3 ⟨zv,H3,I3,rz,ez,q3⟩=>?_;subst ez;cases rz;exact⟨σ,H3,I3,q3⟩
section
variable{X:Cx}{K:Frag}
theorem zcv(hK:X.K=K):IxR X (zgm K):=hK▸zew
theorem ze2(hK:X.K=K):IxR X (zgn K):=hK▸zgo
theorem Js(hK:X.K=K):Wf X (.builtin "len") (fun xs H Q=>∃ p ys,xs=[.ref p]/\(SqL K H p ys\/SqT K H p ys)/\Q (.int ys.length) H):=hK▸G7
theorem Xh(hK:X.K=K):Wf X (.type "list") (fun xs H Q=>∃ p ys,xs=[.ref p]/\(SqL K H p ys\/SqT K H p ys)/\∀ l,H l=none->Q (.ref l) (upd H l (.lst ys))):=hK▸G8
theorem Z2(hK:X.K=K):Wf X (.builtin "isinstance") (rIsI K):=hK▸zcr
theorem L8(hK:X.K=K):OpR X (compareOp .In) (rIn K false):=hK▸zar
theorem ze3(hK:X.K=K)(hu:X.A.units+64<cLine):OpR X (compareOp .NotEq) (zij K true):=hK▸zgx hu
theorem zcw(hK:X.K=K):SlR X (zid K):=hK▸zex
variable{o e l tg value a:Expr}{f:Str}{pos pos':Pos}{ta tv tl:TE}{es:List Expr}{k n:Nat}{t:TGs}
theorem Zq(hK:X.K=K)(he:PE X e ta)(hb:attributeBase e f X.env (eval e X.env)=eval e X.env):PE X (.Attribute e f pos) (zhy K ta f):=hK▸zga he hb
theorem Yw(hK:X.K=K)(ha:PE X o ta)(hv:PE X value tv)(hs:swapsWith value (some (.Attribute o f pos')) pos.line X.env=pure false):PS X (.Assign [.Attribute o f pos'] value pos) (zh0 K ta tv f):=hK▸zgb ha hv hs
theorem Yr(hK:X.K=K)(hl:PE X l tl):PI X tg l (zfh K tl):=hK▸zed hl
theorem Wt(hK:X.K=K)(hc:X.calm=true)(h:PGs X es t)(hn:(assignEach es X.env).length=n:=by rfl)(hst:(assignEach es X.env).findIdx? (·.1)=none:=by rfl):PG X (.Tuple es k pos) (zhr K n t):=hK▸zf5 hc h hn hst
theorem Hl(hK:X.K=K)(ha:PE X a ta)(he:∀ whole,isTrue a X.env whole=(do let v <- whole;standAt a.pos;holding [v] (truthy v))):PT X a (fun σ H Q=>ta σ H fun x H'=>∃ k,TruV K x H' k/\Q k H'):=hK▸zb6 ha he
end
section
variable{X:Cx}{K:Frag}
theorem zim(r:Vals [x,y,z] us):∃ u v w',us=[u,v,w']/\RelV x u/\RelV y v/\RelV z w':=by
 cases r with
 | cons r1 r2 =>
   obtain⟨u,v,rfl,a,b⟩:=B7 r2;exact⟨_,_,_,rfl,r1,a,b⟩
theorem za0(hc:X.calm=true):Wf X (.builtin "min") (fun xs H Q=>∃ i j k,xs=[.int i,.int j,.int k]/\Q (.int (if j<i then (if k<j then k else j) else (if k<i then k else i))) H):=by
 intro pins s σ H xs us Q I r h;obtain⟨i,j,k,rfl,q⟩:=h;obtain⟨u,v,w',rfl,⟨t,rfl⟩,⟨t',rfl⟩,⟨t'',rfl⟩⟩:=zim r;refine min_three_ints (I.ok.hd hc) fun h' tk kp=>⟨_,H,I.kept kp,?_,q⟩
 by_cases h1:j<i
 ·rw[if_pos h1,if_pos h1];by_cases h2:k<j
  ·rw[if_pos h2,if_pos h2];exact⟨_,rfl⟩
  ·rw[if_neg h2,if_neg h2];exact⟨_,rfl⟩
 ·rw[if_neg h1,if_neg h1];by_cases h2:k<i
  ·rw[if_pos h2,if_pos h2];exact⟨_,rfl⟩
  ·rw[if_neg h2,if_neg h2];exact⟨_,rfl⟩
theorem Ak:∀ {bs:List Bool} {its:List Value} {i:Nat} {v:Value},Vals (bs.map V.bl) its->its[i]?=some v->∃ b,bs[i]?=some b/\v=.bool b
 | [],_,_,_,.nil,e=>by simp at e
 | b :: bs,_,0,v,.cons r t,e=>⟨b,rfl,by
     have e:_=v:=Option.some.inj e;rw[<- e];exact r⟩
 | b :: bs,_,i+1,v,.cons r t,e=>Ak (i:=i) t e
theorem Jt:∀ (bs:List Bool),((List.range bs.length).any fun i=>(bs[i]?).getD false)=bs.any id:=fun bs=>by
 rw[zu0,zuu,zuu];constructor
 ·rintro⟨i,hi,e⟩;have hi:=zt7.mp hi;rw[zs4 hi] at e;exact⟨_,ztz hi,e⟩
 ·rintro⟨b,hb,e⟩;obtain⟨i,hi,rfl⟩:=zud hb;exact⟨i,zt7.mpr hi,by rw[zs4 hi];exact e⟩
theorem za1(hK:X.K=K)(hc:X.calm=true):Wf X (.builtin "any") (fun xs H Q=>∃ (l:Addr) (bs:List Bool),xs=[.ref l]/\SqL K H l (bs.map V.bl)/\Q (.bl (bs.any id)) H):=by
 subst hK;intro pins s σ H xs us Q I r h;obtain⟨l,bs,rfl,hl,q⟩:=h;obtain⟨u,rfl,ru⟩:=Tg r;cases ru;obtain⟨its,r',pl,hz⟩:=I.list hl;have hlen:its.length=bs.length:=by have:=r'.length;rw[zs3] at this;exact this.symm
 have hil:=pl.isList;have hlt:l<s.heap.objs.size:=by obtain⟨_,e,_⟩:=hil;exact Heap.lt_size e
 refine call_any_walk (wpAny_pyIter_list hil ?_);refine⟨s.heap.objs.size,[s.heap.objs.size,l],[s.heap.objs.size],its.toArray.size,_,_,fun i=>(bs[i]?).getD false,rfl,Walks.list (A:=X.A.in1) (I.ok.hd hc) _ l (ztv hlt) its.toArray,
  ⟨⟨_,Heap.get?_push_size _ rfl,rfl,rfl⟩,hil.push _⟩,fun i v s' Q' E' hP hQ=>?_,fun h' tk hk=>?_⟩
 ·obtain⟨b,e,rfl⟩:=Ak r' (by simpa using hP);simp only[e,Option.getD_some] at hQ;exact wpAny_truthy_bool hQ
 ·have e:((List.range its.toArray.size).any fun i=>(bs[i]?).getD false)=bs.any id:=by
   rw[zte,hlen];exact Jt bs
  rw[e];refine⟨.bl (bs.any id),H,I.kept fun b o eb=>?_,rfl,q⟩;refine hk b o (fun hm=>?_) (Heap.get?_push_of_some _ eb);rw[zs9.mp hm] at eb;exact zuk _ (Heap.lt_size eb)
theorem L9(hK:X.K=K):Wf X (.type "tuple") (fun xs H Q=>∃ p ys,xs=[.ref p]/\((SqL K H p ys/\∀ l,H l=none->Q (.ref l) (upd H l (.tup ys)))\/(SqT K H p ys/\Q (.ref p) H))):=hK▸Jp
end
end L2
namespace G
open PySem PySem.Spec PyProof.Rows L2
theorem sz1:1<=sizeLine:=by decide
theorem sz2:2<=sizeLine:=by decide
theorem sz3:3<=sizeLine:=by decide
theorem sz4:4<=sizeLine:=by decide
theorem szN(h:n<=1000):n<=sizeLine:=zu5 (Ul h)
theorem itD{p:Prop}[Decidable p]{A B:Prop}(h1:p->A)(h2:¬ p->B):if decide p=true then A else B:=by
 by_cases h:p
 ·rw[zs6 h,if_pos rfl];exact h1 h
 ·rw[ztc h,if_neg ⋯];exact h2 h
theorem itB{b:Bool}{A B:Prop}(h1:b=true->A)(h2:b=false->B):if b=true then A else B:=by
 cases b
 ·exact iteF (h2 rfl)
 ·exact iteT (h1 rfl)
theorem Ka:decide (V.int i=V.int j)=decide (i=j):=by
 by_cases h:i=j
 ·subst h;simp
 ·rw[ztc h,ztc (fun z=>h (V.int.inj z))]
theorem itV{i j:Int}{A B:Prop}(h1:i=j->A)(h2:¬ i=j->B):if decide (V.int i=V.int j)=true then A else B:=by
 rw[Ka];exact itD h1 h2
theorem Zf(h:H p=none):Same H (upd H p o):=fun b u e=>by rw[Zi (Zg e h)];exact e
def Yg(i:Int):Prop:=i.natAbs.log2<1920
theorem Yc(h:i.natAbs<=10 ^ 60):Yg i:=by
 unfold Yg;by_cases h0:i.natAbs=0
 ·rw[h0];decide
 ·exact(Nat.log2_lt h0).mpr (zuo h ⋯)
theorem Ya(h:-1000<=i)(h':i<=1000):Yg i:=Yc (zto (show i.natAbs<=1000 by omega) ⋯)
theorem Og{xs:List Int}{i:Int}(h0:0<=i)(h1:i<xs.length):atI (xs.map V.int) i=some (.int (xs.getD i.toNat 0)):=by
 obtain⟨k,rfl⟩:∃ k:Nat,i=k:=⟨i.toNat,by omega⟩;refine Ye ?_;have hk:k<xs.length:=by omega
 rw[zta,zs4 hk,zt6,ztq,ztu,zs4 hk];rfl
theorem Kb(h1:∀ Q:Bool->Hp->Prop,Q b H->t σ H Q)(h2:∀ Q:Bool->Hp->Prop,Q c H->u σ H Q)(Q:Bool->Hp->Prop)(h:Q (b||c) H):tOr t u σ H Q:=by
 refine h1 _ ?_;cases b with
 | true=>exact h
 | false=>exact h2 _ h
theorem X0(h1:∀ Q:Bool->Hp->Prop,Q b H->t σ H Q)(h:if b=true then A D σ H else B D σ H):zf4 t A B D σ H:=h1 _ h
theorem Ys(h:A { D with nx:=B D } σ H):Z5 A B D σ H:=h
theorem Zu(h:D.nx σ H):zb1 D σ H:=h
theorem Kc{K:Frag}{C:Addr}{v:Value}{r:Bool}(e:PySem.W.mroIn K C v=some r):(PySem.W.clsIn K C).isSome=true:=by
 obtain⟨cd,h,_⟩:=Option.bind_eq_some_iff.mp e;rw[h];rfl
theorem zgy(K:Frag):PySem.W.kitOne K (.type "int") (.type "int")=some true:=rfl
theorem zgz(K:Frag):PySem.W.kitOne K (.type "int") (.type "bool")=some false:=by with_unfolding_all rfl
theorem Fe(K:Frag):PySem.W.kitOne K (.type "list") (.type "list")=some true:=rfl
theorem Bd(K:Frag):PySem.W.kitOne K (.type "tuple") (.type "tuple")=some true:=rfl
theorem zg0(K:Frag):PySem.W.kitOne K (.type "str") (.type "str")=some true:=rfl
inductive Z0(H:Hp):List V->List (List V)->Prop where
 | nil:Z0 H [] []
 | cons {t:Addr} {r:List V} {ts:List V} {R:List (List V)} (h:H t=some (.tup r)) (q:Z0 H ts R):Z0 H (.ref t :: ts) (r :: R)
theorem Z0.mono(k:∀ t xs,H t=some (.tup xs)->H' t=some (.tup xs)):∀ {ts:List V} {R:List (List V)},Z0 H ts R->Z0 H' ts R
 | _,_,.nil=>.nil
 | _,_,.cons h r=>.cons (k _ _ h) (Z0.mono k r)
theorem Z0.same(e:Same H H')(h:Z0 H ts R):Z0 H' ts R:=h.mono fun t xs q=>e _ _ q
theorem Z0.length:∀ {ts:List V} {R:List (List V)},Z0 H ts R->ts.length=R.length
 | _,_,.nil=>rfl
 | _,_,.cons _ r=>by simp[Z0.length r]
theorem Z0.snoc(h:H t=some (.tup x)):∀ {ts:List V} {R:List (List V)},Z0 H ts R->Z0 H (ts++[.ref t]) (R++[x])
 | _,_,.nil=>.cons h .nil
 | _,_,.cons h' r=>.cons h' (Z0.snoc h r)
theorem Z0.get:∀ {ts:List V} {R:List (List V)} {i:Nat} {x:V},Z0 H ts R->ts[i]?=some x->∃ t r,x=.ref t/\R[i]?=some r/\H t=some (.tup r)
 | _,_,_,_,.nil,e=>by simp at e
 | _,_,0,_,.cons h _,e=>by simp at e;subst e;exact⟨_,_,rfl,rfl,h⟩
 | _,_,i+1,x,.cons _ r,e=>by
   obtain⟨t,n,h1,h2,h3⟩:=Z0.get (i:=i) (x:=x) r (by simpa using e);exact⟨t,n,h1,by simpa using h2,h3⟩
theorem Z0.getR:∀ {ts:List V} {R:List (List V)} {i:Nat} {r:List V},Z0 H ts R->R[i]?=some r->∃ t,ts[i]?=some (.ref t)/\H t=some (.tup r)
 | _,_,_,_,.nil,e=>by simp at e
 | _,_,0,_,.cons h _,e=>by simp at e;subst e;exact⟨_,rfl,h⟩
 | _,_,i+1,x,.cons _ r,e=>by
   obtain⟨t,h1,h2⟩:=Z0.getR (i:=i) (r:=x) r (by simpa using e);exact⟨t,by simpa using h1,h2⟩
theorem Z0.set(h:H t=some (.tup x)):∀ {ts:List V} {R:List (List V)} (i:Nat),Z0 H ts R->Z0 H (ts.set i (.ref t)) (R.set i x)
 | _,_,_,.nil=>.nil
 | _,_,0,.cons h' r=>.cons h r
 | _,_,i+1,.cons h' r=>.cons h' (Z0.set h i r)
inductive Al(vs:List V)(H:Hp)(Q:VK)(_:XK):Prop where
 | mk(i)(_:vs=[.int i])(_:Q (.bl true) H)
def Q5(ns:List Int)(k:Nat):Int:=(ns[k]?).getD 0
inductive zg1(K:Frag)(vs:List V)(H:Hp)(Q:VK)(_:XK):Prop where
 | mk(b:Addr)(ns:List Int)(k:Nat)(_:vs=[.ref b,.int k])(_:SqL K H b (ns.map V.int))(_:Q (.int (Q5 ns k)) H)
def zg2(c k:Int):Int:=(c*48271+k)%2147483647
def zin(c k:Int):Int:=(zg2 c k*69621+7*k)%2147483629
def zjo(c k:Int):Int:=(zin c k*39373+zg2 c k)%2147483587
def zg3(c k:Int):Int:=(zg2 c k*2147483647+zin c k)*2147483647+zjo c k
inductive zcx(vs:List V)(H:Hp)(Q:VK)(_:XK):Prop where
 | mk(c)(k)(_:vs=[.int c,.int k])(_:Q (.int (zg3 c k)) H)
def Ff(c:Int):Int:=([1,2,5,10,50,97,98]:List Int).getD (c%7).toNat 0
def Hm(c:Int)(j:Nat):Int:=1+(c/7+Ff c*(j:Int))%99
def Ss(c:Int)(many:Nat):List Int:=(List.range many).map (Hm c)
inductive Am(vs:List V)(H:Hp)(Q:VK)(_:XK):Prop where
 | mk(c:Int)(many:Nat)(_:vs=[.int c,.int many])(_:many<=1000)(_:∀ l H',H' l=some (.lst ((Ss c many).map V.int))->Same H H'->H l=none->Q (.ref l) H')
def oneV(x:V):Prop:=x=.non\/∃ i,x=.int i
inductive Qo(vs:List V)(H:Hp)(Q:VK)(_:XK):Prop where
 | mk(x)(_:vs=[x,x])(_:oneV x)(_:Q (.bl true) H)
inductive Kd(K:Frag)(vs:List V)(H:Hp)(Q:VK)(_:XK):Prop where
 | mk(b c:Addr)(xs:List V)(_:vs=[.ref b,.ref c])(_:H b=some (.lst xs))(_:SqL K H c xs)(_:(∀ x∈xs,oneV x))(_:xs.length<=1000)(_:Q (.bl true) H)
inductive Hn(K:Frag)(vs:List V)(H:Hp)(Q:VK)(_:XK):Prop where
 | mk(b c:Addr)(xs:List V)(_:vs=[.ref b,.ref c])(_:H b=some (.tup xs))(_:SqT K H c xs)(_:(∀ x∈xs,oneV x))(_:xs.length<=1000)(_:Q (.bl true) H)
inductive Ho(K:Frag)(vs:List V)(H:Hp)(Q:VK)(_:XK):Prop where
 | mk(b c:Addr)(ts us:List V)(R:List (List V))(_:vs=[.ref b,.ref c])(_:H b=some (.lst ts))(_:SqL K H c us)(_:Z0 H ts R)(_:Z0 H us R)(_:(∀ r∈R,r.length<=1000/\∀ x∈r,oneV x))(_:R.length<=1000)(_:Q (.bl true) H)
inductive An(K:Frag)(vs:List V)(H:Hp)(Q:VK)(_:XK):Prop where
 | mk(b:Addr)(ns:List Int)(_:vs=[.ref b])(_:SqL K H b (ns.map V.int))(_:ns.length<=63)(_:∀ H',Q (.bl true) H')
structure Row where
 h:Int
 g:Int
 d:Int
 w:Option Int
def oV:Option Int->V
 | none=>.non
 | some n=>.int n
def Qv(r:Row):List V:=[.int r.h,.int r.g,.int r.d,oV r.w]
theorem zg4(o:Option Int):oneV (oV o):=by
 cases o with
 | none=>exact .inl rfl
 | some n=>exact .inr ⟨n,rfl⟩
theorem zg5{H:Hp}{ts:List V}{rs:List Row}{i:Nat}{x:V}(h:Z0 H ts (rs.map Qv))(e:ts[i]?=some x):∃ t r,x=.ref t/\rs[i]?=some r/\H t=some (.tup (Qv r)):=by
 obtain⟨t,r,h1,h2,h3⟩:=h.get e;rw[zta] at h2;cases q:rs[i]? with
 | none=>rw[q] at h2;cases h2
 | some m=>rw[q] at h2;cases h2;exact⟨t,m,h1,rfl,h3⟩
def hit(n c:Int)(r:Row):Bool:=decide (r.w=some n)&&(decide (r.h=c)||decide (r.g=c))
def Ex(n c:Int)(Rs:List (List Row)):Nat×Nat:=Rs.foldl (fun p rs=>(p.1+1,if rs.any (hit n c) then p.1+1 else p.2)) (0,0)
def metS(Rs:List (List Row))(n c:Int):Nat:=(Ex n c Rs).2
theorem zcy(n c:Int)(Rs:List (List Row)):(Ex n c Rs).1=Rs.length:=by
 have h:∀ (Rs:List (List Row)) (p:Nat×Nat),(Rs.foldl (fun p rs=>(p.1+1,if rs.any (hit n c) then p.1+1 else p.2)) p).1=p.1+Rs.length:=fun Rs=>by
  induction Rs with
  | nil=>intro p;rfl
  | cons r Rs ih=>intro p;rw[List.foldl_cons,ih,ztk];simp only;omega
 have:=h Rs (0,0);unfold Ex;rw[this];simp
theorem za2(Rs:List (List Row))(rs:List Row)(n c:Int):metS (Rs++[rs]) n c=if rs.any (hit n c) then Rs.length+1 else metS Rs n c:=by
 unfold metS;have e:Ex n c (Rs++[rs])=((Ex n c Rs).1+1,if rs.any (hit n c) then (Ex n c Rs).1+1 else (Ex n c Rs).2):=by
  unfold Ex;rw[List.foldl_append];rfl
 rw[e,zcy]
def Ey(kvs:List (List Key×V))(f:Int->Int->Nat):Prop:=∀ n c:Int,valV kvs [inl n,inl c]=if f n c=0 then none else some (.int (f n c))
inductive Su(H:Hp):List V->List (List Row)->Prop where
 | nil:Su H [] []
 | cons {t:Addr} {ts rs:List V} {r:List Row} {R:List (List Row)} (h:H t=some (.tup ts)) (q:Z0 H ts (r.map Qv)) (n:Su H rs R):Su H (.ref t :: rs) (r :: R)
theorem Su.mono(k:∀ t xs,H t=some (.tup xs)->H' t=some (.tup xs)):∀ {ts:List V} {R:List (List Row)},Su H ts R->Su H' ts R
 | _,_,.nil=>.nil
 | _,_,.cons h q r=>.cons (k _ _ h) (q.mono k) (Su.mono k r)
theorem Su.length:∀ {ts:List V} {R:List (List Row)},Su H ts R->ts.length=R.length
 | _,_,.nil=>rfl
 | _,_,.cons _ _ r=>by simp[Su.length r]
theorem Su.snoc(h:H t=some (.tup xs))(q:Z0 H xs (x.map Qv)):∀ {ts:List V} {R:List (List Row)},Su H ts R->Su H (ts++[.ref t]) (R++[x])
 | _,_,.nil=>.cons h q .nil
 | _,_,.cons h' q' r=>.cons h' q' (Su.snoc h q r)
theorem Su.getR:∀ {ts:List V} {R:List (List Row)} {i:Nat} {r:List Row},Su H ts R->R[i]?=some r->∃ t xs,ts[i]?=some (.ref t)/\H t=some (.tup xs)/\Z0 H xs (r.map Qv)
 | _,_,_,_,.nil,e=>by simp at e
 | _,_,0,_,.cons h q _,e=>by simp at e;subst e;exact⟨_,_,rfl,h,q⟩
 | _,_,i+1,x,.cons _ _ r,e=>by
   obtain⟨t,xs,h1,h2,h3⟩:=Su.getR (i:=i) (r:=x) r (by simpa using e);exact⟨t,xs,by simpa using h1,h2,h3⟩
def tot(Rs:List (List Row)):Nat:=(Rs.map List.length).sum
theorem zcz(Rs:List (List Row))(rs:List Row):tot (Rs++[rs])=tot Rs+rs.length:=by unfold tot;rw[ztl,List.sum_append];simp
structure Vo(C:Addr)(H:Hp)(p lr ld:Addr)(Rs:List (List Row)):Prop where
 at_:∃ dx,H p=some (.ins C dx [("rounds",.ref lr),("meetings",.ref ld)])
 rd:∃ rs,H lr=some (.lst rs)/\Su H rs Rs
 mt:∃ kvs,H ld=some (.dT kvs)/\Ey kvs (metS Rs)/\kvs.length<=2*tot Rs
theorem Vo.same{C:Addr}{H H':Hp}{p lr ld:Addr}{Rs:List (List Row)}(h:Vo C H p lr ld Rs)(e:Same H H'):Vo C H' p lr ld Rs:=by
 obtain⟨⟨dx,h1⟩,⟨rs,h2,h3⟩,⟨kvs,h4,h5⟩⟩:=h;exact⟨⟨dx,e _ _ h1⟩,⟨rs,e _ _ h2,h3.mono fun t xs q=>e _ _ q⟩,⟨kvs,e _ _ h4,h5⟩⟩
theorem Vo.keep{C:Addr}{H H':Hp}{p lr ld:Addr}{Rs:List (List Row)}(h:Vo C H p lr ld Rs)(ep:∀ o,H p=some o->H' p=some o)(er:∀ o,H lr=some o->H' lr=some o)(ed:∀ o,H ld=some o->H' ld=some o)(et:∀ t xs,H t=some (.tup xs)->H' t=some (.tup xs)):Vo C H' p lr ld Rs:=by
 obtain⟨⟨dx,h1⟩,⟨rs,h2,h3⟩,⟨kvs,h4,h5⟩⟩:=h;exact⟨⟨dx,ep _ h1⟩,⟨rs,er _ h2,h3.mono et⟩,⟨kvs,ed _ h4,h5⟩⟩
theorem Sd:List.lookup ("rounds":Str) ([("rounds",V.ref x),("meetings",V.ref y)]:List (Str×V))=some (.ref x):=by simp only[zt3,beq_self_eq_true]
theorem Ry:List.lookup ("meetings":Str) ([("rounds",V.ref x),("meetings",V.ref y)]:List (Str×V))=some (.ref y):=by
 have e:(("meetings":Str) == "rounds")=false:=by decide +kernel
 simp only[zt3,e,beq_self_eq_true]
theorem Mb{x y:Addr}{m:Str}(h:¬ m="rounds")(h':¬ m="meetings"):List.lookup m ([("rounds",V.ref x),("meetings",V.ref y)]:List (Str×V))=none:=by
 have e:(m == "rounds")=false:=ztr.mpr h;have e':(m == "meetings")=false:=ztr.mpr h';simp only[zt3,e,e',List.lookup_nil]
inductive Ao(C:Addr)(vs:List V)(H:Hp)(Q:VK)(_:XK):Prop where
 | mk(p)(dx)(_:vs=[.ref p])(_:H p=some (.ins C dx []))(_:∀ lr ld H',Vo C H' p lr ld []->(∀ b o,H b=some o->b≠p->H' b=some o)->H lr=none->H ld=none->lr≠ld->Q .non H')
inductive Ng(C:Addr)(vs:List V)(H:Hp)(Q:VK)(_:XK):Prop where
 | mk(p)(lr)(ld)(Rs)(_:vs=[.ref p])(_:Vo C H p lr ld Rs)(_:Q (.int (Rs.length:Nat)) H)
inductive Ap(C N:Addr)(vs:List V)(H:Hp)(Q:VK)(E:XK):Prop where
 | mk(p)(lr)(ld)(Rs)(i)(_:vs=[.ref p,.int i])(_:Vo C H p lr ld Rs)(_:Yg i)(_:(i<1\/(Rs.length:Int)<i->E (.ref N) none H))(_:∀ (k:Nat) r,i=(k:Int)+1->Rs[k]?=some r->∀ l ts,H l=none->Z0 H ts (r.map Qv)->Q (.ref l) (upd H l (.lst ts)))
inductive zfq(C:Addr)(vs:List V)(H:Hp)(Q:VK)(_:XK):Prop where
 | mk(p)(lr)(ld)(Rs)(n)(c)(_:vs=[.ref p,.int n,.int c])(_:Vo C H p lr ld Rs)(_:∀ H',Same H H'->Q (.int (metS Rs n c:Nat)) H')
theorem Qp:([inl n,inl c]:List Key)=[inl n',inl c']↔n=n'/\c=c':=by
 constructor
 ·intro h;injection h with h1 h2;injection h2 with h2 _;exact⟨inl.inj h1,inl.inj h2⟩
 ·rintro⟨rfl,rfl⟩;rfl
theorem Ey.put(h:Ey kvs f)(n c:Int)(t:Nat)(ht:0<t):Ey (putK kvs [inl n,inl c] (.int t)) (fun n' c'=>if n'=n/\c'=c then t else f n' c'):=fun n' c'=>by
 rw[Sb];show _=if (if n'=n/\c'=c then t else f n' c')=0 then none else some (V.int ((if n'=n/\c'=c then t else f n' c':Nat):Int))
 by_cases e:n'=n/\c'=c
 ·rw[if_pos e,if_pos (Qp.mpr e),if_neg ⋯]
 ·rw[if_neg (fun z=>e (Qp.mp z)),if_neg e];exact h n' c'
def Nh(Rs:List (List Row))(rs:List Row)(i:Nat)(n c:Int):Nat:=if (rs.take i).any (hit n c) then Rs.length+1 else metS Rs n c
theorem za3(Rs:List (List Row))(rs:List Row):Nh Rs rs 0=metS Rs:=by funext n c;unfold Nh;simp
theorem zc0(Rs:List (List Row))(rs:List Row):Nh Rs rs rs.length=metS (Rs++[rs]):=by funext n c;unfold Nh;rw[ztp,za2]
theorem Hq(e:rs[i]?=some r)(n c:Int):Nh Rs rs (i+1) n c=if hit n c r then Rs.length+1 else Nh Rs rs i n c:=by
 unfold Nh;rw[zue,e,List.any_append];cases h1:(rs.take i).any (hit n c)<;>cases h2:hit n c r<;>simp[h2]
theorem za4(e:rs[i]?=some r)(h:r.w=none):Nh Rs rs (i+1)=Nh Rs rs i:=by
 funext n c
 rw[Hq e];have:hit n c r=false:=by unfold hit;rw[h];simp
 rw[this];simp
theorem za5(e:rs[i]?=some r)(h:r.w=some w) :
  (fun n c=>if n=w/\c=r.g then Rs.length+1 else (fun n c=>if n=w/\c=r.h then Rs.length+1 else Nh Rs rs i n c) n c)=Nh Rs rs (i+1):=by
 funext n c
 rw[Hq e];unfold hit;rw[h];show (if n=w/\c=r.g then Rs.length+1 else if n=w/\c=r.h then Rs.length+1 else Nh Rs rs i n c)=_;by_cases h1:n=w
 ·subst h1;by_cases h2:r.g=c
  ·rw[if_pos ⟨rfl,h2.symm⟩,if_pos (by simp[h2])]
  ·rw[if_neg (fun z=>h2 z.2.symm)];by_cases h3:r.h=c
   ·rw[if_pos ⟨rfl,h3.symm⟩,if_pos (by simp[h3])]
   ·rw[if_neg (fun z=>h3 z.2.symm),if_neg (by simp[h2,h3])]
 ·rw[if_neg (fun z=>h1 z.1),if_neg (fun z=>h1 z.1),if_neg (by simp;intro z;exact absurd z.symm h1)]
theorem zc1{C:Addr}{H1 H':Hp}{x dx lr ld:Addr}(hx:H1 x=none)(hdx:H1 dx=none)(ne:dx≠x)(k:∀ b o,upd (upd H1 dx (.own x)) x (.ins C dx []) b=some o->b≠x->H' b=some o)
  (h1:upd (upd H1 dx (.own x)) x (.ins C dx []) lr=none) (h2:upd (upd H1 dx (.own x)) x (.ins C dx []) ld=none):Same H1 H'/\H1 lr=none/\H1 ld=none:=by
 have fr:∀ {l:Addr},upd (upd H1 dx (.own x)) x (.ins C dx []) l=none->H1 l=none:=fun {l} q=>by
  have n1:l≠x:=fun z=>by rw[z,Zd] at q;cases q
  have n2:l≠dx:=fun z=>by rw[z,Zi ne,Zd] at q;cases q
  rw[Zi n1,Zi n2] at q;exact q
 refine⟨fun b o e=>k b o ?_ (Zg e hx),fr h1,fr h2⟩;rw[Zi (Zg e hx),Zi (Zg e hdx)];exact e
theorem zio{lr ld:Addr}:putF "meetings" (V.ref ld) [(("rounds":Str),V.ref lr)]=[(("rounds":Str),V.ref lr),(("meetings":Str),V.ref ld)]:=by
 show (if ("rounds":Str)="meetings" then _ else _)=_;rw[if_neg ⋯];rfl
theorem Xc(h:H l=none)(s:Same H H'):Same H (upd H' l o):=fun b u e=>by
 rw[Zi (Zg e h)];exact s b u e
theorem zc2(h:oneV x):Rj x=true:=by rcases h with rfl|⟨i,rfl⟩<;>rfl
inductive RLs(H:Hp):List Addr->List (List Row)->Prop where
 | nil:RLs H [] []
 | cons {l:Addr} {ts:List V} {ls:List Addr} {r:List Row} {R:List (List Row)} (h:H l=some (.lst ts)) (q:Z0 H ts (r.map Qv)) (n:RLs H ls R):RLs H (l :: ls) (r :: R)
theorem Ju(c:Int)(m:Nat):(Ss c m).length=m:=by unfold Ss;rw[zs3,zt0]
structure L1(C:Addr)(H0:Hp)(p lr ld kR:Addr)(ls:List Addr)(R S:List (List Row))(H:Hp):Prop where
 base:Same H0 H
 led:Vo C H p lr ld R
 krs:H kR=some (.lst (ls.map V.ref))
 rls:RLs H ls S
 sep:∀ l∈ls,l≠lr/\l≠kR
structure C1(H0:Hp)(lr ld kR:Addr):Prop where
 fr:H0 lr=none
 fd:H0 ld=none
 fk:H0 kR=none
 rk:lr≠kR
theorem za6(h1:∀ Q:Bool->Hp->Prop,Q b H->t σ H Q)(h2:∀ Q:Bool->Hp->Prop,Q c H->u σ H Q)(Q:Bool->Hp->Prop)(h:Q (b&&c) H):zhk t u σ H Q:=by
 refine h1 _ ?_;cases b with
 | true=>exact h2 _ h
 | false=>exact h
def Ez(Rs:List (List Row))(n c rest:Int):Bool:=decide ((if (0:Int)>(Rs.length:Nat)-rest then 0 else ((Rs.length:Nat):Int)-rest)<(metS Rs n c:Nat))
inductive E2(C:Addr)(vs:List V)(H:Hp)(Q:VK)(_:XK):Prop where
 | mk(p)(lr)(ld)(Rs)(n)(c)(rest)(_:vs=[.int n,.int c,.ref p,.int rest])(_:Vo C H p lr ld Rs)(_:∀ H',Same H H'->Q (.bl (Ez Rs n c rest)) H')
def bw(b:Bool)(w:Str):List Str:=if b then [w] else []
def Fg(Rs:List (List Row))(n g c h gu d:Int)(o:Bool)(rest:Int):List Str :=
 bw o "away"++(bw (decide (g<d)) "grade"++(bw (decide (c=h)||decide (c=gu)) "club"++bw (Ez Rs n h rest||Ez Rs n gu rest) "met"))
inductive Hr(K:Frag)(C:Addr)(vs:List V)(H:Hp)(Q:VK)(_:XK):Prop where
 | mk(t1 t2 p lr ld:Addr)(Rs:List (List Row))(n g c h gu d rest:Int)(o:Bool)(_:vs=[.ref t1,.ref t2,.bl o,.ref p,.int rest])(_:H t1=some (.tup [.int n,.int g,.int c]))(_:H t2=some (.tup [.int h,.int gu,.int d]))(_:Vo C H p lr ld Rs)(_:∀ l H',H' l=some (.lst ((Fg Rs n g c h gu d o rest).map V.str))->Same H H'->H l=none->Q (.ref l) H')
def Gr(c:TT)(σ:L2.St)(H:Hp)(b:Bool):Prop:=∀ Q:Bool->Hp->Prop,(∀ H1,Same H H1->Q b H1)->c σ H Q
theorem zc3(h1:Gr t σ H b)(h2:∀ H1,Same H H1->Gr u σ H1 c):Gr (tOr t u) σ H (b||c):=fun Q h=>by
 refine h1 _ fun H1 s1=>?_;cases b with
 | true=>exact h H1 s1
 | false=>exact h2 H1 s1 _ fun H2 s2=>h H2 (s1.trans s2)
theorem Fh(h:∀ Q:Bool->Hp->Prop,Q b H->c σ H Q):Gr c σ H b:=fun Q q=>h Q (q H (Same.refl H))
theorem Li(hc:Gr c σ H b)(h0:H0 l=none)(s:Same H0 H)(hl:H l=some (.lst (xs.map V.str)))(hx:xs.length<=100)(hv:σ[i]?=some (some (.ref l)))
  (h3:∀ H',Same H0 H'->H' l=some (.lst ((xs++bw b w).map V.str))->(∀ b o,H b=some o->b≠l->H' b=some o)->u D σ H'):Z5 (zf4 c (zil (tVar i) (tC (.str w))) zb1) u D σ H:=by
 refine hc _ fun H1 s1=>?_;have hl1:=s1 _ _ hl;cases b with
 | true =>
   rw[if_pos rfl];refine⟨_,hv,l,_,rfl,hl1,_,hl1,Ul (by rw[zs3];omega),?_⟩;refine h3 _ (Xc h0 (s.trans s1)) ?_ fun b o e n=>by rw[Zi n];exact s1 _ _ e
   rw[Zd,ztl];rfl
 | false =>
   rw[if_neg ⋯];exact h3 _ (s.trans s1) (by rw[show bw false w=[] from rfl,List.append_nil];exact hl1) fun b o e _=>s1 _ _ e
theorem Be(b:Bool)(w:Str):(bw b w).length<=1:=by cases b<;>simp[bw]
end G
namespace G
open PySem PySem.Spec PyProof.Rows L2
abbrev P3:=Int×Int×Int
def pV(m:P3):List V:=[.int m.1,.int m.2.1,.int m.2.2]
theorem Fi{H:Hp}{ts:List V}{Ms:List P3}{i:Nat}{x:V}(h:Z0 H ts (Ms.map pV))(e:ts[i]?=some x):∃ t m,x=.ref t/\Ms[i]?=some m/\H t=some (.tup (pV m)):=by
 obtain⟨t,r,h1,h2,h3⟩:=h.get e;rw[zta] at h2;cases q:Ms[i]? with
 | none=>rw[q] at h2;cases h2
 | some m=>rw[q] at h2;cases h2;exact⟨t,m,h1,rfl,h3⟩
theorem Z0.reverse:∀ {ts:List V} {R:List (List V)},Z0 H ts R->Z0 H ts.reverse R.reverse
 | _,_,.nil=>.nil
 | _,_,.cons h q=>by rw[zuy,zuy];exact(Z0.reverse q).snoc h
def Rz(Rs:List (List Row))(h gu d:Int)(os:List V)(rest:Int)(m:P3):Bool:=(Fg Rs m.1 m.2.1 m.2.2 h gu d (inV (.int m.1) os) rest).isEmpty
inductive E3(K:Frag)(C:Addr)(vs:List V)(H:Hp)(Q:VK)(_:XK):Prop where
 | mk(lp lo tm p lr ld:Addr)(Rs:List (List Row))(ts:List V)(Ms:List P3)(os:List V)(h gu d rest:Int)(_:vs=[.ref lp,.ref tm,.ref lo,.ref p,.int rest])(_:H lp=some (.lst ts))(_:Z0 H ts (Ms.map pV))(_:H lo=some (.lst os))(_:(∀ x∈os,oneV x))(_:H tm=some (.tup [.int h,.int gu,.int d]))(_:Vo C H p lr ld Rs)(_:Ms.length<=1000)(_:∀ l H',H' l=some (.lst ((Ms.filter (Rz Rs h gu d os rest)).map fun m=>V.int m.1))->Same H H'->H l=none->Q (.ref l) H')
theorem Fj{js:List Nat}{tt:TT}{te:TE}{lo:Int}{n:Nat}{σ:L2.St}{H:Hp}{Q:VK}(p:Nat->Bool)(f:Nat->V)(hz:n<=1000)
  (ht:∀ (i:Nat) (R:Bool->Hp->Prop),i<n->R (p i) H->tt (cs js σ (.int (lo+i))) H R) (hs:∀ (i:Nat) (R:VK),i<n->p i=true->R (f i) H->te (cs js σ (.int (lo+i))) H R)
  (hd:∀ q,H q=none->Q (.ref q) (upd H q (.lst (((List.range n).filter p).map f)))):Et (Itr lo n) js tt te σ H Q:=by
 refine Pe (fun i ys H'=>H'=H/\ys=((List.range i).filter p).map f) ⟨rfl,rfl⟩ (szN hz) (fun i ys H' ⟨_,e⟩=>by rw[e,zs3];exact zto (zun _ _) (by rw[zt0];exact ztb _)) (fun i ys H' hi ⟨e1,e2⟩=>?_) fun ys H' ⟨e1,e2⟩ q hq=>?_
 ·subst e1;refine ht i _ hi ?_;have e3:((List.range (i+1)).filter p).map f=ys++(if p i then [f i] else []):=by
   rw[e2,List.range_succ,zu4,ztl];cases hp:p i<;>simp[hp]
  cases hp:p i with
  | true =>
    rw[if_pos rfl];refine hs i _ hi hp ⟨rfl,?_⟩;rw[e3,hp];rfl
  | false =>
    rw[if_neg ⋯];refine⟨rfl,?_⟩;rw[e3,hp];simp
 ·subst e1;rw[e2];exact hd q hq
def W9(xs:List V):List Nat:=(List.range xs.length).filter fun i=>decide (xs[i]?=some .non)
inductive Bf(K:Frag)(vs:List V)(H:Hp)(Q:VK)(_:XK):Prop where
 | mk(b:Addr)(xs:List V)(_:vs=[.ref b])(_:H b=some (.lst xs))(_:(∀ x∈xs,oneV x))(_:xs.length<=100)(_:∀ l H',H' l=some (.lst ((W9 xs).map fun i=>V.int (i:Nat)))->Same H H'->H l=none->Q (.ref l) H')
def X5(xs:List V)(n:Int):Option Nat:=(List.range xs.length).find? fun i=>decide (xs[i]?=some (.int n))
def oN:Option Nat->V
 | none=>.non
 | some i=>.int i
inductive Hs(K:Frag)(vs:List V)(H:Hp)(Q:VK)(_:XK):Prop where
 | mk(b:Addr)(xs:List V)(n:Int)(_:vs=[.ref b,.int n])(_:H b=some (.lst xs))(_:(∀ x∈xs,oneV x))(_:xs.length<=100)(_:∀ H',Same H H'->Q (oN (X5 xs n)) H')
def Yp:List (Nat×Option Int)->List V->List V
 | [],xs=>xs
 | (p,w) :: r,xs=>Yp r (xs.set p (oV w))
def Vp(s:Nat×Option Int):List V:=[.int (s.1:Nat),oV s.2]
inductive Ni(K:Frag)(vs:List V)(H:Hp)(Q:VK)(_:XK):Prop where
 | mk(b c:Addr)(xs ts:List V)(st:List (Nat×Option Int))(_:vs=[.ref b,.ref c])(_:H b=some (.lst xs))(_:H c=some (.lst ts))(_:Z0 H ts (st.map Vp))(_:(∀ s∈st,s.1<xs.length))(_:(∀ x∈xs,oneV x))(_:xs.length<=100)(_:st.length<=100)(_:∀ l H',H' l=some (.lst (Yp st xs))->Same H H'->H l=none->Q (.ref l) H')
theorem Xs:∀ (st:List (Nat×Option Int)) (xs:List V),(Yp st xs).length=xs.length
 | [],_=>rfl
 | (p,w) :: r,xs=>by rw[Yp,Xs r,zuh]
theorem E4(xs:List V)(n:Int):(X5 xs n=none/\∀ i:Nat,xs[i]?≠some (V.int n))\/∃ i:Nat,X5 xs n=some i/\xs[i]?=some (V.int n):=by
 unfold X5;cases h:(List.range xs.length).find? fun i=>decide (xs[i]?=some (.int n)) with
 | none =>
   refine .inl ⟨rfl,fun i e=>?_⟩;have hi:i<xs.length:=(zs5.mp e).1;have:=List.find?_eq_none.mp h i (zt7.mpr hi);exact this (zs6 e)
 | some i =>
   have:=List.find?_some h;exact .inr ⟨i,rfl,of_decide_eq_true this⟩
end G
namespace G
open PySem PySem.Spec PyProof.Rows L2
inductive ILs(H:Hp):List Addr->List (List Int)->Prop where
 | nil:ILs H [] []
 | cons {l:Addr} {ls:List Addr} {r:List Int} {R:List (List Int)} (h:H l=some (.lst (r.map V.int))) (n:ILs H ls R):ILs H (l :: ls) (r :: R)
theorem ILs.keep:∀ {ls:List Addr} {R:List (List Int)},(∀ l∈ls,∀ o,H l=some o->H' l=some o)->ILs H ls R->ILs H' ls R
 | _,_,_,.nil=>.nil
 | _,_,k,.cons h r=>.cons (k _ ztn _ h) (ILs.keep (fun l hl=>k l (ztj _ hl)) r)
theorem ILs.same(e:Same H H')(h:ILs H ls R):ILs H' ls R:=h.keep fun l _ o q=>e _ _ q
theorem ILs.length:∀ {ls:List Addr} {R:List (List Int)},ILs H ls R->ls.length=R.length
 | _,_,.nil=>rfl
 | _,_,.cons _ r=>by simp[ILs.length r]
theorem ILs.snoc(h:H l=some (.lst (x.map V.int))):∀ {ls:List Addr} {R:List (List Int)},ILs H ls R->ILs H (ls++[l]) (R++[x])
 | _,_,.nil=>.cons h .nil
 | _,_,.cons h' r=>.cons h' (ILs.snoc h r)
theorem ILs.has:∀ {ls:List Addr} {R:List (List Int)} {l:Addr},ILs H ls R->l∈ls->∃ xs,H l=some (.lst xs)
 | _,_,_,.nil,e=>by simp at e
 | _,_,_,.cons h r,e=>by
   rcases zs7.mp e with rfl|e
   ·exact⟨_,h⟩
   ·exact ILs.has r e
theorem ILs.getR:∀ {ls:List Addr} {R:List (List Int)} {i:Nat} {r:List Int},ILs H ls R->R[i]?=some r->∃ l,ls[i]?=some l/\H l=some (.lst (r.map V.int))
 | _,_,_,_,.nil,e=>by simp at e
 | _,_,0,_,.cons h _,e=>by simp at e;subst e;exact⟨_,rfl,h⟩
 | _,_,i+1,x,.cons _ r,e=>by
   obtain⟨t,h1,h2⟩:=ILs.getR (i:=i) (r:=x) r (by simpa using e);exact⟨t,by simpa using h1,h2⟩
structure R0(rows:List (List Int))(nu:List Int):Prop where
 few:rows.length<=20
 crowd:nu.length<=30
 inj:nu.Nodup
 rng:∀ n∈nu,1<=n/\n<=999
 sub:∀ r∈rows,r.Nodup/\∀ n∈r,n∈nu
structure Yl(rows:List (List Int))(gs:List V):Prop where
 len:gs.length=rows.length
 one:∀ x∈gs,oneV x
 may:∀ (k:Nat) (n:Int),gs[k]?=some (.int n)->∃ r,rows[k]?=some r/\n∈r
 inj:∀ (j k:Nat) (n:Int),gs[j]?=some (.int n)->gs[k]?=some (.int n)->j=k
def Qq(rows:List (List Int))(gs:List V)(p:Nat):Prop:=∃ S:Nat->Prop,S p/\∀ q,S q->q<rows.length/\∀ r,rows[q]?=some r->∀ n∈r,∃ q',q' < p/\gs[q']?=some (.int n)/\S q'
def Vs(rows:List (List Int))(gs:List V):Prop:=∀ p,gs[p]?=some .non->Qq rows gs p
inductive zc4(K:Frag)(vs:List V)(H:Hp)(Q:VK)(_:XK):Prop where
 | mk(l:Addr)(ls:List Addr)(rows:List (List Int))(nu:List Int)(_:vs=[.ref l])(_:H l=some (.lst (ls.map V.ref)))(_:ILs H ls rows)(_:R0 rows nu)(_:∀ l' gs H',H' l'=some (.lst gs)->Yl rows gs->Vs rows gs->Same H H'->H l'=none->Q (.ref l') H')
theorem ze4{n:Int}{r:List Int}:inV (.int n) (r.map V.int)=decide (n∈r):=by
 induction r with
 | nil=>rfl
 | cons x r ih =>
   unfold inV at ih ⊢;rw[ztf,zu1,ih];have e:eqV (.int x) (.int n)=decide (n=x):=by
    show (x == n)=_;by_cases h:n=x
    ·subst h;simp
    ·rw[ztc h];exact ztr.mpr (Ne.symm h)
   rw[e];by_cases h:n=x
   ·subst h;simp
   ·by_cases h2:n∈r<;>simp[h,h2]
end G
namespace G
open PySem PySem.Spec PyProof.Rows L2
def newS(st:List (Nat×Option Int))(k:Nat):List V:=(st.filter fun s=>decide (s.1=k)).map fun s=>oV s.2
theorem Hu:∀ (st:List (Nat×Option Int)) (xs:List V) (k:Nat),(st.map (·.1)).Nodup->k<xs.length->(Yp st xs)[k]?=some ((newS st k++[xs.getD k .non]).getD 0 .non)
 | [],xs,k,_,hk=>by
   rw[Yp,zs4 hk];show _=some (xs.getD k .non);rw[ztu,zs4 hk];rfl
 | (p,w) :: r,xs,k,nd,hk=>by
   rw[ztf,ztx] at nd;rw[Yp,Hu r _ k nd.2 (by rw[zuh];exact hk)];by_cases h:p=k
   ·subst h;have e:newS r p=[]:=by
     unfold newS;rw[List.map_eq_nil_iff,List.filter_eq_nil_iff];intro s hs z;exact nd.1 (ztd.mpr ⟨s,hs,of_decide_eq_true z⟩)
    have e2:newS ((p,w) :: r) p=oV w :: newS r p:=by
     unfold newS;rw[zua,if_pos (zs6 rfl),ztf]
    rw[e2,e];show some ((xs.set p (oV w)).getD p .non)=some (oV w);rw[ztu,zt4 hk];rfl
   ·have e2:newS ((p,w) :: r) k=newS r k:=by
     unfold newS;rw[zua,if_neg (by rw[ztc h];decide)]
    rw[e2];have e3:(xs.set p (oV w)).getD k .non=xs.getD k .non:=by
     rw[ztu,ztu,zt2 h]
    rw[e3]
section
variable{rows:List (List Int)}{gs:List V}
def adjN(rows:List (List Int))(gs:List V)(q:Nat)(n:Int)(q':Nat):Prop:=(∃ r,rows[q]?=some r/\n∈r)/\gs[q']?=some (.int n)
def Pf(rows:List (List Int))(gs:List V)(q:Nat)(n:Int):Prop:=(∃ r,rows[q]?=some r/\n∈r)/\∀ j:Nat,gs[j]?≠some (V.int n)
def V3(rows:List (List Int))(gs:List V)(q:Nat):Prop:=∃ n,Pf rows gs q n
inductive Walk(rows:List (List Int))(gs:List V)(p:Nat):Nat->Nat->Prop where
 | nil:Walk rows gs p p 0
 | snoc {q q' k:Nat} {n:Int} (h:Walk rows gs p q k) (a:adjN rows gs q n q'):Walk rows gs p q' (k+1)
theorem Walk.cons(a:adjN rows gs p n p')(h:Walk rows gs p' q k):Walk rows gs p q (k+1):=by
 induction h with
 | nil=>exact .snoc .nil a
 | snoc _ a' ih=>exact .snoc ih a'
inductive Ch(rows:List (List Int))(gs:List V):Nat->List (Nat×Option Int)->Nat->Option Int->Prop where
 | one (q:Nat) (w:Option Int):Ch rows gs q [(q,w)] q w
 | step {q q' e:Nat} {n:Int} {st:List (Nat×Option Int)} {w:Option Int} (a:adjN rows gs q n q') (h:Ch rows gs q' st e w):Ch rows gs q ((q,some n) :: st) e w
theorem Ch.pos{q e:Nat}{st:List (Nat×Option Int)}{w:Option Int}(h:Ch rows gs q st e w):0<st.length:=by cases h<;>simp
theorem Ch.walk{q e:Nat}{st:List (Nat×Option Int)}{w:Option Int}(h:Ch rows gs q st e w):Walk rows gs q e (st.length-1):=by
 induction h with
 | one q w=>exact .nil
 | step a h ih =>
   have:=h.pos;have e:=Walk.cons a ih;rw[ztk,Nat.add_sub_cancel];rw[Nat.sub_add_cancel this] at e;exact e
theorem Ch.drop{q e:Nat}{st:List (Nat×Option Int)}{w:Option Int}(h:Ch rows gs q st e w):∀ x∈st.map (·.1),∃ st',Ch rows gs x st' e w/\st'.length<=st.length:=by
 induction h with
 | one q w=>intro x hx;simp at hx;subst hx;exact⟨_,.one _ _,ztb _⟩
 | @step q q' e n st w a h ih =>
   intro x hx;rw[ztf] at hx;rcases zs7.mp hx with z|z
   ·subst z;exact⟨_,.step a h,ztb _⟩
   ·obtain⟨st',h1,h2⟩:=ih x z;exact⟨st',h1,by rw[ztk];omega⟩
theorem Ch.hd{q e:Nat}{st:List (Nat×Option Int)}{w:Option Int}(h:Ch rows gs q st e w):∃ x r,st=(q,x) :: r:=by cases h<;>exact⟨_,_,rfl⟩
theorem Ch.last{q e:Nat}{st:List (Nat×Option Int)}{w:Option Int}(h:Ch rows gs q st e w):e∈st.map (·.1):=by
 induction h with
 | one q w=>simp
 | step a h ih=>rw[ztf];exact ztj _ ih
theorem Ch.nodup{q e:Nat}{st:List (Nat×Option Int)}{w:Option Int}(h:Ch rows gs q st e w)(hm:∀ k,Walk rows gs q e k->st.length<=k+1):(st.map (·.1)).Nodup:=by
 induction h with
 | one q w=>simp
 | @step q q' e n st w a h ih =>
   rw[ztf,ztx];refine⟨fun hq=>?_,ih fun k hk=>?_⟩
   ·obtain⟨st',h1,h2⟩:=h.drop q hq;have:=hm _ h1.walk;have:=h1.pos;rw[ztk] at *;omega
   ·have:=hm _ (Walk.cons a hk);rw[ztk] at this;omega
theorem Ch.mem{q e:Nat}{st:List (Nat×Option Int)}{w:Option Int}(h:Ch rows gs q st e w):∀ (k:Nat) (n:Int),(k,some n)∈st->(adjN rows gs k n k\/True)/\(((∃ r,rows[k]?=some r/\n∈r)/\∃ k',gs[k']?=some (V.int n)/\k'∈st.tail.map (·.1))\/(w=some n/\k=e)):=by
 induction h with
 | one q w =>
   intro k n hk;simp at hk;exact⟨.inr trivial,.inr ⟨hk.2.symm,hk.1⟩⟩
 | @step q q' e n' st w a h ih =>
   intro k n hk;refine⟨.inr trivial,?_⟩;rcases zs7.mp hk with z|z
   ·cases z;refine .inl ⟨a.1,q',a.2,?_⟩;obtain⟨x,r,e⟩:=h.hd;rw[e];simp
   ·rcases(ih k n z).2 with ⟨h1,k',h2,h3⟩|h1
    ·refine .inl ⟨h1,k',h2,?_⟩;show k'∈st.map (·.1);obtain⟨x,r,e⟩:=h.hd;rw[e] at h3 ⊢;exact ztj _ h3
    ·exact .inr h1
theorem Ch.inj{q e:Nat}{st:List (Nat×Option Int)}{w:Option Int}(FP:Yl rows gs)(h:Ch rows gs q st e w)(hw:∀ n,w=some n->∀ j:Nat,gs[j]?≠some (V.int n))(nd:(st.map (·.1)).Nodup):∀ (j k:Nat) (n:Int),(j,some n)∈st->(k,some n)∈st->j=k:=by
 induction h with
 | one q w=>intro j k n h1 h2;simp at h1 h2;rw[h1.1,h2.1]
 | @step q q' e n' st w a h ih =>
   intro j k n h1 h2;rw[ztf,ztx] at nd;have key:∀ k,(k,some n')∈st->False:=fun k hk=>by
    rcases(h.mem k n' hk).2 with ⟨_,k',h2,h3⟩|⟨h1,_⟩
    ·have e:k'=q':=FP.inj k' q' n' h2 a.2;subst e;obtain⟨x,r,e⟩:=h.hd;have nd2:=nd.2;rw[e] at nd2 h3;rw[ztf,ztx] at nd2;exact nd2.1 h3
    ·exact hw n' h1 q' a.2
   rcases zs7.mp h1 with z1|z1<;>rcases zs7.mp h2 with z2|z2
   ·cases z1;cases z2;rfl
   ·cases z1;exact(key k z2).elim
   ·cases z2;exact(key j z1).elim
   ·exact ih hw nd.2 j k n z1 z2
theorem zc5{st:List (Nat×Option Int)}{k:Nat}(nd:(st.map (·.1)).Nodup):(k∉st.map (·.1)/\newS st k=[])\/∃ w,(k,w)∈st/\newS st k=[oV w]:=by
 induction st with
 | nil=>exact .inl ⟨by simp,rfl⟩
 | cons s r ih =>
   obtain⟨p,w⟩:=s;rw[ztf,ztx] at nd;by_cases h:p=k
   ·subst h;refine .inr ⟨w,ztn,?_⟩;rcases ih nd.2 with ⟨_,e⟩|⟨w',h1,_⟩
    ·have e2:newS ((p,w) :: r) p=oV w :: newS r p:=by
      unfold newS;rw[zua,if_pos (zs6 rfl),ztf]
     rw[e2,e]
    ·exact absurd (ztd.mpr ⟨_,h1,rfl⟩) nd.1
   ·have e2:newS ((p,w) :: r) k=newS r k:=by
     unfold newS;rw[zua,if_neg (by rw[ztc h];decide)]
    rw[e2];rcases ih nd.2 with ⟨h1,e⟩|⟨w',h1,e⟩
    ·exact .inl ⟨fun z=>by rcases zs7.mp z with q|q;exact h q.symm;exact h1 q,e⟩
    ·exact .inr ⟨w',ztj _ h1,e⟩
theorem X6{st:List (Nat×Option Int)}{xs:List V}{k:Nat}(nd:(st.map (·.1)).Nodup)(hk:k<xs.length):(k∉st.map (·.1)/\(Yp st xs)[k]?=xs[k]?)\/∃ w,(k,w)∈st/\(Yp st xs)[k]?=some (oV w):=by
 rw[Hu st xs k nd hk];rcases zc5 (k:=k) nd with ⟨h,e⟩|⟨w,h,e⟩
 ·refine .inl ⟨h,?_⟩;rw[e];show some (xs.getD k .non)=_;rw[ztu,zs4 hk];rfl
 ·exact .inr ⟨w,h,by rw[e];rfl⟩
theorem Ch.lt{q e:Nat}{st:List (Nat×Option Int)}{w:Option Int}(FP:Yl rows gs)(h:Ch rows gs q st e w)(hq:q<rows.length):∀ s∈st,s.1<rows.length:=by
 induction h with
 | one q w=>intro s hs;simp at hs;subst hs;exact hq
 | @step q q' e n st w a h ih =>
   intro s hs;rcases zs7.mp hs with z|z
   ·subst z;exact hq
   ·refine ih ?_ s z;have:=(zs5.mp a.2).1;rw[FP.len] at this;exact this
theorem Ch.fill{q e:Nat}{st:List (Nat×Option Int)}{w:Option Int}(FP:Yl rows gs)(h:Ch rows gs q st e w)(hq:q<rows.length)(hw:∀ n,w=some n->Pf rows gs e n)(nd:(st.map (·.1)).Nodup):Yl rows (Yp st gs):=by
 have hlt:=h.lt FP hq;have hinj:=h.inj FP (fun n hn=>(hw n hn).2) nd;have src:∀ (k:Nat) (n:Int),(k,some n)∈st->(∃ r,rows[k]?=some r/\n∈r)/\∀ j:Nat,gs[j]?=some (V.int n)->j∈st.map (·.1):=fun k n hk=>by
  rcases(h.mem k n hk).2 with ⟨h1,k',h2,h3⟩|⟨h1,rfl⟩
  ·refine⟨h1,fun j hj=>?_⟩;rw[FP.inj j k' n hj h2];obtain⟨x,r,e⟩:=h.hd;rw[e] at h3 ⊢;exact ztj _ h3
  ·exact⟨(hw n h1).1,fun j hj=>absurd hj ((hw n h1).2 j)⟩
 have cs:∀ k,k<gs.length->(k∉st.map (·.1)/\(Yp st gs)[k]?=gs[k]?)\/∃ w,(k,w)∈st/\(Yp st gs)[k]?=some (oV w):=fun k hk=>X6 nd hk;have at_:∀ (k:Nat) (n:Int),(Yp st gs)[k]?=some (V.int n)->(k∉st.map (·.1)/\gs[k]?=some (V.int n))\/(k,some n)∈st:=fun k n hk=>by
  have hkl:k<gs.length:=by
   have:=(zs5.mp hk).1;rw[Xs] at this;exact this
  rcases cs k hkl with ⟨h1,e⟩|⟨w',h1,e⟩
  ·exact .inl ⟨h1,by rw[<- e];exact hk⟩
  ·rw[e] at hk;cases w' with
   | none=>cases hk
   | some m=>cases hk;exact .inr h1
 refine⟨by rw[Xs];exact FP.len,fun x hx=>?_,fun k n hk=>?_,fun j k n hj hk=>?_⟩
 ·obtain⟨k,hk,rfl⟩:=zud hx;have hkl:k<gs.length:=by rw[Xs] at hk;exact hk
  have e0:=zs4 hk;rcases cs k hkl with ⟨_,e⟩|⟨w',_,e⟩
  ·rw[e,zs4 hkl] at e0;rw[<- Option.some.inj e0];exact FP.one _ (ztz hkl)
  ·rw[e] at e0;rw[<- Option.some.inj e0];exact zg4 w'
 ·rcases at_ k n hk with ⟨_,h1⟩|h1
  ·exact FP.may k n h1
  ·exact(src k n h1).1
 ·rcases at_ j n hj with ⟨a1,a2⟩|a1<;>rcases at_ k n hk with ⟨b1,b2⟩|b1
  ·exact FP.inj j k n a2 b2
  ·exact absurd ((src k n b1).2 j a2) a1
  ·exact absurd ((src j n a1).2 k b2) b1
  ·exact hinj j k n a1 b1
theorem Ch.out{p0 q e:Nat}{n0:Int}{w:Option Int}{st:List (Nat×Option Int)}{S:Nat->Prop}(FP:Yl rows gs)(hS:∀ q,S q->q<rows.length/\∀ r,rows[q]?=some r->∀ n∈r,∃ q',q' < p0/\gs[q']?=some (.int n)/\S q')(h:Ch rows gs q st e w):w=some n0->Pf rows gs e n0->¬ S q:=by
 induction h with
 | one q w =>
   intro hw hf hs;obtain⟨r,h1,h2⟩:=hf.1;obtain⟨q',_,h3,_⟩:=(hS _ hs).2 r h1 n0 h2;exact hf.2 q' h3
 | @step q q' e n st w a h ih =>
   intro hw hf hs;obtain⟨r,h1,h2⟩:=a.1;obtain⟨q'',_,h3,h4⟩:=(hS q hs).2 r h1 n h2;have:q''=q':=FP.inj q'' q' n h3 a.2;subst this;exact ih hw hf h4
theorem Qq.behind{p0 q e:Nat}{n0:Int}{st:List (Nat×Option Int)}(FP:Yl rows gs)(S0:Qq rows gs p0)(h:Ch rows gs q st e (some n0))(hf:Pf rows gs e n0)(hq:q<rows.length)(nd:(st.map (·.1)).Nodup):Qq rows (Yp st gs) p0:=by
 obtain⟨S,hp,hS⟩:=S0;have outAll:∀ x∈st.map (·.1),¬ S x:=fun x hx=>by
  obtain⟨st',h1,_⟩:=h.drop x hx;exact h1.out FP hS rfl hf
 refine⟨S,hp,fun q1 h1=>⟨(hS q1 h1).1,fun r hr n hn=>?_⟩⟩;obtain⟨q',h2,h3,h4⟩:=(hS q1 h1).2 r hr n hn;refine⟨q',h2,?_,h4⟩;have hkl:q' < gs.length:=(zs5.mp h3).1;rcases X6 nd hkl with ⟨_,e⟩|⟨w,h5,_⟩
 ·rw[e];exact h3
 ·exact absurd h4 (outAll q' (ztd.mpr ⟨_,h5,rfl⟩))
structure Y6(rows:List (List Int))(gs:List V)(p:Nat)(st:List (Nat×Option Int))(e:Nat)(w:Option Int):Prop where
 ch:Ch rows gs p st e w
 free:∀ n,w=some n->Pf rows gs e n/\∀ q k,Walk rows gs p q k->V3 rows gs q->st.length<=k+1
 none:w=none->(∀ q k,Walk rows gs p q k->¬ V3 rows gs q)/\(∀ q k,Walk rows gs p q k->q<=e)/\∀ k,Walk rows gs p e k->st.length<=k+1
theorem Y6.nodup{p e:Nat}{st:List (Nat×Option Int)}{w:Option Int}(c:Y6 rows gs p st e w):(st.map (·.1)).Nodup:=by
 refine c.ch.nodup fun k hk=>?_;cases h:w with
 | none=>exact(c.none h).2.2 k hk
 | some n=>exact(c.free n h).2 e k hk ⟨n,(c.free n h).1⟩
theorem Y6.fill{p e:Nat}{st:List (Nat×Option Int)}{w:Option Int}(FP:Yl rows gs)(c:Y6 rows gs p st e w)(hp:p<rows.length):Yl rows (Yp st gs):=c.ch.fill FP hp (fun n hn=>(c.free n hn).1) c.nodup
theorem zc6(FP:Yl rows gs)(hp:p<rows.length)(ha:∀ q n,gs[q]?=some (V.int n)->q<p)(hn:∀ q k,Walk rows gs p q k->¬ V3 rows gs q):Qq rows gs p:=by
 refine⟨fun q=>∃ k,Walk rows gs p q k,⟨0,.nil⟩,fun q ⟨k,hk⟩=>⟨?_,fun r hr n hnr=>?_⟩⟩
 ·cases hk with
  | nil=>exact hp
  | snoc _ a =>
    have:=(zs5.mp a.2).1;rw[FP.len] at this;exact this
 ·by_cases hx:∃ j:Nat,gs[j]?=some (V.int n)
  ·obtain⟨j,hj⟩:=hx;exact⟨j,ha j n hj,hj,k+1,.snoc hk ⟨⟨r,hr,hnr⟩,hj⟩⟩
  ·exact absurd ⟨n,⟨r,hr,hnr⟩,fun j hj=>hx ⟨j,hj⟩⟩ (hn q k hk)
end
section
variable{rows:List (List Int)}{gs:List V}{p:Nat}
structure Bfs(rows:List (List Int))(gs:List V)(p:Nat)(line:List Nat)(dep:Nat->Nat):Prop where
 nodup:line.Nodup
 memp:p∈line
 d0:dep p=0
 walk:∀ q∈line,Walk rows gs p q (dep q)
 sorted:∀ (i j q q':Nat),i<=j->line[i]?=some q->line[j]?=some q'->dep q<=dep q'
def Done(rows:List (List Int))(gs:List V)(line:List Nat)(dep:Nat->Nat)(dn:Nat):Prop:=∀ (i q:Nat),i<dn->line[i]?=some q->∀ n q',adjN rows gs q n q'->q'∈line/\dep q'<=dep q+1
theorem za7(rows:List (List Int))(gs:List V)(p:Nat):Bfs rows gs p [p] (fun _=>0):=by
 refine⟨by simp,by simp,rfl,fun q hq=>?_,fun i j q q' _ _ _=>ztb _⟩;simp at hq;subst hq;exact .nil
variable{line:List Nat}{dep:Nat->Nat}{dn:Nat}
theorem Bfs.reach(B:Bfs rows gs p line dep)(D:Done rows gs line dep dn)(h:Walk rows gs p q k):(q∈line/\dep q<=k)\/∃ j q',dn<=j/\line[j]?=some q'/\dep q' < k:=by
 induction h with
 | nil=>exact .inl ⟨B.memp,by rw[B.d0];exact ztb _⟩
 | @snoc q q' k n h a ih =>
   rcases ih with ⟨h1,h2⟩|⟨j,x,h1,h2,h3⟩
   ·obtain⟨i,hi,e⟩:=zud h1;have e':line[i]?=some q:=by rw[zs4 hi,e]
    by_cases hd:i<dn
    ·obtain⟨a1,a2⟩:=D i q hd e' n q' a;exact .inl ⟨a1,by omega⟩
    ·exact .inr ⟨i,q,by omega,e',by omega⟩
   ·exact .inr ⟨j,x,h1,h2,by omega⟩
theorem Bfs.full(B:Bfs rows gs p line dep)(D:Done rows gs line dep line.length)(h:Walk rows gs p q k):q∈line/\dep q<=k:=by
 rcases B.reach D h with z|⟨j,x,h1,h2,_⟩
 ·exact z
 ·have:=(zs5.mp h2).1;omega
theorem Bfs.early(B:Bfs rows gs p line dep)(D:Done rows gs line dep dn)(hh:line[dn]?=some here)(h:Walk rows gs p q k)(hk:k<dep here):∃ i,i<dn/\line[i]?=some q:=by
 rcases B.reach D h with ⟨h1,h2⟩|⟨j,x,h1,h2,h3⟩
 ·obtain⟨i,hi,e⟩:=zud h1;have e':line[i]?=some q:=by rw[zs4 hi,e]
  refine⟨i,?_,e'⟩;by_cases hd:i<dn
  ·exact hd
  ·have:=B.sorted dn i here q ⋯ hh e';omega
 ·have:=B.sorted dn j here x h1 hh h2;omega
theorem Bfs.fewest(B:Bfs rows gs p line dep)(D:Done rows gs line dep dn)(hh:line[dn]?=some here)(hno:∀ (i q:Nat),i<dn->line[i]?=some q->¬ V3 rows gs q)(h:Walk rows gs p q k)(hf:V3 rows gs q):dep here+1<=k+1:=by
 by_cases hk:k<dep here
 ·obtain⟨i,hi,e⟩:=B.early D hh h hk;exact absurd hf (hno i q hi e)
 ·omega
def Vc(dep:Nat->Nat)(q d:Nat):Nat->Nat:=fun x=>if x=q then d else dep x
theorem Bfs.app(B:Bfs rows gs p line dep)(hh:line[dn]?=some here)(near:∀ x∈line,dep x<=dep here+1)(a:adjN rows gs here n q')(hn:q'∉line) :
  Bfs rows gs p (line++[q']) (Vc dep q' (dep here+1))/\(∀ x∈line,Vc dep q' (dep here+1) x=dep x)/\∀ x∈line++[q'],Vc dep q' (dep here+1) x<=dep here+1:=by
 have old:∀ x∈line,Vc dep q' (dep here+1) x=dep x:=fun x hx=>by
  unfold Vc;rw[if_neg (fun (z:x=q')=>hn (by rw[<- z];exact hx))]
 have new:Vc dep q' (dep here+1) q'=dep here+1:=by unfold Vc;rw[if_pos rfl]
 have hhm:=ztg hh;have all:∀ x∈line++[q'],Vc dep q' (dep here+1) x<=dep here+1:=fun x hx=>by
  rcases zth.mp hx with z|z
  ·rw[old x z];exact near x z
  ·rw[zs9.mp z,new];exact ztb _
 refine⟨⟨G9 B.nodup hn,zty _ B.memp,by rw[old p B.memp];exact B.d0,fun q hq=>?_,fun i j x y hij hx hy=>?_⟩,old,all⟩
 ·rcases zth.mp hq with z|z
  ·rw[old q z];exact B.walk q z
  ·rw[zs9.mp z,new];exact .snoc (B.walk here hhm) a
 ·by_cases hj:j<line.length
  ·rw[zt8 hj] at hy;rw[zt8 ⋯] at hx;rw[old x (ztg hx),old y (ztg hy)];exact B.sorted i j x y hij hx hy
  ·rw[zt5 ⋯] at hy;have:y=q':=by
    cases e:j-line.length with
    | zero=>rw[e] at hy;simpa using hy.symm
    | succ m=>rw[e] at hy;simp at hy
   subst this;rw[new];exact all x (ztg hx)
theorem Done.app(D:Done rows gs line dep dn)(hd:dn<=line.length)(hl:∃ r,line'=line++r)(he:∀ x∈line,dep' x=dep x):Done rows gs line' dep' dn:=fun i q hi e n q' a=>by
 obtain⟨r,rfl⟩:=hl;rw[zt8 ⋯] at e;obtain⟨h1,h2⟩:=D i q hi e n q' a;exact⟨zty _ h1,by rw[he q' h1,he q (ztg e)];exact h2⟩
def Ur(rows:List (List Int))(gs:List V)(p:Nat)(line:List Nat)(dep:Nat->Nat)(fr:Nat->Option (Nat×Int)):Prop:=fr p=none/\∀ q∈line,q≠p->∃ par n,fr q=some (par,n)/\par∈line/\adjN rows gs par n q/\dep q=dep par+1
theorem Ur.back(d0:dep p=0)(F:Ur rows gs p line dep fr):∀ (d q e:Nat) (w:Option Int) (st:List (Nat×Option Int)),dep q=d->q∈line->Ch rows gs q st e w->∃ pre,Ch rows gs p (pre++st) e w/\pre.length=d:=fun d=>by
 induction d with
 | zero =>
   intro q e w st hd hq h;by_cases hp:q=p
   ·subst hp;exact⟨[],h,rfl⟩
   ·obtain⟨par,n,_,_,_,h4⟩:=F.2 q hq hp;omega
 | succ d ih =>
   intro q e w st hd hq h;by_cases hp:q=p
   ·subst hp;rw[d0] at hd;cases hd
   ·obtain⟨par,n,h1,h2,h3,h4⟩:=F.2 q hq hp;obtain⟨pre,h5,h6⟩:=ih par e w _ ⋯ h2 (.step h3 h);exact⟨pre++[(par,some n)],by rw[List.append_assoc];exact h5,by rw[zs8,h6];rfl⟩
theorem Bg{here:Nat}{n:Int}{st:List (Nat×Option Int)}(B:Bfs rows gs p line dep)(D:Done rows gs line dep dn)(hh:line[dn]?=some here)(hno:∀ (i q:Nat),i<dn->line[i]?=some q->¬ V3 rows gs q)(hf:Pf rows gs here n)(c:Ch rows gs p st here (some n))(hl:st.length=dep here+1):Y6 rows gs p st here (some n) :=
 ⟨c,fun m e=>by cases e;exact⟨hf,fun q k hk hq=>by rw[hl];exact B.fewest D hh hno hk hq⟩,(fun z=>nomatch z)⟩
theorem Bh{e:Nat}{st:List (Nat×Option Int)}(B:Bfs rows gs p line dep)(D:Done rows gs line dep line.length)(hno:∀ q∈line,¬ V3 rows gs q)(he:∀ q∈line,q<=e)(c:Ch rows gs p st e none)(hl:st.length=dep e+1):Y6 rows gs p st e none :=
 ⟨c,(fun m z=>nomatch z),fun _=>⟨fun q k hk=>hno q (B.full D hk).1,fun q k hk=>he q (B.full D hk).1,fun k hk=>by rw[hl];have:=(B.full D hk).2;omega⟩⟩
end
end G
namespace L2
open PySem PySem.Spec PyProof.Rows
inductive zg6(x:V)(vs:List V)(H:Hp)(Q:VK):Prop where
 | mk(l:Addr)(xs:List V)(y:V)(j:Nat)(_:x=.ref l)(_:vs=[y])(_:H l=some (.lst xs))(_:Rj y=true)(_:xs.all Rj=true)(_:(∃ z,xs[j]?=some z/\eqV z y=true))(_:(∀ m z,m<j->xs[m]?=some z->eqV z y=false))(_:Q (.int (j:Nat)) H)
theorem zc7:MtM X "list.index" zg6:=by
 intro pins s σ H x vs v us Q I rx rv h;obtain⟨l,xs,y,j,rfl,rfl,hH,fy,fs,⟨zj,hzj,hej⟩,hno,q⟩:=h;cases rx;obtain⟨u,rfl,ru⟩:=rv.one;obtain⟨z,its,n,r,hl,e⟩:=I.lstM hH;have hjx:j<xs.length:=(zs5.mp hzj).1;have hj:j<its.toArray.size:=by rw[zte];omega
 have hline:=Pb;have ev:∀ (m:Nat) (hm:m<its.toArray.size) (w:V),xs[m]?=some w->eqU y (its.toArray[m]'hm)=eqV w y:=fun m hm w hw=>by
  obtain⟨uu,hu,ruu⟩:=r.get hw;have:its.toArray[m]'hm=uu:=by
   have h1:its[m]?=some (its.toArray[m]'hm):=by simp
   rw[h1] at hu;exact Option.some.inj hu
  rw[this];refine C6 ruu ?_;exact List.all_eq_true.mp fs w (ztg hw)
 refine call_meets PySem.F.slot_list_index ⟨_,e,rfl⟩ PySem.F.entry_list_index (PySem.F.args_list_index_2 _ _) (SeqAt.list_indexAt l its.toArray n none #[] u (eqU y) j hj ⋯ (by rw[ev j hj zj hzj];exact hej) (fun m hm hmj=>?_)) ⟨e,fun w hw=>Oe ru fy r fs w (by simpa using hw),?_⟩
 ·have hmx:m<xs.length:=by rw[zte] at hm;omega
  have hw:xs[m]?=some (xs[m]'hmx):=zs4 hmx;rw[ev m hm _ hw];exact hno m _ hmj hw
 ·exact⟨.int (j:Nat),H,I.tok _,⟨_,rfl⟩,q⟩
end L2
namespace G
open PySem PySem.Spec PyProof.Rows L2
theorem ziq{H:Hp}{ts:List V}{st:List (Nat×Option Int)}{i:Nat}{s:Nat×Option Int}(h:Z0 H ts (st.map Vp))(e:st[i]?=some s):∃ t,ts[i]?=some (.ref t)/\H t=some (.tup (Vp s)):=by
 have e':(st.map Vp)[i]?=some (Vp s):=by rw[zta,e];rfl
 exact h.getR e'
theorem Lj(ho:oneV z):eqV z (.int n)=true↔z=.int n:=by
 rcases ho with rfl|⟨i,rfl⟩
 ·constructor
  ·intro h;cases h
  ·intro h;cases h
 ·show (i == n)=true↔_;constructor
  ·intro h;rw[beq_iff_eq.mp h]
  ·intro h;cases h;simp
theorem zc8(ho:∀ x∈gs,oneV x):inV (.int n) gs=true↔∃ j:Nat,gs[j]?=some (V.int n):=by
 unfold inV;rw[zuu];constructor
 ·rintro⟨z,hz,e⟩;obtain⟨j,hj,rfl⟩:=zud hz;exact⟨j,by rw[zs4 hj,(Lj (ho _ hz)).mp e]⟩
 ·rintro⟨j,hj⟩;have:=ztg hj;exact⟨_,this,(Lj (ho _ this)).mpr rfl⟩
structure zj4(rows:List (List Int))(gs:List V)(i:Nat):Prop where
 len:gs.length=i
 one:∀ x∈gs,oneV x
 may:∀ (k:Nat) (n:Int),gs[k]?=some (.int n)->∃ r,rows[k]?=some r/\n∈r
 inj:∀ (j k:Nat) (n:Int),gs[j]?=some (.int n)->gs[k]?=some (.int n)->j=k
theorem Yl.drop(F:Yl rows gs)(p:Nat):Yl rows (gs.set p .non):=by
 have cs:∀ (k:Nat) (n:Int),(gs.set p .non)[k]?=some (.int n)->k≠p/\gs[k]?=some (.int n):=fun k n h=>by
  by_cases e:k=p
  ·subst e;by_cases hk:k<gs.length
   ·rw[zt4 hk] at h;cases h
   ·rw[List.getElem?_eq_none (by rw[zuh];omega)] at h;cases h
  ·rw[zt2 (Ne.symm e)] at h;exact⟨e,h⟩
 refine⟨by rw[zuh];exact F.len,fun x hx=>?_,fun k n h=>F.may k n (cs k n h).2,fun j k n h1 h2=>F.inj j k n (cs j n h1).2 (cs k n h2).2⟩;rcases List.mem_or_eq_of_mem_set hx with z|z
 ·exact F.one x z
 ·exact .inl z
theorem Yl.without(F:Yl rows gs)(hx:gs[p]?=some x)(f:Int->Bool)(hf:∀ n,f n=false->x=.int n):Yl (rows.map fun r=>r.filter f) (gs.set p .non):=by
 have D:=F.drop p;refine⟨by rw[zs3];exact D.len,D.one,fun k n h=>?_,D.inj⟩;obtain⟨r,h1,h2⟩:=D.may k n h;refine⟨r.filter f,by rw[zta,h1];rfl,zt9.mpr ⟨h2,?_⟩⟩;cases e:f n with
 | true=>rfl
 | false =>
   have hx':=hf n e;subst hx';have hk:k≠p:=fun z=>by
    subst z;rw[zt4 (zs5.mp hx).1] at h;cases h
   rw[zt2 (Ne.symm hk)] at h;exact absurd (F.inj k p n h hx) hk
def Y9(xs:List Nat):List V:=xs.map fun k=>V.int (k:Nat)
end G
namespace G
open PySem PySem.Spec PyProof.Rows L2
inductive Fl(K:Frag)(vs:List V)(H:Hp)(Q:VK)(_:XK):Prop where
 | mk(l lg:Addr)(ls:List Addr)(rows:List (List Int))(nu:List Int)(gs:List V)(p:Nat)(_:vs=[.ref l,.ref lg,.int p])(_:H l=some (.lst (ls.map V.ref)))(_:ILs H ls rows)(_:R0 rows nu)(_:H lg=some (.lst gs))(_:Yl rows gs)(_:p<rows.length)(_:gs[p]?=some .non)(_:∀ lt ts st e w H',H' lt=some (.lst ts)->Z0 H' ts (st.map Vp)->Y6 rows gs p st e w->Same H H'->H lt=none->Q (.ref lt) H')
theorem Y6.len{rows:List (List Int)}{gs:List V}{p e:Nat}{st:List (Nat×Option Int)}{w:Option Int}(FP:Yl rows gs)(hp:p<rows.length)(c:Y6 rows gs p st e w):st.length<=rows.length:=by
 have hlt:=c.ch.lt FP hp;have:=c.nodup.length_le_of_subset (l₂:=List.range rows.length) fun x hx=>by
  obtain⟨s,hs,rfl⟩:=ztd.mp hx;exact zt7.mpr (hlt s hs)
 rw[zs3,zt0] at this;exact this
end G
namespace L2
open PySem PySem.Spec PyProof.Rows
section
variable{X:Cx}{pins:List (Addr×Obj)}{σ:List (Option V)}{H H':Hp}{s:Shared}{h':Heap}
theorem Inv.turnedL{t':Nat}{fp:List Addr}(I:Inv X pins σ H s)(hf:∀ b∈fp,FpOk X pins H b)(k:∀ b o,b∉fp->s.heap.get? b=some o->h'.get? b=some o):Inv X pins σ H { s with heap:=h',toks:=t' }:=by
 have nit:∀ b u,H b=some u->b∉fp:=fun b u e z=>by rw[(hf b z).1] at e;cases e
 refine I.step (g':=s.gens) (d':=s.drawn) (ch:=fp) (fun b hb=>?_) (fun b o _ _ hc e _=>k b o hc e) (fun b o _ _ hc e _=>⟨o.slots,k b o hc e⟩) (fun _ _ _ _ n=>n)
  (fun b o hc e=>⟨o,k b o hc e⟩) (fun _ _ e=>e) (fun _ _ _ e=>e) (fun b ps e=>⟨#[],by rw[e];simp⟩) (fun m hm=>?_) (fun b u e=>?_) I.bare
 ·obtain⟨f0,f1,f2,f3,f4,f5⟩:=hf b hb;exact⟨f3,f1,f4,f5⟩
 ·obtain⟨o,es,ep,ho,r⟩:=hm;exact⟨o,es,ep,k _ o (fun z=>(hf _ z).2.1 rfl) ho,r⟩
 ·refine(I.hok b u e).stay (fun c v hc q=>k c v ?_ q) (fun _ q=>q) fun _ _ q=>q;rcases hc with z|z
  ·rw[z];exact nit b u e
  ·exact nit c _ z
theorem Inv.turnLay{t':Nat}{fp:List Addr}{a:Addr}{o:HO}(I:Inv X pins σ H s)(hf:∀ b∈fp,FpOk X pins H b)(k:∀ b o,b∉fp->s.heap.get? b=some o->h'.get? b=some o)(hp:s.heap.objs.size<=a)(new:Ym X.prog X.w (upd H a o) h' a o):Inv X pins σ (upd H a o) { s with heap:=h',toks:=t' }:=by
 have nit:∀ b u,H b=some u->b∉fp:=fun b u e z=>by rw[(hf b z).1] at e;cases e
 have hn:H a=none:=I.hok.fresh hp;have ne:∀ b u,s.heap.get? b=some u->b≠a:=fun b u e=>ztv (ztm (Heap.lt_size e) hp);refine I.step (g':=s.gens) (d':=s.drawn) (ch:=fp) (fun b hb=>?_) (fun b o _ _ hc e _=>k b o hc e) (fun b o _ _ hc e _=>⟨o.slots,k b o hc e⟩) (fun b u _ e n=>by rw[Zi (ne b u e)];exact n)
  (fun b o hc e=>⟨o,k b o hc e⟩) (fun b _ e=>by rw[Zi (Zg e hn)];exact e) (fun b _ _ e=>by rw[Zi (Zg e hn)];exact e) (fun b ps e=>⟨#[],by rw[Zi (Zg e hn),e];simp⟩) (fun m hm=>?_) (fun b u e=>?_) I.bare
 ·obtain⟨f0,f1,f2,f3,f4,f5⟩:=hf b hb;exact⟨f3,f1,f4,f5⟩
 ·obtain⟨o,es,ep,ho,r⟩:=hm;exact⟨o,es,ep,k _ o (fun z=>(hf _ z).2.1 rfl) ho,r⟩
 ·by_cases hb:b=a
  ·subst hb;rw[Zd] at e;cases e;exact new
  ·rw[Zi hb] at e;refine(I.hok b u e).stay (fun c v hc q=>k c v ?_ q) (fun c q=>by rw[Zi (Zg q hn)];exact q) fun c _ q=>by rw[Zi (Zg q hn)];exact q
   rcases hc with z|z
   ·rw[z];exact nit b u e
   ·exact nit c _ z
end
def Ite(K:Frag)(a:Addr):It :=
 ⟨fun i H=>∃ xs x,SqL K H a xs/\xs[i]?=some x,fun i H x H'=>∃ p y,H p=none/\(∀ xs,SqL K H a xs->xs[i]?=some y)/\x=.ref p/\H'=upd H p (.tup [.int (i:Nat),y]),fun i H=>∃ xs,SqL K H a xs/\xs.length<=i⟩
theorem za8{P:Program}{w:World}{K:Frag}{elts:List Expr}{k:Nat}{tp:Pos}(a e it:Addr)(hne:e≠it):Ec P w K (.Tuple elts k tp) (Ite K a) [e,it] e (fun i h=>(∃ old,IsEnum h e it (i:Nat) old)/\h.IsListIter it a i) where
 mem:=by simp
 obj:=fun i h st b hb=>by
  obtain⟨⟨old,h1⟩,h2⟩:=st;have e:b=e\/b=it:=by simpa using hb
  rcases e with rfl|rfl
  ·exact⟨_,h1,fun v z=>by cases z⟩
  ·obtain⟨o,e,c,d⟩:=h2;exact⟨o,e,fun v z=>by rw[d] at z;cases z⟩
 keep:=fun i h h' st k=>⟨let ⟨old,h1⟩:=st.1;⟨old,k e (by simp) _ h1⟩,st.2.at fun o q=>k it (by simp) o q⟩
 item:=by
  intro X hP hw hK hc i pins s σ H E I hf st hg;subst hP hw hK;obtain⟨xs,x,hq,hx⟩:=hg;obtain⟨its,rv,p,hz⟩:=I.list hq;obtain⟨u,hu,ru⟩:=rv.get hx;obtain⟨⟨old,h1⟩,h2⟩:=st;refine wpAny_pyNext_enum_item h1 h2 p.isList (x:=u) (by simpa using hu) hne fun h' o1 o2 o3 o4 o5=>?_;refine⟨_,rfl,wpAny_letOwnedTupleGo_enum o1 fun h'' e1 sb=>?_⟩;have hes:e≠s.heap.objs.size:=fun z=>by
   exact zuk _ (z▸Heap.lt_size h1)
  have kk:∀ b o,b∉[e,it]->s.heap.get? b=some o->h''.get? b=some o:=fun b o hb q=>by
   have hb':b≠e/\b≠it:=by simpa using hb
   exact(sb.2 b hb'.1).trans (o5 b o hb'.1 hb'.2 q)
  have new:h''.get? s.heap.objs.size=some { cls:=Value.type "tuple",data:=Data.seq #[Value.int (i:Nat) s.toks,u] }:=(sb.2 _ (Ne.symm hes)).trans o3;have line:=Pb;refine⟨.ref s.heap.objs.size,_,I.turnLay (t':=s.toks+1) (o:=.tup [.int (i:Nat),x]) hf kk (ztb _) ⟨?_,_,.cons ⟨s.toks,rfl⟩ (.cons ru .nil),⟨_,new,rfl,_,rfl⟩⟩,rfl,⟨_,x,I.hok.fresh (ztb _),fun ys hy=>by rw[I.list_inj hy hq];exact hx,rfl,rfl⟩,⟨⟨u,e1⟩,o2.at fun o q=>(sb.2 it (Ne.symm hne)).trans q⟩,fun b hb=>?_⟩
  ·show 2<=sizeLine;rw[sizeLine_eq];decide
  ·have hb':b=e\/b=it:=by simpa using hb
   have hlt:b<s.heap.objs.size:=by
    rcases hb' with rfl|rfl
    ·exact Heap.lt_size h1
    ·obtain⟨o,q,_⟩:=h2;exact Heap.lt_size q
   rw[Zi (ztv hlt)];exact(hf b hb).1
 done:=by
  intro X hP hw hK hc i pins s σ H E I hf st hg;subst hP hw hK;obtain⟨xs,hq,hx⟩:=hg;obtain⟨its,rv,p,hz⟩:=I.list hq;obtain⟨⟨old,h1⟩,h2⟩:=st;have hl:=rv.length;exact wpAny_pyNext_enum_end (I.ok.hd hc) h1 h2 p.isList (by simp;omega) fun h' eb=>⟨rfl,I.turnedL (t':=s.toks) hf fun b o hb q=>eb b o (fun z=>hb (by simp[z])) q⟩
 self:=fun _ _ _ _ _ st h=>by
  obtain⟨⟨old,h1⟩,h2⟩:=st;exact wpAny_pyIter_enum h1 h
inductive zg7(K:Frag)(R:It->Hp->Prop)(vs:List V)(H1:Hp):Prop where
 | mk(a)(_:vs=[.ref a])(_:(∃ xs,SqL K H1 a xs))(_:R (Ite K a) H1)
def zir(K:Frag)(ta:TA):TI:=fun σ H R=>ta σ H fun vs H1=>zg7 K R vs H1
theorem Aq{X:Cx}{K:Frag}{elts:List Expr}{k:Nat}{tp:Pos}{a:Expr}{ta:TA}{p pos:Pos}(hK:X.K=K)(hg:Gl X "enumerate")(hm:X.mg "enumerate"=none)(ha:PA X [a] ta)(hs:starEach [a] X.env=[(false,eval a X.env)]:=by rfl):PI X (.Tuple elts k tp) (.Call (.Name "enumerate" p) [a] [] pos) (zir K ta):=by
 subst hK;intro pins s σ H R I h;refine Call_ (Q8 I hg hm boot_enumerate (PyProof.Rows.callWith_type1 (thn (ha pos pins s σ H _ I h) fun us s1 ⟨vs,H1,I1,r1,q1⟩=>?_) hs rfl));obtain⟨a,e,⟨xs,hq⟩,q⟩:=q1;subst e;obtain⟨u,rfl,ru⟩:=Tg r1;cases ru;obtain⟨its,rv,pl,hz⟩:=I1.list hq;refine call_enumerate_list pl.isList fun h' e1 e2 e3 e4=>?_;refine wpAny_pyIter_enum e1 ?_;refine⟨_,[s1.heap.objs.size+1,s1.heap.objs.size],_,_,H1,rfl,I1.kept (t':=s1.toks) e4,za8 a _ _ (Nat.succ_ne_self _),⟨⟨_,e1⟩,e2⟩,fun b hb=>?_,q⟩;have e:b=s1.heap.objs.size+1\/b=s1.heap.objs.size:=by simpa using hb
 rcases e with rfl|rfl
 ·exact I1.fpOk (Nat.le_succ _) (I1.hok.fresh (Nat.le_succ _))
 ·exact I1.fpOk (ztb _) (I1.hok.fresh (ztb _))
theorem zc9{K:Frag}{a:Addr}{xs:List V}{g:TG}{tb:TS}{D:Oa}{σ:St}{H:Hp}(Pv:Nat->St->Hp->Prop)(h0:Pv 0 σ H)(hl:∀ i σ H,i<=xs.length->Pv i σ H->SqL K H a xs)
  (hs:∀ i x p σ H,xs[i]?=some x->Pv i σ H->H p=none->g (.ref p) σ (upd H p (.tup [.int (i:Nat),x])) fun σ2 H2=>tb { D with nx:=Pv (i+1),ct:=Pv (i+1),bk:=D.nx } σ2 H2) (hd:∀ σ H,Pv xs.length σ H->D.nx σ H) :
  ∃ W:Nat->Nat->St->Hp->Prop,(∃ m,W 0 m σ H)/\∀ i m σ H,W i m σ H ->
    ((Ite K a).stop i H/\D.nx σ H)\/((Ite K a).go i H/\∃ N:St->Hp->Prop,(∀ σ' H',N σ' H'->∃ m',m' < m/\W (i+1) m' σ' H')/\∀ x H',(Ite K a).yld i H x H'->g x σ H' fun σ2 H2=>tb { D with nx:=N,ct:=N,bk:=D.nx } σ2 H2):=by
 refine⟨fun i m σ H=>m=xs.length-i/\i<=xs.length/\Pv i σ H,⟨xs.length,by simp,ztt _,h0⟩,?_⟩;rintro i m σ H ⟨rfl,hi,p⟩;have q:=hl i σ H hi p;by_cases hlt:i<xs.length
 ·refine .inr ⟨⟨xs,xs[i],q,by simp[hlt]⟩,Pv (i+1),fun σ' H' p'=>⟨xs.length-(i+1),by omega,rfl,hlt,p'⟩,fun x H' y=>?_⟩;obtain⟨t,y,h1,h2,rfl,rfl⟩:=y;exact hs i y t σ _ (h2 xs q) p h1
 ·have e:i=xs.length:=by omega
  subst e;exact .inl ⟨⟨xs,q,ztb _⟩,hd σ H p⟩
def Itz(K:Frag)(a b:Addr):It :=
 ⟨fun i H=>∃ xs ys x y,SqL K H a xs/\SqL K H b ys/\xs[i]?=some x/\ys[i]?=some y,fun i H x H'=>∃ p y z,H p=none/\(∀ xs,SqL K H a xs->xs[i]?=some y)/\(∀ ys,SqL K H b ys->ys[i]?=some z)/\x=.ref p/\H'=upd H p (.tup [y,z]),
  fun i H=>∃ xs ys,SqL K H a xs/\SqL K H b ys/\(xs.length<=i\/ys.length<=i)⟩
theorem zda{P:Program}{w:World}{K:Frag}{elts:List Expr}{k:Nat}{tp:Pos}(l1 l2 z TI TO i1 i2:Addr)(hz:ZipApart z TI TO i1 i2 l1 l2):Ec P w K (.Tuple elts k tp) (Itz K l1 l2) [z,TO,i1,i2,TI] z
  (fun i h=>IsZip h z TI TO Value.none/\IsPair h TI (Value.ref i1) (Value.ref i2)/\(∃ a b,IsPair h TO a b)/\h.IsListIter i1 l1 i/\h.IsListIter i2 l2 i) where
 mem:=by simp
 obj:=fun i h st b hb=>by
  obtain⟨h1,h2,⟨a,b',h3⟩,h4,h5⟩:=st;have e:b=z\/b=TO\/b=i1\/b=i2\/b=TI:=by simpa using hb
  rcases e with rfl|rfl|rfl|rfl|rfl
  ·exact⟨_,h1,fun v z=>by cases z⟩
  ·exact⟨_,h3,fun v z=>by cases z⟩
  ·obtain⟨o,e,c,d⟩:=h4;exact⟨o,e,fun v z=>by rw[d] at z;cases z⟩
  ·obtain⟨o,e,c,d⟩:=h5;exact⟨o,e,fun v z=>by rw[d] at z;cases z⟩
  ·exact⟨_,h2,fun v z=>by cases z⟩
 keep:=fun i h h' st k=>by
  obtain⟨h1,h2,⟨a,b',h3⟩,h4,h5⟩:=st;exact⟨k z (by simp) _ h1,k TI (by simp) _ h2,⟨a,b',k TO (by simp) _ h3⟩,h4.at fun o q=>k i1 (by simp) o q,h5.at fun o q=>k i2 (by simp) o q⟩
 item:=by
  intro X hP hw hK hc i pins s σ H E I hf st hg;subst hP hw hK;obtain⟨xs,ys,x,y,hq,hq2,hx,hy⟩:=hg;obtain⟨its,rv,p,_⟩:=I.list hq;obtain⟨its2,rv2,p2,_⟩:=I.list hq2;obtain⟨u,hu,ru⟩:=rv.get hx;obtain⟨u2,hu2,ru2⟩:=rv2.get hy;obtain⟨h1,h2,⟨a,b',h3⟩,h4,h5⟩:=id st;refine wpAny_pyNext_zip_item hz h1 h2 h3 h4 h5 p.isList p2.isList (x:=u) (y:=u2) (by simpa using hu) (by simpa using hu2) fun h' o1 o2 o3 o4 o5 o6 o7=>?_;refine⟨_,rfl,wpAny_letOwnedTupleGo_zip o1 fun h'' e1 sb=>?_⟩;have lt:∀ b o,s.heap.get? b=some o->b≠s.heap.objs.size:=fun b o q=>ztv (Heap.lt_size q);have kk:∀ b o,b∉[z,TO,i1,i2,TI]->s.heap.get? b=some o->h''.get? b=some o:=fun b o hb q=>by
   have hb':b≠z/\b≠TO/\b≠i1/\b≠i2/\b≠TI:=by simpa using hb
   exact(sb.2 b hb'.1).trans (o7 b o hb'.1 hb'.2.1 hb'.2.2.1 hb'.2.2.2.1 q)
  have new:h''.get? s.heap.objs.size=some { cls:=Value.type "tuple",data:=Data.seq #[u,u2] }:=(sb.2 _ (Ne.symm (lt _ _ h1))).trans o5;refine⟨.ref s.heap.objs.size,_,I.turnLay (t':=s.toks) (o:=.tup [x,y]) hf kk (ztb _) ⟨?_,_,.cons ru (.cons ru2 .nil),⟨_,new,rfl,_,rfl⟩⟩,rfl,⟨_,x,y,I.hok.fresh (ztb _),fun zs hy'=>by rw[I.list_inj hy' hq];exact hx,fun zs hy'=>by rw[I.list_inj hy' hq2];exact hy,rfl,rfl⟩,
   ⟨e1,(sb.2 _ hz.TIz).trans (o7 _ _ hz.TIz hz.TITO hz.TIi1 hz.TIi2 h2),⟨_,_,(sb.2 _ hz.TOz).trans o2⟩,o3.at fun o q=>(sb.2 _ hz.i1z).trans q,o4.at fun o q=>(sb.2 _ hz.i2z).trans q⟩,fun b hb=>?_⟩
  ·show 2<=sizeLine;rw[sizeLine_eq];decide
  ·have hne:b≠s.heap.objs.size:=by
    have e:b=z\/b=TO\/b=i1\/b=i2\/b=TI:=by simpa using hb
    rcases e with rfl|rfl|rfl|rfl|rfl
    ·exact lt _ _ h1
    ·exact lt _ _ h3
    ·obtain⟨o,q,_⟩:=h4;exact lt _ _ q
    ·obtain⟨o,q,_⟩:=h5;exact lt _ _ q
    ·exact lt _ _ h2
   rw[Zi hne];exact(hf b hb).1
 done:=by
  intro X hP hw hK hc i pins s σ H E I hf st hg;subst hP hw hK;obtain⟨xs,ys,hq,hq2,hx⟩:=hg;obtain⟨its,rv,p,_⟩:=I.list hq;obtain⟨its2,rv2,p2,_⟩:=I.list hq2;obtain⟨h1,h2,⟨a,b',h3⟩,h4,h5⟩:=st;have hl:=rv.length;have hl2:=rv2.length;exact wpAny_pyNext_zip_end (I.ok.hd hc) hz h1 h2 h3 h4 h5 p.isList p2.isList (hx.imp (fun z=>by simp;omega) fun z=>by simp;omega) fun h' eb=>⟨rfl,I.turnedL (t':=s.toks) hf fun b o hb q=>by
   have hb':b≠z/\b≠TO/\b≠i1/\b≠i2/\b≠TI:=by simpa using hb
   exact eb b o hb'.1 hb'.2.1 hb'.2.2.1 hb'.2.2.2.1 q⟩
 self:=fun _ _ _ _ _ st h=>wpAny_pyIter_zip st.1 h
inductive zis(K:Frag)(R:It->Hp->Prop)(vs:List V)(H1:Hp):Prop where
 | mk(a)(b)(_:vs=[.ref a,.ref b])(_:(∃ xs,SqL K H1 a xs))(_:(∃ ys,SqL K H1 b ys))(_:R (Itz K a b) H1)
def zjp(K:Frag)(ta:TA):TI:=fun σ H R=>ta σ H fun vs H1=>zis K R vs H1
theorem zg8{X:Cx}{K:Frag}{elts:List Expr}{k:Nat}{tp:Pos}{a b:Expr}{ta:TA}{p pos:Pos}(hK:X.K=K)(hg:Gl X "zip")(hm:X.mg "zip"=none)(ha:PA X [a,b] ta)(hs:starEach [a,b] X.env=[(false,eval a X.env),(false,eval b X.env)]:=by rfl)(hs2:starEach [b] X.env=[(false,eval b X.env)]:=by rfl):PI X (.Tuple elts k tp) (.Call (.Name "zip" p) [a,b] [] pos) (zjp K ta):=by
 subst hK;intro pins s σ H R I h;refine Call_ (Q8 I hg hm boot_zip (PyProof.Rows.callWith_type1 (thn (ha pos pins s σ H _ I h) fun us s1 ⟨vs,H1,I1,r1,q1⟩=>?_) (by rw[hs,hs2]) (by rw[hs2];rfl)));obtain⟨a,b,e,⟨xs,hq⟩,⟨ys,hq2⟩,q⟩:=q1;subst e;cases r1 with
 | cons r rr =>
   obtain⟨u,rfl,ru⟩:=Tg rr;cases r;cases ru;obtain⟨its,rv,pl,hz⟩:=I1.list hq;obtain⟨its2,rv2,pl2,hz2⟩:=I1.list hq2;have lt1:@LT.lt Nat _ a s1.heap.objs.size:=by obtain⟨_,e,_⟩:=pl.isList;exact Heap.lt_size e
   have lt2:@LT.lt Nat _ b s1.heap.objs.size:=by obtain⟨_,e,_⟩:=pl2.isList;exact Heap.lt_size e
   refine call_zip_2 pl.isList pl2.isList fun h' e1 e2 e3 e4 e5 e6 e7=>?_;refine wpAny_pyIter_zip e1 ?_;refine⟨_,[s1.heap.objs.size+4,s1.heap.objs.size+3,s1.heap.objs.size,s1.heap.objs.size+1,s1.heap.objs.size+2],_,_,H1,rfl,I1.kept (t':=s1.toks) e7,zda a b _ _ _ _ _ ?_,⟨e1,e2,⟨_,_,e3⟩,e4,e5⟩,fun c hb=>?_,q⟩
   ·refine⟨?_,?_,?_,?_,?_,?_,?_,?_,?_,?_,?_,?_,?_,?_,?_,?_,?_,?_⟩<;>(show @Ne Nat _ _;omega)
   have e:c=s1.heap.objs.size+4\/c=s1.heap.objs.size+3\/c=s1.heap.objs.size\/c=s1.heap.objs.size+1\/c=s1.heap.objs.size+2:=by simpa using hb
   have hle:s1.heap.objs.size<=c:=by rcases e with rfl|rfl|rfl|rfl|rfl<;>omega
   exact I1.fpOk hle (I1.hok.fresh hle)
section
variable{X:Cx}{pins:List (Addr×Obj)}{σ:List (Option V)}{H H':Hp}{s:Shared}{h':Heap}
theorem Inv.freeze(I:Inv X pins σ H s)(e:H a=some (.dK kvs))(ho:s.heap.get? a=some o):Inv X pins σ (upd H a (.frz o (.dK kvs))) s:=by
 have na:∀ b u,H b=some u->u≠.dK kvs->b≠a:=fun b u q n z=>by subst z;rw[q] at e;exact n (Option.some.inj e)
 refine I.un (h':=s.heap) (t':=s.toks) ⟨fun b o q _ _ _=>q,fun b o q _ _ _=>⟨o.slots,q⟩,fun b o q n _=>?_,fun b o q _=>⟨o,q⟩,fun b ys q=>?_,fun b o v q=>?_,fun b ps q=>⟨#[],?_⟩⟩ fun b u q=>?_
 ·rw[Zi (fun z=>by subst z;rw[n] at e;cases e)];exact n
 ·rw[Zi (na b _ q fun z=>nomatch z)];exact q
 ·rw[Zi (na b _ q fun z=>nomatch z)];exact q
 ·rw[Zi (na b _ q fun z=>nomatch z),q];simp
 ·have stay:∀ {b u},Ym X.prog X.w H s.heap b u->Ym X.prog X.w (upd H a (.frz o (.dK kvs))) s.heap b u:=fun {b u} k=>k.stay (fun _ _ _ q=>q) (fun c q=>by rw[Zi (na c _ q fun z=>nomatch z)];exact q) fun c _ q=>by rw[Zi (na c _ q fun z=>nomatch z)];exact q
  by_cases hb:b=a
  ·subst hb;rw[Zd] at q;cases q;exact⟨ho,stay (I.hok b _ e)⟩
  ·rw[Zi hb] at q;exact stay (I.hok b u q)
end
def Itk(a:Addr)(o:Obj)(kvs:List (Key×V)):It :=
 ⟨fun i H=>H a=some (.frz o (.dK kvs))/\i<kvs.length,fun i H x H'=>H'=H/\∃ p,kvs[i]?=some p/\x=kV p.1,fun i H=>H a=some (.frz o (.dK kvs))/\kvs.length<=i⟩
theorem zdb(I:Inv X pins σ H s)(e:H a=some (.frz o (.dK kvs))):∃ vs,KV kvs vs/\∃ es ep,o.data=.dict es ep/\s.heap.DictAt (Yd X.prog X.w) a vs ep:=by
 obtain⟨h1,hz,hm,vs,kv,o',es,ep,h2,h3,h4,h5⟩:=(show Ym X.prog X.w H s.heap a (.frz o (.dK kvs)) from I.hok a _ e);rw[h1] at h2;cases h2;exact⟨vs,kv,es,ep,h4,o,es,h1,h3,h4,h5⟩
theorem za9{P:Program}{w:World}{K:Frag}{tg:Expr}(a it:Addr)(o:Obj)(kvs:List (Key×V))(es:Array DictEntry)(ep:Nat)(ho:o.data=.dict es ep):Ec P w K tg (Itk a o kvs) [it] it (fun i h=>h.IsKeyIter it a i kvs.length ep) where
 mem:=by simp
 obj:=fun i h st b hb=>by
  have e:b=it:=by simpa using hb
  subst e;obtain⟨o,e,c,d⟩:=st;exact⟨o,e,fun v z=>by rw[d] at z;cases z⟩
 keep:=fun i h h' st k=>by
  obtain⟨o,e,c,d⟩:=st;exact⟨o,k it (by simp) o e,c,d⟩
 item:=by
  intro X hP hw hK hc i pins s σ H E I hf st hg;subst hP hw hK;obtain⟨hq,hi⟩:=hg;obtain⟨vs,kv,es',ep',h1,h2⟩:=zdb I hq;rw[ho] at h1;cases h1;obtain⟨f0,f1,f2,f3,f4,f5⟩:=hf it (by simp);have hl:kvs.length=vs.length:=KV.length kv;have hv:i<vs.length:=by omega
  obtain⟨⟨k,v⟩,hkv⟩:∃ kv,vs[i]'hv=kv:=⟨_,rfl⟩;rw[hl] at st;refine wpAny_pyNext_dict_item st h2 (k:=k) (v:=v) (by rw[zs4 hv,hkv]) fun key h' hk st' sb=>?_;have I1:Inv X pins σ H { s with heap:=h' }:=I.turned (t':=s.toks) (fun b o hb e=>(sb.2 b hb).trans e) f0 f1 f3 f4 f5;obtain⟨o2,e2,c2,d2⟩:=id st';have ek:=congrArg (·[i]?) (KV.keys kv);simp only[zta,zs4 hv,zs4 hi,hkv,zt6] at ek;refine⟨key,rfl,zb4 (s:={ s with heap:=h' }) e2 c2 d2 ⋯ ⟨kV (kvs[i]'hi).1,H,I1,?_,⟨rfl,_,zs4 hi,rfl⟩,by rw[hl];exact st',fun b hb=>(hf b hb).1⟩⟩;have e3:(kvs[i]'hi).1=k:=Option.some.inj ek;rw[e3];rcases Yn hk with ⟨j,t,rfl,rfl⟩|⟨z,t,rfl,rfl⟩
  ·exact⟨t,rfl⟩
  ·exact⟨t,rfl⟩
 done:=by
  intro X hP hw hK hc i pins s σ H E I hf st hg;subst hP hw hK;obtain⟨hq,hi⟩:=hg;obtain⟨vs,kv,es',ep',h1,h2⟩:=zdb I hq;rw[ho] at h1;cases h1;obtain⟨f0,f1,f2,f3,f4,f5⟩:=hf it (by simp);have hl:kvs.length=vs.length:=KV.length kv;rw[hl] at st;exact wpAny_pyNext_dict_end (I.ok.hd hc) st h2 (List.getElem?_eq_none ⋯) fun h' eb=>⟨rfl,I.turned (t':=s.toks) (fun b o hb e=>eb b o hb e) f0 f1 f3 f4 f5⟩
 self:=fun _ _ _ _ _ st h=>wpAny_pyIter_keyiter st h
inductive zg9(R:It->Hp->Prop)(x:V)(H1:Hp):Prop where
 | mk(a)(kvs)(_:x=.ref a)(_:H1 a=some (.dK kvs))(_:∀ o,R (Itk a o kvs) (upd H1 a (.frz o (.dK kvs))))
def zit(tl:TE):TI:=fun σ H R=>tl σ H fun x H1=>zg9 R x H1
theorem Ar{X:Cx}{tg:Expr}{l:Expr}{tl:TE}(hl:PE X l tl):PI X tg l (zit tl):=by
 intro pins s σ H R I h;refine thn (hl pins s σ H _ I h) fun v s1 ⟨x,H1,I1,r1,q1⟩=>?_;obtain⟨a,kvs,e,hq,q⟩:=q1;subst e;cases r1;obtain⟨hz,hm,vs,kv,o,es,ep,h2,h3,h4,h5⟩:=(show Ym X.prog X.w H1 s1.heap a (.dK kvs) from I1.hok a _ hq);have hl:kvs.length=vs.length:=KV.length kv;have I2:=I1.freeze hq h2;refine wpAny_pyIter_dict hm ⟨o,es,h2,h3,h4,h5⟩ ?_;refine⟨s1.heap.objs.size,[s1.heap.objs.size],_,_,_,rfl,I2.kept (t':=s1.toks) fun b o e=>Heap.get?_push_of_some _ e,za9 a _ o kvs es ep h4,⟨_,Heap.get?_push_size _ rfl,rfl,by rw[hl];rfl⟩,fun b hb=>?_,q o⟩;have e:b=s1.heap.objs.size:=by simpa using hb
 subst e;exact I2.fpOk (ztb _) (I2.hok.fresh (ztb _))
theorem E5{a:Addr}{o:Obj}{kvs:List (Key×V)}{g:TG}{tb:TS}{D:Oa}{σ:St}{H:Hp}(Pv:Nat->St->Hp->Prop)(h0:Pv 0 σ H)(hl:∀ i σ H,i<=kvs.length->Pv i σ H->H a=some (.frz o (.dK kvs)))
  (hs:∀ i k v σ H,kvs[i]?=some (k,v)->Pv i σ H->g (kV k) σ H fun σ2 H2=>tb { D with nx:=Pv (i+1),ct:=Pv (i+1),bk:=D.nx } σ2 H2) (hd:∀ σ H,Pv kvs.length σ H->D.nx σ H) :
  ∃ W:Nat->Nat->St->Hp->Prop,(∃ m,W 0 m σ H)/\∀ i m σ H,W i m σ H ->
    ((Itk a o kvs).stop i H/\D.nx σ H)\/((Itk a o kvs).go i H/\∃ N:St->Hp->Prop,(∀ σ' H',N σ' H'->∃ m',m' < m/\W (i+1) m' σ' H')/\∀ x H',(Itk a o kvs).yld i H x H'->g x σ H' fun σ2 H2=>tb { D with nx:=N,ct:=N,bk:=D.nx } σ2 H2):=by
 refine⟨fun i m σ H=>m=kvs.length-i/\i<=kvs.length/\Pv i σ H,⟨kvs.length,by simp,ztt _,h0⟩,?_⟩;rintro i m σ H ⟨rfl,hi,p⟩;have q:=hl i σ H hi p;by_cases hlt:i<kvs.length
 ·refine .inr ⟨⟨q,hlt⟩,Pv (i+1),fun σ' H' p'=>⟨kvs.length-(i+1),by omega,rfl,hlt,p'⟩,fun x H' y=>?_⟩;obtain⟨e,⟨k,v⟩,y,rfl⟩:=y;subst e;exact hs i k v σ _ y p
 ·have e:i=kvs.length:=by omega
  subst e;exact .inl ⟨⟨q,ztb _⟩,hd σ H p⟩
theorem zba(hc:X.calm=true):Wf X (.builtin "max") (fun xs H Q=>∃ (l:Addr) (kvs:List (Key×V)) (ns:List Int),xs=[.ref l]/\Rd H l (.dK kvs)/\kvs.map (·.1)=ns.map inl/\0<ns.length/\∀ M,M∈ns->(∀ a∈ns,a<=M)->Q (.int M) H):=by
 intro pins s σ H xs us Q I r h;obtain⟨l,kvs,ns,rfl,hl,hns,hpos,q⟩:=h;obtain⟨u,rfl,ru⟩:=Tg r;cases ru;obtain⟨hz,hm,vs,kv,o,es,ep,h2,h3,h4,h5⟩:=Rv I.hok hl;have hlen:vs.length=ns.length:=by
  have e1:=KV.length kv;have e2:=congrArg List.length hns;rw[zs3,zs3] at e2;omega
 have hlt:l<s.heap.objs.size:=Heap.lt_size h2;have da:s.heap.DictAt (Yd X.prog X.w) l vs ep:=⟨o,es,h2,h3,h4,h5⟩;have val:∀ (i:Nat) (v:Value),(∃ k y,vs[i]?=some (k,y)/\(Yd X.prog X.w).is k v=true)->∃ t,v=.int (ns.getD i 0) t:=fun i v ⟨k,y,hk,hv⟩=>by
  have e1:=congrArg (·[i]?) (KV.keys kv);have e2:=congrArg (·[i]?) hns;simp only[zta,hk,zt6] at e1 e2;rw[e1] at e2;have hi:i<ns.length:=by
   rw[<- hlen];exact(zs5.mp hk).1
  rw[zs4 hi] at e2;have e3:k=inl (ns[i]'hi):=Option.some.inj e2;have e4:ns.getD i 0=ns[i]'hi:=by rw[ztu,zs4 hi];rfl
  rw[e4];rcases Yn hv with ⟨j,t,rfl,rfl⟩|⟨z,t,rfl,rfl⟩
  ·cases e3;exact⟨t,rfl⟩
  ·cases e3
 refine call_max_walk (wpAny_pyIter_dict hm da ?_);refine⟨s.heap.objs.size,[s.heap.objs.size,l],[s.heap.objs.size],vs.length,_,_,_,rfl,Walks.dictKeys (knd:=Yd X.prog X.w) (A:=X.A.in1) (I.ok.hd hc) _ l (ztv hlt) vs ep,⟨⟨_,Heap.get?_push_size _ rfl,rfl,rfl⟩,da.push _⟩,fun b hb=>?_,by omega,CmpOf.ints_gt (fun i=>ns.getD i 0) (fun i v hv=>val i v hv),fun v h' tk hP hk=>?_⟩
 ·show b<(s.heap.push _).objs.size;rw[Heap.size_push];rcases zs7.mp hb with rfl|hb
  ·exact Nat.lt_succ_self _
  ·rcases zs7.mp hb with rfl|hb
   ·exact zuz hlt
   ·cases hb
 ·obtain⟨h1,h2⟩:=argBest_gt (fun i=>ns.getD i 0) (vs.length-1);obtain⟨t,rfl⟩:=val _ v hP;rw[hlen] at h1 h2 ⊢;generalize argBest (fun i j=>decide ((fun i=>ns.getD i 0) i>(fun i=>ns.getD i 0) j)) (ns.length-1)=b at h1 h2 ⊢;have hb:b<ns.length:=by omega
  have eg:∀ (k:Nat) (hk:k<ns.length),ns.getD k 0=ns[k]'hk:=fun k hk=>by rw[ztu,zs4 hk];rfl
  refine⟨.int (ns.getD b 0),H,I.kept fun c o e=>?_,⟨_,rfl⟩,q _ (by rw[eg b hb];exact ztz hb) fun x hx=>?_⟩
  ·refine hk c o (fun hm=>?_) (Heap.get?_push_of_some _ e);rw[zs9.mp hm] at e;exact zuk _ (Heap.lt_size e)
  ·obtain⟨k,hk',rfl⟩:=zud hx;have:=h2 k ⋯;show ns[k]<=_;rw[<- eg k hk'];exact this
theorem Ph(I:Nat->Shared->Prop)
  (turn:∀ (n:Nat) (s:Shared),I n s->wpAny (model prog w) A (pyNext it) (fun r s₁=>match r with
   | none=>R (.ok .next) s₁
   | some v=>wpAny (model prog w) A (letOwnedTupleGo target it v) (fun _ s₁'=>wpAny (model prog w) A (assign target env v) (fun _ s₂=>wpAny (model prog w) A (forIn ifs true fun c r=>if r=true then do let ok <- isTrue c env (eval c env);pure (ForInStep.yield ok) else pure (ForInStep.yield r)) (fun ok s₃=>if ok=true then wpAny (model prog w) A (eval elt env) (fun x s₄=>wpAny (model prog w) A (call (.builtin "list.append") [acc,x]) (fun _ s₅=>∃ m,m<n/\I m s₅) (notedBy (model prog w) A env fun e s'=>R (.error e) s') s₄) (notedBy (model prog w) A env fun e s'=>R (.error e) s') s₃ else ∃ m,m<n/\I m s₃) (notedBy (model prog w) A env fun e s'=>R (.error e) s') s₂) (notedBy (model prog w) A env fun e s'=>R (.error e) s') s₁') (notedBy (model prog w) A env fun e s'=>R (.error e) s') s₁) (notedBy (model prog w) A env fun e s'=>R (.error e) s') s)
  (n:Nat) (h:I n s):codeAny (model prog w) A (.compLoop (.ListComp elt [⟨target,iter,ifs,0⟩] scope pos) 0 it acc env) R s:=by
 refine codeAny_loop rfl I (fun n s hI=>?_) n h;refine wpAny_noted ?_;rw[compTurn_list];refine wpAny_bind (wpAny_standAt (wpAny_bind (wpAny_mono (turn n s hI) (fun r s₁ h₁=>?_) fun _ _ z=>z)));cases r with
 | none=>exact wpAny_pure h₁
 | some v =>
   refine wpAny_bind (wpAny_mono h₁ (fun _ s₁' h₂=>wpAny_bind (wpAny_mono h₂ (fun _ s₂ h₃=>wpAny_bind (wpAny_mono h₃ (fun ok s₃ h₄=>?_) fun _ _ z=>z)) fun _ _ z=>z)) fun _ _ z=>z);cases ok with
   | false =>
     simp only[zub,if_false] at h₄ ⊢;exact wpAny_pure ⟨rfl,h₄⟩
   | true =>
     simp only[if_true] at h₄ ⊢;refine wpAny_bind (wpAny_bind (wpAny_mono h₄ (fun x s₄ h₅=>wpAny_bind (wpAny_mono h₅ (fun _ s₅ h₆=>wpAny_pure (wpAny_pure ⟨rfl,h₆⟩)) fun _ _ z=>z)) fun _ _ z=>z))
def cs0(xo:List Str)(js:List Nat)(σ:St):St:=(xo.map fun _=>none)++js.map fun j=>(σ[j]?).getD none
def Sv(xo:List Str)(js:List Nat)(σ σ2:St):Prop:=∃ os:St,os.length=xo.length/\σ2=os++js.map fun j=>(σ[j]?).getD none
theorem Sv.weak(o:Sv xo js σ σ2)(I:Inv X pins σ2 H s):Inv X pins (cs0 xo js σ) H s:=by
 obtain⟨os,hl,rfl⟩:=o;refine I.weak (by unfold cs0;simp[hl]) fun i v e=>?_;unfold cs0 at e;by_cases hi:i<xo.length
 ·rw[zt8 (by rw[zs3];exact hi),zta,zs4 hi] at e;cases e
 ·rw[zt5 (by rw[zs3];omega),zs3] at e;rw[zt5 ⋯,hl];exact e
def Fm(J:It)(xo:List Str)(js:List Nat)(g:TG)(tt:TT)(te:TE)(σ:St)(H:Hp)(Q:VK):Prop:=∃ W:Nat->Nat->List V->Hp->Prop,(∃ m,W 0 m [] H)/\∀ i m ys H,W i m ys H ->
 (J.stop i H/\ys.length<=sizeLine/\∀ p,H p=none->Q (.ref p) (upd H p (.lst ys))) \/
 (J.go i H/\ys.length<sizeLine/\∃ N:List V->Hp->Prop,(∀ ys' H',N ys' H'->∃ m',m' < m/\W (i+1) m' ys' H')/\∀ x H',J.yld i H x H'->g x (cs0 xo js σ) H' fun σ2 H1=>Sv xo js σ σ2/\tt σ2 H1 fun b H2=>if b=true then te σ2 H2 fun y H3=>N (ys++[y]) H3 else N ys H2)
def zha(wi:TI)(xo:List Str)(js:List Nat)(g:TG)(tt:TT)(te:TE):TE:=fun σ H Q=>wi σ H fun J H1=>Fm J xo js g tt te σ H1 Q
section
variable{X:Cx}{elt iter tg:Expr}{xo:List Str}{pos:Pos}{ifs:List Expr}{scope:Scope}{cl:List (Str×Addr)}{ys:List Str}{js:List Nat}{g:TG}
structure R1(X:Cx)(xo:List Str)(scope:Scope)(cl:List (Str×Addr))(ys:List Str)(js:List Nat):Prop where
 clos:closureFor scope X.env=pure cl
 kind:scope.kind=.function
 names:∀ y∈scope.names,y.2=.local->scope.names.lookup y.1=some .local
 nocell:∀ y∈scope.names,y.2≠.cell
 at_:js.map (X.N[·]?)=ys.map some
 free:Jr (fun y=>X.env.kindOf y=some .cell/\(relabel scope X.env).names.lookup y=some .cell/\cl.lookup y=X.env.cells.lookup y) ys
 only:Jr (fun p=>X.env.cells.lookup p.1=some p.2) cl
 vis:∀ y∈scope.names,y.2=.free->y.1∈ys
theorem R1.same(c:R1 X xo scope cl ys js)(h:cl.lookup y=some a):X.env.cells.lookup y=some a:=c.only.get (PySem.mem_of_lookup h)
theorem zdc(c:R1 X xo scope cl ys js)(I:Inv X pins σ H s)(hf:∀ b∈fp,FpOk X pins H b)(hex:∀ b∈fp,b<s.heap.objs.size)(hC:s.heap.objs.size<=C) :
  (Yq X pn Nc scope cl s H fp C).Ok where
 mod:=I.ok.mod
 kind:=c.kind
 glob:=I.ok.glob
 blt:=I.ok.blt
 above:=hC
 inj:=fun y z a h1 h2=>I.ok.inj y z a (c.same h1) (c.same h2)
 has:=fun y h=>by
  obtain⟨k,m,q⟩:=Of h;rcases q with rfl|rfl
  ·exact absurd rfl (c.nocell _ m)
  ·obtain⟨a1,a2,a3⟩:=c.free.get (c.vis _ m rfl);obtain⟨a,ha⟩:=I.ok.has y (.inl a1);exact⟨a,a3.trans ha⟩
 cab:=fun _ _ h=>by cases h
 hd:=I.ok.hd
 frames:=I.ok.frames
 stk:=.inl rfl
 exf:=fun b hb=>by
  obtain⟨f0,f1,f2,f3,f4,f5⟩:=hf b hb;exact⟨ztv (ztm (hex b hb) hC),fun y a h=>f4 y a (c.same h)⟩
 bs:=I.bs
 bsz:=zto I.ok.bsz I.sz
 noex:=fun b o q hb=>by
  obtain⟨f0,f1,f2,f3,f4,f5⟩:=hf b hb;rcases f3 with z|z
  ·exact I.ok.noex b o q z
  ·exact absurd (ztm (Heap.lt_size (I.ok.bs b o q).1) z) (zuk _)
 exfs:=fun b hb m=>by
  obtain⟨f0,f1,f2,f3,f4,f5⟩:=hf b hb;exact(zs7.mp (I.stkSub b m)).elim f1 f2
 funs:=I.stack
 frf:=I.stkFree
theorem zbb(c:R1 X xo scope cl ys js)(I:Inv X pins σ H s)(hf:∀ b∈fp,FpOk X pins H b)(hex:∀ b∈fp,b<s.heap.objs.size)(hC:s.heap.objs.size<=C)
  (hns:h1.Ns C m1) (old:∀ b o,s.heap.get? b=some o->h1.get? b=some o) :
  Inv (Yq X (X.pn++pins) (xo++ys) scope cl s H fp C) [] (cs0 xo js σ) H { s with heap:=h1,toks:=t1 }:=by
 obtain⟨m,hn,hl⟩:=I.loc;have jl:js.length=ys.length:=by have:=congrArg List.length c.at_;simpa using this
 refine⟨zdc c I hf hex hC,rfl,I.bare,Un.kept old,⟨m1,hns,fun i y v e1 e2 e3=>?_⟩,fun y a h=>?_,I.hok.fresh hC,fun y a h=>I.freeC y a (c.same h),fun p hp=>?_,I.hok.kept old,by simp[jl,Yq,cs0]⟩
 ·have e2:=e2.resolve_right (Xq _);unfold cs0 at e2;by_cases hi:i<xo.length
  ·rw[zt8 (by rw[zs3];exact hi),zta,zs4 hi] at e2;cases e2
  ·rw[zt5 (by rw[zs3];omega),zs3] at e2;have e1:ys[i-xo.length]?=some y:=by
    have e1:(xo++ys)[i]?=some y:=e1;rw[zt5 ⋯] at e1;exact e1
   generalize i-xo.length=k at e1 e2;rw[zta] at e2;cases hj:js[k]? with
   | none=>rw[hj] at e2;cases e2
   | some j =>
     rw[hj] at e2;have ej:X.N[j]?=some y:=by
      have q:=congrArg (·[k]?) c.at_;simp only[zta,hj,e1,zt6] at q;exact Option.some.inj q
     have ev:σ[j]?=some (some v):=by
      simp only[zt6,Option.some.injEq] at e2;cases hσ:σ[j]? with
      | none=>rw[hσ] at e2;cases e2
      | some o=>rw[hσ] at e2;rw[show o=some v from e2]
     obtain⟨a1,a2,a3⟩:=c.free.get (ztg e1);obtain⟨u,r,l⟩:=hl j y v ej (.inl ev) (.inr (.inl a1));refine⟨u,r,.inr ⟨.inl a2,?_⟩⟩;rcases l with ⟨k1,_⟩|⟨_,b,e,z⟩
     ·rw[a1] at k1;cases k1
     ·obtain⟨o,ho,hd⟩:=z;exact⟨b,a3.trans e,o,old _ _ ho,hd⟩
 ·obtain⟨v,o,ho,hd⟩:=I.cell y a (c.same h);exact⟨v,o,old _ _ ho,hd⟩
 ·obtain⟨e,n,ne,nf,d⟩:=I.pin p (by simpa [Yq] using hp);refine⟨old _ _ e,n,ztv (ztm (Heap.lt_size e) hC),fun m=>?_,d⟩;exact(zs7.mp (I.stkSub _ m)).elim ne nf
theorem Ke{pins:List (Addr×Obj)}{σ:St}{H:Hp}{s:Shared}{tt:TT}{te:TE}{it:Addr}{fp:List Addr}{tn:Nat->Heap->Prop}{J:It}{W:Nat->Nat->List V->Hp->Prop}{m0:Nat}{Q:VK}{E:Value->Shared->Prop}{RR:Value->Addr->Result->Shared->Prop}
  (hcm:X.calm=true) (c:R1 X xo scope cl ys js) (ht:∀ pn s₀ H₀ fp C,PTs (Yq X pn (xo++ys) scope cl s₀ H₀ fp C) ifs tt) (hgt:∀ pn s₀ H₀ fp C,PG (Yq X pn (xo++ys) scope cl s₀ H₀ fp C) tg g) (he:∀ pn s₀ H₀ fp C,PE (Yq X pn (xo++ys) scope cl s₀ H₀ fp C) elt te)
  (I:Inv X pins σ H s) (T:Ec X.prog X.w X.K tg J fp it tn) (st0:tn 0 s.heap) (hf:∀ b∈fp,FpOk X pins H b) (w0:W 0 m0 [] H)
  (turn:∀ i m ys H,W i m ys H->(J.stop i H/\ys.length<=sizeLine/\∀ p,H p=none->Q (.ref p) (upd H p (.lst ys))) \/
   (J.go i H/\ys.length<sizeLine/\∃ N:List V->Hp->Prop,(∀ ys' H',N ys' H'->∃ m',m' < m/\W (i+1) m' ys' H')/\∀ x H',J.yld i H x H'->g x (cs0 xo js σ) H' fun σ2 H1=>Sv xo js σ σ2/\tt σ2 H1 fun b H2=>if b=true then te σ2 H2 fun y H3=>N (ys++[y]) H3 else N ys H2))
  (hRR:∀ D C s' m,s'.heap.Ns C m->(∀ h',Heap.SameBut C s'.heap h'->∃ H',Inv X pins σ H' { s' with heap:=h' }/\Q (.ref D) H')->(∃ H',Inv X pins σ H' s'/\Q (.ref D) H'/\H' C=none)->s.heap.objs.size<=C->RR (.ref D) C (.ok .next) s') :
  wpAny (model X.prog X.w) X.A (newList []) (fun acc s₃=>wpAny (model X.prog X.w) X.A (newFunctionEnv scope X.env.globals cl [] X.env.qual none .none (some X.env)) (fun cenv s₄ =>
   codeAny (model X.prog X.w) X.A (.compStart (.ListComp elt [⟨tg,iter,ifs,0⟩] scope pos) 0 (.ref it) acc { cenv with scope:=relabel scope X.env }) (RR acc cenv.locals) s₄) E s₃) E s:=by
 refine wpAny_newObj_type (wpAny_newFunctionEnv c.nocell (by intro y hy;simp at hy) (fun h₁ hns₁ hsb₁=>?_) c.kind);dsimp only at hns₁ hsb₁ ⊢;generalize hH2:s.heap.push { cls:=.type "list",dict:=none,data:=.seq ([]:List Value).toArray }=G at hns₁ hsb₁ ⊢;generalize hD:s.heap.objs.size=D;have hC:G.objs.size=D+1:=by rw[<- hH2,Heap.size_push,hD]
 generalize hCe:G.objs.size=C at hns₁ hsb₁ ⊢;have hCD:C=D+1:=hCe.symm.trans hC;have hDC:D≠C:=by omega
 have below:∀ b o,s.heap.get? b=some o->b<D:=fun b o e=>by rw[<- hD];exact Heap.lt_size e
 have ltC:∀ b:Addr,b<D->b≠C:=fun b h=>ztv (hCD▸zuz h);have ltD:∀ b:Addr,b<D->b≠D:=fun b h=>ztv h;have old:∀ b o,s.heap.get? b=some o->h₁.get? b=some o:=fun b o e=>hsb₁.extBut b o (ltC b (below b o e)) (Heap.get?_push_of_some _ (hH2▸Heap.get?_push_of_some _ e));have hacc:h₁.PlainList D #[]:=⟨_,hsb₁.extBut _ _ hDC (Heap.get?_push_of_some _ (by rw[<- hH2,<- hD];exact Heap.get?_push_size _ rfl))⟩;have hex:∀ b∈fp,b<s.heap.objs.size:=fun b hb=>by
  obtain⟨o,e,_⟩:=T.obj _ _ st0 b hb;exact Heap.lt_size e
 have lt0:∀ b∈fp,b<D:=fun b hb=>by rw[<- hD];exact hex b hb
 have freshD:s.heap.get? D=none:=Heap.get?_none_of_le ⋯;have freshC:s.heap.get? C=none:=Heap.get?_none_of_le ⋯;have frE:∀ {H':Hp},(∀ b∈fp,H' b=none)->∀ {o:Obj} {b:Addr},b∈fp->FpOk (Yq X (X.pn++pins) (xo++ys) scope cl s H fp C) [(D,o)] H' b:=fun {H'} hn {o b} hb=>by
  obtain⟨f0,f1,f2,f3,f4,f5⟩:=hf b hb;refine⟨hn b hb,?_,?_,.inl hb,fun y a h=>f4 y a (c.same h),fun p hp=>?_⟩
  ·exact ltC b (lt0 b hb)
  ·exact fun m=>(zs7.mp (I.stkSub b m)).elim f1 f2
  ·rcases zth.mp hp with z|z
   ·exact f5 p z
   ·rw[zs9.mp z];exact Ne.symm (ltD b (lt0 b hb))
 have pinD:∀ {σ':St} {H':Hp} {s':Shared} {o:Obj},Inv (Yq X (X.pn++pins) (xo++ys) scope cl s H fp C) [] σ' H' s'->s'.heap.get? D=some o->(∀ v,o.data≠.cell v)->H' D=none->Inv (Yq X (X.pn++pins) (xo++ys) scope cl s H fp C) [(D,o)] σ' H' s':=fun {σ' H' s' o} Ic e nc n =>
  Ic.pins_of fun p hp=>by
   rw[zs9.mp hp];refine⟨e,n,hDC,fun m=>?_,nc⟩;obtain⟨_,ob,hob,_⟩:=I.stack.mem m;exact absurd (below D ob hob) (zuk _)
 have loop:∀ s₃:Shared,s₃={ s with heap:=h₁,toks:=s.toks+([]:List (Str×Value)).length } ->
   codeAny (model X.prog X.w) X.A (.compLoop (.ListComp elt [⟨tg,iter,ifs,0⟩] scope pos) 0 (.ref it) (.ref D) (compEnvC scope cl C X.env)) (RR (.ref D) C) s₃:=by
  rintro s₃ rfl;have I0:=zbb (t1:=s.toks+([]:List (Str×Value)).length) c I hf hex (by omega:s.heap.objs.size<=C) hns₁ old;refine Ph (fun n s'=>∃ i H' zs its,Inv (Yq X (X.pn++pins) (xo++ys) scope cl s H fp C) [] (cs0 xo js σ) H' s'/\tn i s'.heap/\(∀ b∈fp,H' b=none)/\s'.heap.PlainList D (its:List Value).toArray/\Vals zs its/\H' D=none/\W i n zs H') ?_ m0
   ⟨0,H,[],[],I0,T.keep _ _ _ st0 fun b hb o e=>old b o e,fun b hb=>(hf b hb).1,hacc,.nil,I.hok.fresh ⋯,w0⟩
  rintro n s3 ⟨i,H3,zs,its,I3,st3,fr3,⟨n3,pl3⟩,rv3,fD3,w3⟩;have I3':=pinD I3 pl3 (by intro v z;cases z) fD3;rcases turn i n zs H3 w3 with ⟨stop,hsz,fin⟩|⟨go,hsz,Nx,hNx,step⟩
  ·refine wpAny_mono (T.done (Yq X (X.pn++pins) (xo++ys) scope cl s H fp C) rfl rfl rfl hcm i _ s3 _ H3 (fun _ _=>False) I3' (fun b hb=>frE fr3 hb) st3 stop) (fun r s4 ⟨hr,I4⟩=>?_) fun _ _ z=>z.elim;subst hr;have plD:s4.heap.get? D=some _:=(I4.pin (D,{ cls:=Value.type "list",data:=.seq its.toArray n3 }) (ztw _ ztn)).1;obtain⟨m4,hn4,_⟩:=I4.loc;have okU:∀ h',(∀ b o,b≠C->s4.heap.get? b=some o->h'.get? b=some o)->Inv X pins σ (upd H3 D (.lst zs)) { s4 with heap:=h' }:=fun h' k1=>by
    have u4:Un (frs X.stack) fp H H3 s.heap s4.heap:=I4.base;have neC:∀ b o,s.heap.get? b=some o->b≠C:=fun b o e=>ltC b (below b o e);have neD:∀ b o,s.heap.get? b=some o->b≠D:=fun b o e=>ltD b (below b o e);have trD:∀ b u,H3 b=some u->b≠D:=fun b u e z=>by rw[z,fD3] at e;cases e
    have trC:∀ b u,H3 b=some u->b≠C:=fun b u e z=>by rw[z,show H3 C=none from I4.free] at e;cases e
    have un:Un (frs X.stack) fp H (upd H3 D (.lst zs)) s.heap h':=by
     refine⟨fun b o e n hb hx=>k1 b o (neC b o e) (u4.keep b o e n hb hx),fun b o e n hb hx=>?_,fun b o e n hx=>?_,fun b o e hx=>?_,fun b xs e=>?_,fun b ob u e=>?_,fun b ps e=>?_⟩
     ·obtain⟨sl,z⟩:=u4.slot b o e n hb hx;exact⟨sl,k1 b _ (neC b o e) z⟩
     ·rw[Zi (neD b o e)];exact u4.free b o e n hx
     ·obtain⟨o',z⟩:=u4.there b o e hx;exact⟨o',k1 b o' (neC b o e) z⟩
     ·have z:=u4.tups b xs e;rw[Zi (trD b _ z)];exact z
     ·have z:=u4.frzs b ob u e;rw[Zi (trD b _ z)];exact z
     ·obtain⟨more,z⟩:=u4.tbls b ps e;exact⟨more,by rw[Zi (trD b _ z)];exact z⟩
    refine I.call' (s':={ s4 with heap:=h' }) (ch:=fp) (show s4.os=s.os from I4.os) un (fun b u e=>?_) I4.bare fun b hb=>?_
    ·by_cases hb:b=D
     ·subst hb;rw[Zd] at e;cases e;exact⟨hsz,its,n3,rv3,k1 _ _ hDC plD⟩
     ·rw[Zi hb] at e;refine(I4.hok b u e).stay (fun d v hd q=>?_) (fun d q=>by rw[Zi (trD d _ q)];exact q) fun d xs q=>by rw[Zi (trD d _ q)];exact q
      rcases hd with z|z
      ·exact k1 d v (by rw[z];exact trC b u e) q
      ·exact k1 d v (trC d _ z) q
    ·obtain⟨f0,f1,f2,f3,f4,f5⟩:=hf b hb;exact⟨f3,f1,f4,f5⟩
   refine hRR D C s4 m4 hn4 (fun h' hs'=>⟨_,okU h' (fun b o hb e=>hs'.extBut b o hb e),fin D fD3⟩) ⟨_,okU s4.heap (fun _ _ _ e=>e),fin D fD3,?_⟩ ⋯
   ·rw[Zi (Ne.symm hDC)];exact I4.free
  ·refine wpAny_mono (T.item (Yq X (X.pn++pins) (xo++ys) scope cl s H fp C) rfl rfl rfl hcm i _ s3 _ H3 (fun _ _=>False) I3' (fun b hb=>frE fr3 hb) st3 go) (fun r s4 ⟨u,hr,h4⟩=>?_) fun _ _ z=>z.elim;subst hr;refine wpAny_mono h4 (fun _ s5 h5=>?_) fun _ _ z=>z.elim;obtain⟨xv,H5,I5,r5,y5,st5,fr5⟩:=h5;have I5':=I5.pinned (fun b hb=>frE fr5 hb) (T.obj _ _ st5);refine wpAny_mono (hgt _ _ _ _ _ _ s5 _ H5 xv u _ I5' r5 (step xv H5 y5)) (fun _ s6 ⟨σ6,H6,I6,own6,q6⟩=>?_) fun _ _ z=>z.elim;refine wpAny_mono (ht _ _ _ _ _ _ s6 _ H6 _ I6 q6) (fun ok s7 ⟨H7,I7,q7⟩=>?_) fun _ _ z=>z.elim;have keepF:∀ {σ8:St} {H8:Hp} {s8:Shared},Inv (Yq X (X.pn++pins) (xo++ys) scope cl s H fp C) ([(D,{ cls:=Value.type "list",data:=.seq its.toArray n3 })]++O6 fp s5.heap) σ8 H8 s8->tn (i+1) s8.heap/\(∀ b∈fp,H8 b=none)/\s8.heap.PlainList D its.toArray/\H8 D=none:=fun {σ8 H8 s8} I8=>by
    refine⟨T.keep _ _ _ st5 fun b hb o e=>(I8.pin (b,o) (ztw _ (ztw _ (So hb e)))).1,fun b hb=>?_,⟨n3,(I8.pin (D,_) (ztw _ ztn)).1⟩,(I8.pin (D,_) (ztw _ ztn)).2.1⟩;obtain⟨o,e,d⟩:=T.obj _ _ st5 b hb;exact(I8.pin (b,o) (ztw _ (ztw _ (So hb e)))).2.1
   have bare:∀ {σ8:St} {H8:Hp} {s8:Shared},Inv (Yq X (X.pn++pins) (xo++ys) scope cl s H fp C) ([(D,{ cls:=Value.type "list",data:=.seq its.toArray n3 })]++O6 fp s5.heap) σ8 H8 s8->Inv (Yq X (X.pn++pins) (xo++ys) scope cl s H fp C) [] σ8 H8 s8:=fun I8=>I8.pins_of fun _ z=>(nomatch z)
   cases ok with
   | false =>
     simp only[zub,if_false] at q7 ⊢;obtain⟨m',hm',w7⟩:=hNx _ _ q7;obtain⟨a1,a2,a3,a4⟩:=keepF I7;exact⟨m',hm',i+1,H7,zs,its,own6.weak (bare I7),a1,a2,a3,rv3,a4,w7⟩
   | true =>
     simp only[if_true] at q7 ⊢;refine wpAny_mono (he _ _ _ _ _ _ s7 _ H7 _ I7 q7) (fun y s8 ⟨yv,H8,I8,r8,q8⟩=>?_) fun _ _ z=>z.elim;obtain⟨m',hm',w8⟩:=hNx _ _ q8;obtain⟨a1,a2,a3,a4⟩:=keepF I8;have szI:its.toArray.size<=sizeLine:=by rw[zte,<- rv3.length];omega
     refine wpAny_list_append_plain (hsz:=szI) a3 fun h9 pl9 sb9=>?_;have I8b:=own6.weak (bare I8);refine⟨m',hm',i+1,H8,zs++[yv],its++[y],?_,T.keep _ _ _ a1 fun b hb o e=>(sb9.2 b (ltD b (lt0 b hb))).trans e,a2,by rw[List.push_toArray] at pl9;exact pl9,rv3.append (.cons r8 .nil),a4,w8⟩;refine I8b.turned (t':=s8.toks) (it:=D) (fun b o hb e=>(sb9.2 b hb).trans e) a4 hDC (.inr (show s.heap.objs.size<=D by omega)) (fun y' a h=>?_) fun p hp=>?_
     ·obtain⟨v,o,ho,_⟩:=I.cell y' a (c.same h);exact ltD a (below a o ho)
     ·obtain⟨e,_⟩:=I.pin p (by simpa [Yq] using hp);exact ltD _ (below _ _ e)
 exact codeAny_compStart_list (loop _ rfl) (T.self _ 0 _ _ _ (T.keep _ _ _ st0 fun b hb o e=>old b o e) (loop _ rfl))
variable{wi:TI}{tt:TT}{te:TE}
theorem R4(hcm:X.calm=true)(c:R1 X xo scope cl ys js)(hi:PI X tg iter wi)(ht:∀ pn s₀ H₀ fp C,PTs (Yq X pn (xo++ys) scope cl s₀ H₀ fp C) ifs tt)(hgt:∀ pn s₀ H₀ fp C,PG (Yq X pn (xo++ys) scope cl s₀ H₀ fp C) tg g)(he:∀ pn s₀ H₀ fp C,PE (Yq X pn (xo++ys) scope cl s₀ H₀ fp C) elt te)
  (hs:∀ x,foldedSetIterable iter X.env x=pure x:=by intro _;rfl):PE X (.ListComp elt [⟨tg,iter,ifs,0⟩] scope pos) (zha wi xo js g tt te):=by
 intro pins s σ H Q I h;rw[eval_ListComp];refine wpAny_comprehension_free (use:=none) rfl hs c.clos c.kind c.names (thn (hi pins s σ H _ I h) fun v s1 h1=>thn h1 fun itv s2 h2=>?_);obtain⟨it,fp,tn,J,H2,e,I2,T,st2,f2,W,⟨m0,w0⟩,turn⟩:=h2;subst e;exact Ke (RR:=fun acc C=>compPost (model X.prog X.w) X.A X.xe none (EP X pins σ Q) acc C) hcm c ht hgt he I2 T st2 f2 w0 turn fun D C s' m hn hS _ _=>⟨m,hn,fun h' hs'=>let ⟨H',I',q⟩:=hS h' hs';⟨.ref D,H',I',rfl,q⟩⟩
end
end L2
namespace G
open PySem PySem.Spec PyProof.Rows L2
theorem Bi{K:Frag}{a:Addr}{xs:List V}{xo:List Str}{js:List Nat}{g:TG}{tt:TT}{te:TE}{σ:L2.St}{H:Hp}{Q:VK}(p:Nat->Bool)(f:Nat->V)(hz:xs.length<=1000)(hx:SqL K H a xs)
  (step:∀ (i:Nat) (x:V) (t:Addr) (H':Hp) (N:List V->Hp->Prop) (ys:List V),xs[i]?=some x->Same H H'->H' t=none->(∀ H2,Same H H2->N (if p i=true then ys++[f i] else ys) H2) ->
   g (.ref t) (cs0 xo js σ) (upd H' t (.tup [.int (i:Nat),x])) fun σ2 H1=>Sv xo js σ σ2/\tt σ2 H1 fun b H2=>if b=true then te σ2 H2 fun y H3=>N (ys++[y]) H3 else N ys H2)
  (fin:∀ (H':Hp) (l:Addr),Same H H'->H' l=none->Q (.ref l) (upd H' l (.lst (((List.range xs.length).filter p).map f)))):Fm (Ite K a) xo js g tt te σ H Q:=by
 have line:1000<sizeLine:=by rw[sizeLine_eq];decide
 refine⟨fun i m ys H'=>m=xs.length-i/\i<=xs.length/\Same H H'/\ys=((List.range i).filter p).map f,⟨xs.length,by simp,ztt _,fun _ _ q=>q,by simp⟩,?_⟩;rintro i m ys H' ⟨rfl,hi,hs,rfl⟩;have hq:=hs.seq hx;have hlen:(((List.range i).filter p).map f).length<=i:=by
  rw[zs3];exact zto (zun _ _) (by rw[zt0];exact ztb _)
 by_cases hlt:i<xs.length
 ·refine .inr ⟨⟨xs,xs[i],hq,by simp[hlt]⟩,by omega,fun ys' H2=>Same H H2/\ys'=((List.range (i+1)).filter p).map f,fun ys' H2 ⟨h1,h2⟩=>⟨xs.length-(i+1),by omega,rfl,hlt,h1,h2⟩,fun x H2 y=>?_⟩;obtain⟨t,y,h1,h2,rfl,rfl⟩:=y;refine step i y t H' (fun ys' H2=>Same H H2/\ys'=((List.range (i+1)).filter p).map f) _ (h2 xs hq) hs h1 fun H2 s2=>⟨s2,?_⟩
  rw[List.range_succ,zu4,ztl];cases hp:p i with
  | true=>rw[if_pos rfl,zua,if_pos hp];rfl
  | false=>rw[if_neg ⋯,zua,if_neg (by rw[hp];decide)];simp
 ·have e:i=xs.length:=by omega
  subst e;exact .inl ⟨⟨xs,hq,ztb _⟩,by omega,fun l hl=>fin H' l hs hl⟩
theorem Hv:∀ (a b:List (Nat×Option Int)) (xs:List V),Yp (a++b) xs=Yp b (Yp a xs)
 | [],_,_=>rfl
 | (p,w) :: r,b,xs=>by rw[List.cons_append,Yp,Yp,Hv r b]
structure Ll(kvs:List (Key×V))(gs:List V):Prop where
 has:∀ (n:Int) (j:Nat),gs[j]?=some (.int n)->valV kvs (inl n:Key)=some (.int (j:Nat))
 not:∀ n:Int,(∀ j:Nat,gs[j]?≠some (.int n))->valV kvs (inl n:Key)=none
theorem Ll.iff(t:Ll kvs gs)(n:Int):(∃ j:Nat,gs[j]?=some (.int n)/\valV kvs (inl n:Key)=some (.int (j:Nat)))\/((∀ j:Nat,gs[j]?≠some (.int n))/\valV kvs (inl n:Key)=none):=by
 by_cases h:∃ j:Nat,gs[j]?=some (.int n)
 ·obtain⟨j,hj⟩:=h;exact .inl ⟨j,hj,t.has n j hj⟩
 ·have h':∀ j:Nat,gs[j]?≠some (.int n):=fun j hj=>h ⟨j,hj⟩;exact .inr ⟨h',t.not n h'⟩
inductive Fn(K:Frag)(vs:List V)(H:Hp)(Q:VK)(_:XK):Prop where
 | mk(b:Addr)(gs:List V)(_:vs=[.ref b])(_:H b=some (.lst gs))(_:(∀ x∈gs,oneV x))(_:(∀ (j k:Nat) (n:Int),gs[j]?=some (.int n)->gs[k]?=some (.int n)->j=k))(_:gs.length<=100)(_:∀ d kvs H',H' d=some (.dK kvs)->Ll kvs gs->Same H H'->H d=none->Q (.ref d) H')
structure Xi(H:Hp)(into:List (Key×V))(line:List Nat)(fr:Nat->Option (Nat×Int)):Prop where
 keys:into.map (·.1)=line.map fun q:Nat=>(inl (q:Int):Key)
 none:∀ q∈line,fr q=Option.none->valV into (inl (q:Int):Key)=some .non
 some:∀ q∈line,∀ par n,fr q=Option.some (par,n)->∃ t,valV into (inl (q:Int):Key)=Option.some (.ref t)/\H t=Option.some (.tup [.int (par:Nat),.int n])
theorem Xi.same(e:Same H H')(h:Xi H into line fr):Xi H' into line fr :=
 ⟨h.keys,h.none,fun q hq par n hf=>let ⟨t,a,b⟩:=h.some q hq par n hf;⟨t,a,e _ _ b⟩⟩
theorem Xi.len(h:Xi H into line fr):into.length=line.length:=by
 have:=congrArg List.length h.keys;rw[zs3,zs3] at this;exact this
theorem zdd{into:List (Key×V)}{k:Key}:(valV into k).isSome=true↔k∈into.map Prod.fst:=by
 unfold valV;rw[Option.isSome_map,List.find?_isSome];constructor
 ·rintro⟨p,hp,e⟩;exact ztd.mpr ⟨p,hp,of_decide_eq_true e⟩
 ·intro h;obtain⟨p,hp,rfl⟩:=ztd.mp h;exact⟨p,hp,zs6 rfl⟩
theorem Xi.has{H:Hp}{into:List (Key×V)}{line:List Nat}{fr:Nat->Option (Nat×Int)}(h:Xi H into line fr)(q:Nat):(valV into (inl (q:Int):Key)).isSome=true↔q∈line:=by
 rw[zdd,h.keys];constructor
 ·intro z;obtain⟨q',h1,h2⟩:=ztd.mp z;have:(q':Int)=q:=inl.inj h2;have:q'=q:=by omega
  rw[<- this];exact h1
 ·intro hq;exact ztd.mpr ⟨q,hq,rfl⟩
inductive Bj(K:Frag)(vs:List V)(H:Hp)(Q:VK)(_:XK):Prop where
 | mk(l d:Addr)(ls:List Addr)(rows:List (List Int))(kvs:List (Key×V))(gs:List V)(p:Nat)(_:vs=[.ref l,.ref d,.int p])(_:H l=some (.lst (ls.map V.ref)))(_:ILs H ls rows)(_:rows.length<=100)(_:H d=some (.dK kvs))(_:Ll kvs gs)(_:Yl rows gs)(_:p<rows.length)(_:∀ t into line dep fr H',H' t=some (.dK into)->Xi H' into line fr->Bfs rows gs p line dep->Done rows gs line dep line.length->Ur rows gs p line dep fr->(∀ q∈line,q<rows.length)->Same H H'->H t=none->Q (.ref t) H')
inductive Hw(K:Frag)(vs:List V)(H:Hp)(Q:VK)(_:XK):Prop where
 | mk(l d:Addr)(r:List Int)(kvs:List (Key×V))(_:vs=[.ref l,.ref d])(_:H l=some (.lst (r.map V.int)))(_:H d=some (.dK kvs))(_:∀ w:Option Int,(∀ n,w=some n->n∈r/\valV kvs (inl n:Key)=none)->(w=none->∀ n∈r,(valV kvs (inl n:Key)).isSome=true)->Q (oV w) H)
inductive E6(K:Frag)(vs:List V)(H:Hp)(Q:VK)(_:XK):Prop where
 | mk(t:Addr)(q p:Nat)(w:Option Int)(rows:List (List Int))(gs:List V)(into:List (Key×V))(line:List Nat)(dep:Nat->Nat)(fr:Nat->Option (Nat×Int))(_:vs=[.ref t,.int q,oV w])(_:Rd H t (.dK into))(_:Xi H into line fr)(_:Ur rows gs p line dep fr)(_:dep p=0)(_:p∈line)(_:q∈line)(_:dep q<=100)(_:∀ lt ts st H',H' lt=some (.lst ts)->Z0 H' ts (st.map Vp)->Ch rows gs p st q w->st.length=dep q+1->Same H H'->H lt=none->Q (.ref lt) H')
section
variable{rows:List (List Int)}{gs:List V}{p:Nat}{line:List Nat}{dep:Nat->Nat}{fr:Nat->Option (Nat×Int)}{H H':Hp}{into:List (Key×V)}
def Mc(fr:Nat->Option (Nat×Int))(q:Nat)(x:Nat×Int):Nat->Option (Nat×Int):=fun y=>if y=q then some x else fr y
theorem Pj:Mc fr q x q=some x:=by unfold Mc;rw[if_pos rfl]
theorem Oh(h:y≠q):Mc fr q x y=fr y:=by unfold Mc;rw[if_neg h]
theorem Ur.app(F:Ur rows gs p line dep fr)(hn:q'∉line)(hp:p∈line)(hh:here∈line)(a:adjN rows gs here n q'):Ur rows gs p (line++[q']) (Vc dep q' (dep here+1)) (Mc fr q' (here,n)):=by
 have ne:∀ x∈line,x≠q':=fun x hx z=>hn (by rw[<- z];exact hx);have old:∀ x∈line,Vc dep q' (dep here+1) x=dep x:=fun x hx=>by unfold Vc;rw[if_neg (ne x hx)]
 have new:Vc dep q' (dep here+1) q'=dep here+1:=by unfold Vc;rw[if_pos rfl]
 refine⟨by rw[Oh (ne p hp)];exact F.1,fun q hq hqp=>?_⟩;rcases zth.mp hq with z|z
 ·obtain⟨par,m,h1,h2,h3,h4⟩:=F.2 q z hqp;exact⟨par,m,by rw[Oh (ne q z)];exact h1,zty _ h2,h3,by rw[old q z,old par h2];exact h4⟩
 ·rw[zs9.mp z];exact⟨here,n,Pj,zty _ hh,a,by rw[new,old here hh]⟩
theorem Xi.mono(e:∀ t xs,H t=Option.some (.tup xs)->H' t=Option.some (.tup xs))(h:Xi H into line fr):Xi H' into line fr :=
 ⟨h.keys,h.none,fun q hq par n hf=>let ⟨t,a,b⟩:=h.some q hq par n hf;⟨t,a,e _ _ b⟩⟩
theorem Xi.app(I:Xi H into line fr)(hn:q'∉line)(ht:H t=Option.some (.tup [.int (here:Nat),.int n])):Xi H (putK into (inl (q':Int)) (.ref t)) (line++[q']) (Mc fr q' (here,n)):=by
 have ne:∀ x∈line,x≠q':=fun x hx z=>hn (by rw[<- z];exact hx);have hv:valV into (inl (q':Int):Key)=Option.none:=by
  cases e:valV into (inl (q':Int):Key) with
  | none=>rfl
  | some y=>exact absurd ((I.has q').mp (by rw[e];rfl)) hn
 have val:∀ x∈line,valV (putK into (inl (q':Int)) (.ref t)) (inl (x:Int):Key)=valV into (inl (x:Int):Key):=fun x hx=>by
  rw[Sb,if_neg (fun z=>ne x hx (by have:=inl.inj z;omega))]
 have valn:valV (putK into (inl (q':Int)) (.ref t)) (inl (q':Int):Key)=Option.some (.ref t):=by rw[Sb,if_pos rfl]
 refine⟨?_,fun q hq hf=>?_,fun q hq par m hf=>?_⟩
 ·rw[zcd _ hv,ztl,ztl,I.keys];rfl
 ·rcases zth.mp hq with z|z
  ·rw[Oh (ne q z)] at hf;rw[val q z];exact I.none q z hf
  ·rw[zs9.mp z,Pj] at hf;cases hf
 ·rcases zth.mp hq with z|z
  ·rw[Oh (ne q z)] at hf;rw[val q z];exact I.some q z par m hf
  ·rw[zs9.mp z,Pj] at hf;cases hf;rw[zs9.mp z];exact⟨t,valn,ht⟩
theorem Bl(H:Hp)(p:Nat):Xi H [((inl (p:Int):Key),V.non)] [p] (fun _=>none) :=
 ⟨rfl,fun q hq _=>by rw[zs9.mp hq];exact Y1 rfl,fun q _ par n hf=>nomatch hf⟩
theorem Bm:Ur rows gs p [p] (fun _=>0) (fun _=>none):=⟨rfl,fun q hq hne=>absurd (zs9.mp hq) hne⟩
end
section
variable{rows:List (List Int)}{gs:List V}
theorem Ch.somes{q e:Nat}{st:List (Nat×Option Int)}{w:Option Int}(h:Ch rows gs q st e w):w≠none->∀ s∈st,s.2≠none:=by
 induction h with
 | one q w=>intro hw s hs;simp at hs;subst hs;exact hw
 | step a h ih =>
   intro hw s hs;rcases zs7.mp hs with rfl|z
   ·exact fun z=>nomatch z
   ·exact ih hw s z
theorem Ch.near{q e:Nat}{st:List (Nat×Option Int)}{w:Option Int}(h:Ch rows gs q st e w):∀ s∈st,s.1=q\/∃ m,gs[s.1]?=some (V.int m):=by
 induction h with
 | one q w=>intro s hs;simp at hs;subst hs;exact .inl rfl
 | @step q q' e n st w a h ih =>
   intro s hs;rcases zs7.mp hs with rfl|z
   ·exact .inl rfl
   ·rcases ih s z with z|z
    ·exact .inr ⟨n,by rw[z];exact a.2⟩
    ·exact .inr z
theorem Ch.single{q e:Nat}{st:List (Nat×Option Int)}{w:Option Int}(h:Ch rows gs q st e w)(hl:st.length<=1):st=[(q,w)]/\e=q:=by
 cases h with
 | one=>exact⟨rfl,rfl⟩
 | step a h=>have:=h.pos;rw[ztk] at hl;omega
structure Ui(rows:List (List Int))(gs:List V)(i:Nat):Prop where
 fill:Yl rows gs
 ahead:∀ q n,gs[q]?=some (V.int n)->q<i
 stuck:∀ p,p<i->gs[p]?=some .non->Qq rows gs p
theorem Ui.non(F:Ui rows gs i)(hk:i<=k)(hr:k<rows.length):gs[k]?=some .non:=by
 have hl:k<gs.length:=by rw[F.fill.len];exact hr
 have e:=zs4 hl;rcases F.fill.one _ (ztz hl) with z|⟨n,z⟩
 ·rw[e,z]
 ·rw[z] at e;have:=F.ahead k n e;omega
theorem Ui.step{i e:Nat}{st:List (Nat×Option Int)}{w:Option Int}(F:Ui rows gs i)(hi:i<rows.length)(c:Y6 rows gs i st e w):Ui rows (Yp st gs) (i+1):=by
 have hnon:=F.non (ztb i) hi;cases w with
 | none =>
   obtain⟨h1,h2,h3⟩:=c.none rfl;have hei:e=i:=by
    have hge:=h2 i 0 .nil;rcases(show e=i\/∃ m,gs[e]?=some (V.int m) by
     obtain⟨s,hs,rfl⟩:=ztd.mp c.ch.last;exact c.ch.near s hs) with z|⟨m,z⟩
    ·exact z
    ·have:=F.ahead e m z;omega
   have hst:st=[(i,none)]:=(c.ch.single (by have:=h3 0 (hei▸.nil);omega)).1;have hl:i<gs.length:=by rw[F.fill.len];exact hi
   have same:Yp st gs=gs:=by
    rw[hst];show gs.set i .non=gs;refine List.ext_getElem? fun k=>?_;by_cases hk:i=k
    ·subst hk;rw[zt4 hl,hnon]
    ·rw[zt2 hk]
   rw[same];refine⟨F.fill,fun q n hq=>zuz (F.ahead q n hq),fun p hp hpn=>?_⟩;by_cases hpi:p=i
   ·subst hpi;exact zc6 F.fill hi F.ahead h1
   ·exact F.stuck p ⋯ hpn
 | some n0 =>
   obtain⟨hf,_⟩:=c.free n0 rfl;have nd:=c.nodup;have FP':=c.fill F.fill hi;have at_:∀ k,k<gs.length->(k∉st.map (·.1)/\(Yp st gs)[k]?=gs[k]?)\/∃ w,(k,w)∈st/\(Yp st gs)[k]?=some (oV w):=fun k hk=>X6 nd hk;have lt:∀ {k:Nat} {v:V},(Yp st gs)[k]?=some v->k<gs.length:=fun {k v} hk=>by
    have:=(zs5.mp hk).1;rw[Xs] at this;exact this
   refine⟨FP',fun q n hq=>?_,fun p hp hpn=>?_⟩
   ·rcases at_ q (lt hq) with ⟨_,h2⟩|⟨w',h1,_⟩
    ·rw[h2] at hq;exact zuz (F.ahead q n hq)
    ·rcases c.ch.near _ h1 with z|⟨m,z⟩
     ·have:q=i:=z;omega
     ·exact zuz (F.ahead q m z)
   ·rcases at_ p (lt hpn) with ⟨h1,h2⟩|⟨w',h1,h2⟩
    ·rw[h2] at hpn;have hpi:p≠i:=fun z=>by
      obtain⟨x,r,e⟩:=c.ch.hd;exact h1 (by rw[z,e];simp)
     exact(F.stuck p ⋯ hpn).behind F.fill c.ch hf hi nd
    ·have:=c.ch.somes (by simp) _ h1;rw[h2] at hpn;cases w' with
     | none=>exact absurd rfl this
     | some m=>cases hpn
theorem Jv(rows:List (List Int)):Ui rows (rows.map fun _=>V.non) 0:=by
 have h0:∀ (k:Nat) (n:Int),(rows.map fun _=>V.non)[k]?≠some (V.int n):=fun k n h=>by
  rw[zta] at h;cases e:rows[k]? with
  | none=>rw[e] at h;cases h
  | some r=>rw[e] at h;cases h
 exact⟨⟨by rw[zs3],fun x hx=>by obtain⟨_,_,rfl⟩:=ztd.mp hx;exact .inl rfl,fun k n h=>absurd h (h0 k n),fun j k n h=>absurd h (h0 j n)⟩,fun q n h=>absurd h (h0 q n),fun p hp=>absurd hp (zu3 _)⟩
theorem Ui.last(F:Ui rows gs rows.length):Vs rows gs:=fun p hp=>F.stuck p (by have:=(zs5.mp hp).1;rw[F.fill.len] at this;exact this) hp
end
end G
namespace G
open PySem PySem.Spec PyProof.Rows L2
section
variable{rows:List (List Int)}{gs:List V}
theorem Ch.pred{q e:Nat}{st:List (Nat×Option Int)}{w:Option Int}(h:Ch rows gs q st e w):∀ q'∈st.map (·.1),q'=q\/∃ q0 n,(q0,some n)∈st/\gs[q']?=some (V.int n):=by
 induction h with
 | one q w=>intro q' hq;simp at hq;exact .inl hq
 | @step q q1 e n st w a h ih =>
   intro q' hq;rw[ztf] at hq;rcases zs7.mp hq with z|z
   ·exact .inl z
   ·rcases ih q' z with z|⟨q0,m,h1,h2⟩
    ·exact .inr ⟨q,n,ztn,by rw[z];exact a.2⟩
    ·exact .inr ⟨q0,m,ztj _ h1,h2⟩
theorem Ch.reach{q e:Nat}{st:List (Nat×Option Int)}{w:Option Int}(h:Ch rows gs q st e w):∀ q'∈st.map (·.1),∃ k,Walk rows gs q q' k:=by
 induction h with
 | one q w=>intro q' hq;simp at hq;rw[hq];exact⟨0,.nil⟩
 | @step q q1 e n st w a h ih =>
   intro q' hq;rw[ztf] at hq;rcases zs7.mp hq with z|z
   ·rw[z];exact⟨0,.nil⟩
   ·obtain⟨k,hk⟩:=ih q' z;exact⟨k+1,.cons a hk⟩
theorem Ch.noneLast{q e:Nat}{st:List (Nat×Option Int)}{w:Option Int}(h:Ch rows gs q st e w):∀ k,(k,none)∈st->k=e/\w=none:=by
 induction h with
 | one q w=>intro k hk;simp at hk;exact⟨hk.1,hk.2.symm⟩
 | @step q q1 e n st w a h ih =>
   intro k hk;rcases zs7.mp hk with z|z
   ·cases z
   ·exact ih k z
theorem Ch.along{R:Nat->Prop}(hs:∀ q n q',adjN rows gs q n q'->R q->R q'){q e:Nat}{st:List (Nat×Option Int)}{w:Option Int}(h:Ch rows gs q st e w):R q->R e:=by
 induction h with
 | one q w=>exact fun z=>z
 | step a h ih=>exact fun z=>ih (hs _ _ _ a z)
theorem Ch.lastMem{q e:Nat}{st:List (Nat×Option Int)}{w:Option Int}(h:Ch rows gs q st e w):(e,w)∈st:=by
 induction h with
 | one q w=>simp
 | step a h ih=>exact ztj _ ih
theorem zde{st:List (Nat×Option Int)}(nd:(st.map (·.1)).Nodup){k:Nat}{w w':Option Int}(h:(k,w)∈st)(h':(k,w')∈st):w=w':=by
 induction st with
 | nil=>cases h
 | cons s r ih =>
   rw[ztf,ztx] at nd;rcases zs7.mp h with z|z<;>rcases zs7.mp h' with z'|z'
   ·rw[<- z] at z';exact(Prod.mk.inj z').2.symm
   ·exact absurd (ztd.mpr ⟨_,z',by rw[<- z]⟩) nd.1
   ·exact absurd (ztd.mpr ⟨_,z,by rw[<- z']⟩) nd.1
   ·exact ih nd.2 z z'
theorem ze5{st:List (Nat×Option Int)}{xs:List V}(nd:(st.map (·.1)).Nodup){k:Nat}{w:Option Int}(h:(k,w)∈st)(hk:k<xs.length):(Yp st xs)[k]?=some (oV w):=by
 rcases X6 nd hk with ⟨h1,_⟩|⟨w',h1,h2⟩
 ·exact absurd (ztd.mpr ⟨_,h,rfl⟩) h1
 ·rw[h2,zde nd h1 h]
theorem Ch.moved{p e:Nat}{st:List (Nat×Option Int)}{w:Option Int}(FP:Yl rows gs)(h:Ch rows gs p st e w)(hp:p<rows.length)(hn:gs[p]?=some .non)(nd:(st.map (·.1)).Nodup){q':Nat}{n:Int}(hq:gs[q']?=some (V.int n)) :
  (q'∉st.map (·.1)/\(Yp st gs)[q']?=some (V.int n))\/∃ q0,(q0,some n)∈st/\(Yp st gs)[q0]?=some (V.int n):=by
 have hl:q' < gs.length:=(zs5.mp hq).1;by_cases hm:q'∈st.map (·.1)
 ·rcases h.pred q' hm with z|⟨q0,m,h1,h2⟩
  ·rw[z,hn] at hq;cases hq
  ·rw[hq] at h2;cases h2;refine .inr ⟨q0,h1,?_⟩;have:=h.lt FP hp _ h1;exact ze5 nd h1 (by rw[FP.len];exact this)
 ·rcases X6 nd hl with ⟨_,h2⟩|⟨w',h1,_⟩
  ·exact .inl ⟨hm,by rw[h2];exact hq⟩
  ·exact absurd (ztd.mpr ⟨_,h1,rfl⟩) hm
end
section
variable{rows:List (List Int)}{gs:List V}{p e:Nat}{x:Int}{st:List (Nat×Option Int)}{w:Option Int}
def without(rows:List (List Int))(x:Int):List (List Int):=rows.map fun r=>r.filter fun n=>decide (n≠x)
theorem Tj{q:Nat}{r':List Int}(h:(without rows x)[q]?=some r'):∃ r,rows[q]?=some r/\∀ n∈r',n∈r/\n≠x:=by
 unfold without at h;rw[zta] at h;cases e:rows[q]? with
 | none=>rw[e] at h;cases h
 | some r =>
   rw[e] at h;cases h;exact⟨r,rfl,fun n hn=>⟨(zt9.mp hn).1,of_decide_eq_true (zt9.mp hn).2⟩⟩
theorem Uj(FP:Yl rows gs)(hx:gs[p]?=some (.int x)):Yl (without rows x) (gs.set p .non):=FP.without hx _ fun n hn=>by
 have:=of_decide_eq_false hn;rw[Classical.not_not.mp this]
theorem zdf(hx:gs[p]?=some (.int x)):(gs.set p V.non)[p]?=some .non:=by rw[zt4 (zs5.mp hx).1]
theorem As(hx:gs[p]?=some (.int x))(h:(gs.set p V.non)[q]?=some (.int n)):gs[q]?=some (.int n)/\q≠p:=by
 by_cases e:p=q
 ·subst e;rw[zdf hx] at h;cases h
 ·rw[zt2 e] at h;exact⟨h,Ne.symm e⟩
theorem Oi{q:Nat}{n:Int}(hx:gs[p]?=some (.int x))(h:gs[q]?=some (.int n))(hn:n≠x):(gs.set p V.non)[q]?=some (.int n):=by
 rw[zt2 (fun z=>by subst z;rw[hx] at h;cases h;exact hn rfl)];exact h
theorem E7(FP:Yl rows gs)(SP:Vs rows gs)(hx:gs[p]?=some (.int x))(C:Y6 (without rows x) (gs.set p .non) p st e w):Vs (without rows x) (Yp st (gs.set p .non)):=by
 have FP0:=Uj FP hx;have hRl:(without rows x).length=rows.length:=by unfold without;rw[zs3]
 have hp:p<rows.length:=by have:=(zs5.mp hx).1;rw[FP.len] at this;exact this
 have hp0:p<(without rows x).length:=by rw[hRl];exact hp
 have nd:=C.nodup;have hpm:p∈st.map (·.1):=by obtain⟨y,r,e'⟩:=C.ch.hd;rw[e'];simp
 have moved:=fun {q':Nat} {n:Int} (hq:(gs.set p V.non)[q']?=some (V.int n))=>C.ch.moved FP0 hp0 (zdf hx) nd hq;have closedT:w=none->∀ q,(∃ k,Walk (without rows x) (gs.set p .non) p q k)->q<(without rows x).length/\∀ r,(without rows x)[q]?=some r->∀ n∈r,∃ q2,q2<e/\(Yp st (gs.set p .non))[q2]?=some (.int n)/\∃ k,Walk (without rows x) (gs.set p .non) p q2 k:=by
  rintro hw q ⟨k,hk⟩;obtain⟨c1,c2,c3⟩:=C.none hw;refine⟨?_,fun r hr n hn=>?_⟩
  ·cases hk with
   | nil=>exact hp0
   | snoc _ a =>
     have:=(zs5.mp a.2).1;rw[FP0.len] at this;exact this
  ·by_cases hf:∃ j:Nat,(gs.set p V.non)[j]?=some (V.int n)
   ·obtain⟨q1,hq1⟩:=hf;have w1:Walk (without rows x) (gs.set p .non) p q1 (k+1):=.snoc hk ⟨⟨r,hr,hn⟩,hq1⟩;rcases moved hq1 with ⟨m1,m2⟩|⟨q0,m1,m2⟩
    ·refine⟨q1,?_,m2,_,w1⟩;have:=c2 q1 _ w1;have hne:q1≠e:=fun z=>m1 (by rw[z];exact C.ch.last);omega
    ·obtain⟨k0,hk0⟩:=C.ch.reach q0 (ztd.mpr ⟨_,m1,rfl⟩);refine⟨q0,?_,m2,k0,hk0⟩;have:=c2 q0 _ hk0;have hne:q0≠e:=fun z=>by
      have hl:=C.ch.lastMem;rw[z] at m1;rw[hw] at hl;have:=zde nd m1 hl;cases this
     omega
   ·exact absurd ⟨n,⟨r,hr,hn⟩,fun j hj=>hf ⟨j,hj⟩⟩ (c1 q k hk)
 intro p0 hpn;have hl0:p0<(gs.set p V.non).length:=by have:=(zs5.mp hpn).1;rw[Xs] at this;exact this
 rcases X6 nd hl0 with ⟨a1,a2⟩|⟨w',a1,a2⟩
 ·rw[a2] at hpn;have hpp:p≠p0:=fun z=>a1 (by rw[<- z];exact hpm);rw[zt2 hpp] at hpn;obtain⟨S0,hS,cl⟩:=SP p0 hpn;have inS:∀ q k,Walk rows gs p0 q k->S0 q:=fun q k hk=>by
   induction hk with
   | nil=>exact hS
   | @snoc q q' k n h a ih =>
     obtain⟨r,h1,h2⟩:=a.1;obtain⟨q'',_,h3,h4⟩:=(cl q ih).2 r h1 n h2;rw[<- FP.inj q'' q' n h3 a.2];exact h4
  have closed0:∀ q,(∃ k,Walk rows gs p0 q k)->q<rows.length/\∀ r,rows[q]?=some r->∀ n∈r,∃ q',q' < p0/\gs[q']?=some (.int n)/\∃ k,Walk rows gs p0 q' k:=by
   rintro q ⟨k,hk⟩;refine⟨(cl q (inS q k hk)).1,fun r hr n hn=>?_⟩;obtain⟨q',h1,h2,_⟩:=(cl q (inS q k hk)).2 r hr n hn;exact⟨q',h1,h2,k+1,.snoc hk ⟨⟨r,hr,hn⟩,h2⟩⟩
  have lt0:∀ q,(∃ k,Walk rows gs p0 q k)->q=p0\/q<p0:=by
   rintro q ⟨k,hk⟩;cases hk with
   | nil=>exact .inl rfl
   | @snoc q1 _ k n h a =>
     obtain⟨r,h1,h2⟩:=a.1;obtain⟨q',h3,h4,_⟩:=(closed0 q1 ⟨k,h⟩).2 r h1 n h2;rw[<- FP.inj q' q n h4 a.2];exact .inr h3
  have along:∀ {q:Nat} {st':List (Nat×Option Int)} {w':Option Int},Ch (without rows x) (gs.set p .non) q st' e w'->(∃ k,Walk rows gs p0 q k)->∃ k,Walk rows gs p0 e k:=fun {q st' w'} hc =>
   hc.along (R:=fun q=>∃ k,Walk rows gs p0 q k) fun q n q' a ⟨k,hk⟩=>by
    obtain⟨r',h1,h2⟩:=a.1;obtain⟨r,h3,h4⟩:=Tj h1;exact⟨k+1,.snoc hk ⟨⟨r,h3,(h4 n h2).1⟩,(As hx a.2).1⟩⟩
  by_cases hpath:∃ q∈st.map (·.1),∃ k,Walk rows gs p0 q k
  ·obtain⟨q1,hq1,hk1⟩:=hpath;obtain⟨st',c1,_⟩:=C.ch.drop q1 hq1;have hRe:=along c1 hk1;cases hw:w with
   | some n0 =>
     obtain⟨⟨r',f1,f2⟩,f3⟩:=(C.free n0 hw).1;obtain⟨r,g1,g2⟩:=Tj f1;obtain⟨q',_,h2,_⟩:=(closed0 e hRe).2 r g1 n0 (g2 n0 f2).1;exact absurd (Oi hx h2 (g2 n0 f2).2) (f3 q')
   | none =>
     have clT:=closedT hw;obtain⟨_,cmax,_⟩:=C.none hw;have hep:e<p0:=by
      have hfe:∃ m,gs[e]?=some (V.int m):=by
       obtain⟨s,hs,hse⟩:=ztd.mp C.ch.last;rcases C.ch.near s hs with z|⟨m,z⟩
       ·rw[<- hse,z];exact⟨x,hx⟩
       ·rw[hse] at z;exact⟨m,(As hx z).1⟩
      obtain⟨m,hm⟩:=hfe;rcases lt0 e hRe with z|z
      ·rw[z,hpn] at hm;cases hm
      ·exact z
     refine⟨fun q=>(∃ k,Walk rows gs p0 q k)\/∃ k,Walk (without rows x) (gs.set p .non) p q k,.inl ⟨0,.nil⟩,fun q hq=>?_⟩;rcases hq with hq|hq
     ·refine⟨by rw[hRl];exact(closed0 q hq).1,fun r' hr' n hn=>?_⟩;obtain⟨r,g1,g2⟩:=Tj hr';obtain⟨q',h1,h2,h3⟩:=(closed0 q hq).2 r g1 n (g2 n hn).1;rcases moved (Oi hx h2 (g2 n hn).2) with ⟨_,m2⟩|⟨q0,m1,m2⟩
      ·exact⟨q',h1,m2,.inl h3⟩
      ·obtain⟨k0,hk0⟩:=C.ch.reach q0 (ztd.mpr ⟨_,m1,rfl⟩);have:=cmax q0 k0 hk0;exact⟨q0,by omega,m2,.inr ⟨k0,hk0⟩⟩
     ·obtain⟨t1,t2⟩:=clT q hq;refine⟨t1,fun r hr n hn=>?_⟩;obtain⟨q2,h1,h2,h3⟩:=t2 r hr n hn;exact⟨q2,by omega,h2,.inr h3⟩
  ·refine⟨fun q=>∃ k,Walk rows gs p0 q k,⟨0,.nil⟩,fun q hq=>⟨by rw[hRl];exact(closed0 q hq).1,fun r' hr' n hn=>?_⟩⟩;obtain⟨r,g1,g2⟩:=Tj hr';obtain⟨q',h1,h2,h3⟩:=(closed0 q hq).2 r g1 n (g2 n hn).1;rcases moved (Oi hx h2 (g2 n hn).2) with ⟨_,m2⟩|⟨q0,m1,m2⟩
   ·exact⟨q',h1,m2,h3⟩
   ·rcases X6 nd (show q' < (gs.set p V.non).length from(zs5.mp (Oi hx h2 (g2 n hn).2)).1) with ⟨_,b2⟩|⟨w2,b1,_⟩
    ·exact⟨q',h1,by rw[b2];exact Oi hx h2 (g2 n hn).2,h3⟩
    ·exact absurd ⟨q',ztd.mpr ⟨_,b1,rfl⟩,h3⟩ hpath
 ·rw[a2] at hpn;cases w' with
  | some n=>cases hpn
  | none =>
    obtain⟨b1,b2⟩:=C.ch.noneLast p0 a1;subst b1;exact⟨_,⟨0+(C.ch.reach p0 (ztd.mpr ⟨_,a1,rfl⟩)).choose,by rw[Nat.zero_add];exact(C.ch.reach p0 (ztd.mpr ⟨_,a1,rfl⟩)).choose_spec⟩,closedT b2⟩
end
end G
namespace L2
open PySem PySem.Spec PyProof.Rows
inductive ze6(x:V)(vs:List V)(H:Hp)(Q:VK):Prop where
 | mk(d e:Addr)(kvs more:List (Key×V))(_:x=.ref d)(_:vs=[.ref e])(_:d≠e)(_:H d=some (.dK kvs))(_:H e=some (.dK more))(_:kvs.length+more.length<=sizeLine)(_:Q .non (upd H d (.dK (Vr kvs more))))
theorem zbc:MtM X "dict.update" ze6:=by
 intro pins s σ H x vs v us Q I rx rv h;obtain⟨d,e,kvs,more,rfl,rfl,ne,hd,he,hz,q⟩:=h;cases rx;obtain⟨u,rfl,ru⟩:=rv.one;cases (show u=Value.ref e from ru);obtain⟨z1,lo1,vs1,r1,dd1⟩:=Ei I.hok hd;obtain⟨z2,lo2,vs2,r2,dd2⟩:=Ei I.hok he;refine call_meetsIn PySem.F.slot_dict_update dd1.typeIs PySem.F.entry_dict_update (PySem.F.args_dict_update_2 _ _) (meets_dict_update (Yd X.prog X.w) d e ne lo2) ⟨vs1,vs2,dd1,dd2,by rw[<- r1.length,<- r2.length];exact hz,fun h' dd1' dd2' hs=>?_⟩;have hex:∃ q,h'.get? d=some q:=let ⟨q,_,_,hq,_⟩:=dd1';⟨q,hq⟩;refine⟨.non,_,Qm (t':=s.toks) I (by rw[hd];exact True.intro) hs hex (G3 ?_ lo1 (r2.merge r1) dd1'),rfl,q⟩;exact zto (Tp more kvs) hz
section
variable{prog:Program}{w:World}{A:Around}{E:Value->Shared->Prop}{s:Shared}{T:String}{r d:Addr}{n:Nat}{P:Nat->Value->Prop}{OK:Heap->Prop}
open PySem.W in
theorem zdg(K:KdlSrc prog w T r d n P OK)(hh:A.handled=none)(hok:OK s.heap)(hn:n<=sizeLine)
  (h:∀ h' tk (acc:Array Value),(∀ b o,s.heap.get? b=some o->h'.get? b=some o)->s.heap.objs.size<=h'.objs.size->ItemsOf P acc n->Q acc.toList { s with heap:=h',toks:=tk }) :
  wpAny (model prog w) A (collect (.ref r)) Q E s:=by
 unfold collect;have hlt:=K.there _ hok;refine wpAny_bind (wpAny_runValue (codeAny_builtin entry_proto_collect' ?_));show wpAny _ _ (do again (.builtin "list.__iadd__" ⟨[<- newList [],.ref r],[]⟩)) _ _ s;refine wpAny_bind (wpAny_newList (wpAny_pure ⟨Code.quiet_builtin _ ⋯,codeAny_builtin entry_list_iadd' ?_⟩));show wpAny _ _ (Builtin.List.listExtendWith (.ref s.heap.objs.size) (.ref r) (.ref s.heap.objs.size)) _ _ { s with heap:=s.heap.push (seqObj "list" #[] 0) };have hS:(s.heap.push (seqObj "list" #[] 0)).get? s.heap.objs.size=some { cls:=.type "list",data:=.seq #[] 0 }:=Heap.get?_push_size _ rfl;rw[Around.under_plainId (show plainId "list.__iadd__"=true by decide +kernel) _];refine kdl_extend (R:=fun r s'=>match r with
   | .ok (.ret v)=>wpAny (model prog w) A (match v with
         | Value.ref a=>do
           let o <- load a
           match o.data with
            | Data.seq xs _=>pure xs.toList
            | _=>unsupported "internal:collect"
         | _=>unsupported "internal:collect") Q E s'
   | .ok _=>False
   | .error e=>E e s') (s:={ s with heap:=s.heap.push (seqObj "list" #[] 0) }) K hh (K.keep _ _ hok fun b _ o e=>Heap.get?_push_of_some _ e) s.heap.objs.size (Nat.ne_of_gt hlt.1) (Nat.ne_of_gt hlt.2) _ 0 hS (fun h' tk acc c' hk hS' hacc=>?_) hn
 show wpAny (model prog w) A (do
   let o <- load s.heap.objs.size
   match o.data with
   | .seq xs _=>pure xs.toList
   | _=>unsupported "internal:collect") Q E _
 refine wpAny_bind (wpAny_load hS' ?_);exact wpAny_pure (h h' tk acc (fun b o e=>hk b o (ztv (Heap.lt_size e)) (Heap.get?_push_of_some _ e)) (zu5 (Heap.lt_size hS')) hacc)
theorem Au:∀ {its:List Value} {ns:List Int},its.length=ns.length->(∀ (j:Nat) (v:Value),its[j]?=some v->∃ t,v=.int (ns.getD j 0) t)->IntsAre its ns
 | [],[],_,_=>.nil
 | v :: its,n :: ns,hl,h=>by
   obtain⟨t,e⟩:=h 0 v rfl;rw[e];exact .cons _ t (Au (by simpa using hl) fun j u hu=>h (j+1) u hu)
 | [],_ :: _,hl,_=>by simp at hl
 | _ :: _,[],hl,_=>by simp at hl
theorem Oj(hc:X.calm=true):Wf X (.builtin "sorted") (fun xs H Q=>∃ (a:Addr) (kvs:List (Key×V)) (ns:List Int),xs=[.ref a]/\Rd H a (.dK kvs)/\kvs.map (·.1)=ns.map (inl:Int->Key)/\ns.length<64/\∀ (l:Addr) (ns':List Int),H l=none->ns'.Perm ns->ns'.Pairwise (·<=·)->Q (.ref l) (upd H l (.lst (ns'.map V.int)))):=by
 intro pins s σ H xs us Q I r h;obtain⟨a,kvs,ns,rfl,ha,hns,h64,q⟩:=h;obtain⟨u,rfl,ru⟩:=Tg r;cases (show u=Value.ref a from ru);obtain⟨hz,lo,vs,kv,o,es,ep,e1,e2⟩:=Rv I.hok ha;have hl:kvs.length=vs.length:=KV.length kv;have hnl:ns.length=kvs.length:=by have:=congrArg List.length hns;rw[zs3,zs3] at this;exact this.symm
 refine Calls.call_function_entry kind_sorted plain_sorted entry_sorted (args_sorted1 _) ?_;unfold Builtin.«sorted»;refine wpAny_bind (m:=checkCount "sorted" 1 1 _) (wpAny_pure ?_);refine wpAny_bind (zdg (PySem.W.kdl_dict (knd:=Yd X.prog X.w) (kvs:=vs) (ep:=ep) lo) (I.ok.hd hc) ⟨o,es,e1,e2⟩ (by rw[<- hl];exact hz) fun h' tk acc hk hsz hacc=>?_);have hI:IntsAre acc.toList ns:=by
  refine Au (by have:=hacc.1;simp only[Array.length_toList];omega) fun j v hv=>?_;obtain⟨k,y,hk1,hk2⟩:=hacc.2 j v (by rw[<- Array.getElem?_toList];exact hv);have ek:=congrArg (·[j]?) (KV.keys kv);have en:=congrArg (·[j]?) hns;simp only[zta,hk1,zt6] at ek en;cases hkv:kvs[j]? with
  | none=>rw[hkv] at ek;cases ek
  | some p =>
    rw[hkv] at ek en;cases hn:ns[j]? with
    | none=>rw[hn] at en;cases en
    | some m =>
      rw[hn] at en;have e3:p.1=k:=Option.some.inj ek;have e4:p.1=inl m:=Option.some.inj en;rw[<- e3,e4] at hk2;rw[ztu,hn];rcases Yn (show Lq (inl m:Key) v=true from hk2) with ⟨i,t,e5,e6⟩|⟨z,t,e5,_⟩
      ·cases e5;exact⟨t,e6⟩
      ·cases e5
 refine wpAny_bind (wpAny_newList ?_);have hoL:(h'.push (seqObj "list" acc.toList.toArray 0)).get? h'.objs.size=some (seqObj "list" acc.toList.toArray 0):=Heap.get?_push_size _ rfl;show wpAny _ _ _ _ _ { s with heap:=h'.push (seqObj "list" acc.toList.toArray 0),toks:=tk };refine wpAny_bind (wpAny_holding (wpAny_call_entry slot_list_sort ⟨_,hoL,rfl⟩ entry_list_sort (list_sort_tree hoL hI (by simp only[Array.length_toList];have:=hacc.1;omega) fun out ns' a1 a2 a3=>⟨_,rfl,?_⟩) (args_list_sort _)));have hge:s.heap.objs.size<=h'.objs.size:=hsz;have hf:H h'.objs.size=none:=I.hok.fresh hge;refine wpAny_pure ⟨_,rfl,.ref h'.objs.size,upd H h'.objs.size (.lst (ns'.map V.int)),I.laid (t':=tk) (fun b u eb=>?_) hge ?_,rfl,q _ ns' hf a2 a3⟩
 ·have e0:=hk b u eb;have hb:b<(h'.push (seqObj "list" acc.toList.toArray 0)).objs.size:=Heap.lt_size (Heap.get?_push_of_some _ e0);rw[sortedHeap_old (ztv (Heap.lt_size e0)) hb];exact Heap.get?_push_of_some _ e0
 ·obtain⟨e9,h9⟩:=sortedHeap_at (out:=out) hoL;exact⟨by rw[zs3,a2.length_eq];exact zu5 (Ul ⋯),out.toList,e9,Nb a1,h9⟩
end
end L2
namespace G
open PySem PySem.Spec PyProof.Rows L2
section
variable{α:Type}[DecidableEq α]{f:α->Key}
def Jw(acc:List α)(x:α):List α:=if x∈acc then acc else acc++[x]
def Ga(pl ml:List α):List α:=ml.foldl Jw pl
theorem E8(hf:∀ a b,f a=f b->a=b)(h:kvs.map (·.1)=pl.map f)(x:α)(v:V):(putK kvs (f x) v).map (·.1)=(Jw pl x).map f:=by
 have ha:(kvs.any fun kv=>decide (kv.1=f x))=true↔x∈pl:=by
  rw[zuu];constructor
  ·rintro⟨kv,h1,h2⟩;have:kv.1∈kvs.map (·.1):=ztd.mpr ⟨_,h1,rfl⟩;rw[h] at this;obtain⟨y,h3,h4⟩:=ztd.mp this;rw[<- hf _ _ (h4.trans (of_decide_eq_true h2))];exact h3
  ·intro hx;have:f x∈kvs.map (·.1):=by rw[h];exact ztd.mpr ⟨_,hx,rfl⟩
   obtain⟨kv,h1,h2⟩:=ztd.mp this;exact⟨kv,h1,zs6 h2⟩
 unfold putK Jw;by_cases hx:x∈pl
 ·rw[if_pos (ha.mpr hx),if_pos hx,<- h,zup];refine zuf fun kv _=>?_;show (if kv.1=f x then (kv.1,v) else kv).1=kv.1;split<;>rfl
 ·rw[if_neg (fun z=>hx (ha.mp z)),if_neg hx,ztl,ztl,h];rfl
theorem Kf(hf:∀ a b,f a=f b->a=b):∀ {more kvs:List (Key×V)} {pl ml:List α},kvs.map (·.1)=pl.map f->more.map (·.1)=ml.map f->(Vr kvs more).map (·.1)=(Ga pl ml).map f
 | [],kvs,pl,[],h,_=>h
 | p :: more,kvs,pl,x :: ml,h,h2=>by
   rw[ztf,ztf] at h2;injection h2 with e1 e2;have:=E8 hf h x p.2;rw[<- e1] at this;exact Kf hf (kvs:=putK kvs p.1 p.2) (pl:=Jw pl x) (ml:=ml) this e2
 | [],_,_,_ :: _,_,h2=>by simp at h2
 | _ :: _,_,_,[],_,h2=>by simp at h2
theorem E9{pl:List α}{x y:α}:y∈Jw pl x↔y∈pl\/y=x:=by
 unfold Jw;by_cases h:x∈pl
 ·rw[if_pos h];exact⟨.inl,fun z=>z.elim id fun e=>by rw[e];exact h⟩
 ·rw[if_neg h];simp
theorem Kg{pl:List α}{x:α}(h:pl.Nodup):(Jw pl x).Nodup:=by
 unfold Jw;by_cases hx:x∈pl
 ·rw[if_pos hx];exact h
 ·rw[if_neg hx,List.nodup_append];exact⟨h,by simp,fun a ha b hb e=>hx (by rw[zs9.mp hb] at e;rw[<- e];exact ha)⟩
theorem Gb:∀ {ml pl:List α} {y:α},y∈Ga pl ml↔y∈pl\/y∈ml
 | [],pl,y=>by unfold Ga;simp
 | x :: ml,pl,y=>by
   show y∈Ga (Jw pl x) ml↔_;rw[Gb,E9,zs7,or_assoc]
theorem Md:∀ {ml pl:List α},pl.Nodup->(Ga pl ml).Nodup
 | [],pl,h=>h
 | x :: ml,pl,h=>Md (ml:=ml) (Kg h)
end
theorem zjq:∀ a b:Int,(inl a:Key)=inl b->a=b:=fun a b h=>inl.inj h
theorem zjr:∀ a b:Nat,(inl (a:Int):Key)=inl (b:Int)->a=b:=fun a b h=>by have:=inl.inj h;omega
theorem Dc{α:Type}[DecidableEq α]{a b:List α}(ha:a.Nodup)(hb:b.Nodup)(h:∀ x,x∈a↔x∈b):a.length=b.length :=
 Nat.le_antisymm (ha.length_le_of_subset fun x hx=>(h x).mp hx) (hb.length_le_of_subset fun x hx=>(h x).mpr hx)
section
variable{rows:List (List Int)}{gs:List V}
def Dd(rows:List (List Int))(gs:List V):Prop:=∀ p,gs[p]?=some .non->∀ q k,Walk rows gs p q k->¬ V3 rows gs q
structure Kh(rows:List (List Int))(gs:List V)(ps:List Nat)(rs:List Int):Prop where
 up:ps.Pairwise (· < ·)
 lt:∀ p∈ps,p<rows.length
 rup:rs.Pairwise (· < ·)
 all:∀ n,n∈rs↔∃ p∈ps,∃ r,rows[p]?=some r/\n∈r
 cnt:ps.length=rs.length+(W9 gs).length
 nil:W9 gs=[]->ps=[]
 gap:∀ p,gs[p]?=some .non->p∈ps
 has:∀ n∈rs,∃ p∈ps,gs[p]?=some (.int n)
theorem Us:p∈W9 gs↔gs[p]?=some .non:=by
 unfold W9;rw[zt9,zt7];constructor
 ·exact fun h=>of_decide_eq_true h.2
 ·exact fun h=>⟨(zs5.mp h).1,zs6 h⟩
theorem Bn:(W9 gs).Nodup:=List.nodup_range.filter _
def De(x:Option V):Option Int:=match x with|some (.int n)=>some n|_=>none
theorem Sw:De x=some n↔x=some (.int n):=by
 unfold De;constructor
 ·intro h;split at h
  ·cases h;rfl
  ·cases h
 ·intro h;rw[h]
theorem zfr:∀ {ps:List Nat},(∀ p∈ps,∃ x,gs[p]?=some x/\oneV x)->ps.length=(ps.filterMap fun p=>De gs[p]?).length+(ps.filter fun p=>decide (gs[p]?=some .non)).length
 | [],_=>rfl
 | p :: ps,h=>by
   have ih:=zfr (ps:=ps) fun q hq=>h q (ztj _ hq);obtain⟨x,hx,ho⟩:=h p ztn;rcases ho with rfl|⟨n,rfl⟩
   ·rw[List.filterMap_cons_none (by rw[hx];rfl),List.filter_cons_of_pos (by rw[hx];simp),ztk,ztk,ih];omega
   ·rw[List.filterMap_cons_some (b:=n) (by rw[hx];rfl),List.filter_cons_of_neg (by rw[hx];simp),ztk,ztk,ih];omega
theorem V8(FP:Yl rows gs):∀ {ps:List Nat},ps.Nodup->(ps.filterMap fun p=>De gs[p]?).Nodup
 | [],_=>zuv
 | p :: ps,h=>by
   rw[ztx] at h;rw[zus];split
   ·exact V8 FP h.2
   ·rename_i n hn;rw[ztx];refine⟨fun hm=>?_,V8 FP h.2⟩;obtain⟨q,hq,e⟩:=zum.mp hm;have:=FP.inj p q n (Sw.mp hn) (Sw.mp e);rw[this] at h;exact h.1 hq
theorem zdh(FP:Yl rows gs)(NA:Dd rows gs){pl:List Nat}{rl:List Int}(hpn:pl.Nodup)(hpm:∀ q,q∈pl↔∃ g k,gs[g]?=some .non/\Walk rows gs g q k)(hrn:rl.Nodup)(hrm:∀ n,n∈rl↔∃ p∈pl,∃ r,rows[p]?=some r/\n∈r)
  {pi rs:List Int} (h1:pi.Perm (pl.map fun q:Nat=>(q:Int))) (h2:pi.Pairwise (·<=·)) (h3:rs.Perm rl) (h4:rs.Pairwise (·<=·)):∃ ps:List Nat,pi=ps.map (fun q:Nat=>(q:Int))/\Kh rows gs ps rs:=by
 have hlt:∀ q∈pl,q<rows.length:=fun q hq=>by
  obtain⟨g,k,hg,hw⟩:=(hpm q).mp hq;cases hw with
  | nil=>rw[<- FP.len];exact(zs5.mp hg).1
  | snoc _ a=>rw[<- FP.len];exact(zs5.mp a.2).1
 have hpi:∀ x∈pi,0<=x:=fun x hx=>by
  obtain⟨q,_,e⟩:=ztd.mp (h1.mem_iff.mp hx);rw[<- e];omega
 have epi:pi=(pi.map Int.toNat).map (fun q:Nat=>(q:Int)):=by
  rw[zup]
  conv=>lhs;rw[<- List.map_id pi]
  refine zuf fun x hx=>?_;show x=((x.toNat:Nat):Int);rw[Int.toNat_of_nonneg (hpi x hx)]
 have hpp:(pi.map Int.toNat).Perm pl:=by
  have:=h1.map Int.toNat;rw[zup] at this;have e:pl.map (Int.toNat∘fun q:Nat=>(q:Int))=pl:=by
   conv=>rhs;rw[<- List.map_id pl]
   exact zuf fun q _=>ztq q
  rw[e] at this;exact this
 have nps:(pi.map Int.toNat).Nodup:=hpp.nodup_iff.mpr hpn;have strictly:∀ {l:List Int},l.Pairwise (·<=·)->l.Nodup->l.Pairwise (· < ·):=fun {l} a b=>(List.Pairwise.and a b).imp fun ⟨x,y⟩=>by omega
 generalize hps:pi.map Int.toNat=ps at epi hpp nps;have npi:pi.Nodup:=h1.nodup_iff.mpr (List.pairwise_map.mpr (hpn.imp fun h z=>h ⋯));have mem:∀ q,q∈ps↔q∈pl:=fun q=>hpp.mem_iff;have rmem:∀ n,n∈rs↔n∈rl:=fun n=>h3.mem_iff;have nrs:rs.Nodup:=h3.nodup_iff.mpr hrn;have gap:∀ p,gs[p]?=some .non->p∈ps:=fun p hp=>(mem p).mpr ((hpm p).mpr ⟨p,0,hp,.nil⟩);have all:∀ n,n∈rs↔∃ p∈ps,∃ r,rows[p]?=some r/\n∈r:=fun n=>by
  rw[rmem,hrm];exact⟨fun ⟨p,a,b⟩=>⟨p,(mem p).mpr a,b⟩,fun ⟨p,a,b⟩=>⟨p,(mem p).mp a,b⟩⟩
 have has:∀ n∈rs,∃ p∈ps,gs[p]?=some (.int n):=fun n hn=>by
  obtain⟨p,hp,r,h5,h6⟩:=(all n).mp hn;obtain⟨g,k,hg,hw⟩:=(hpm p).mp ((mem p).mp hp);by_cases hx:∃ j:Nat,gs[j]?=some (V.int n)
  ·obtain⟨j,hj⟩:=hx;exact⟨j,(mem j).mpr ((hpm j).mpr ⟨g,k+1,hg,.snoc hw ⟨⟨r,h5,h6⟩,hj⟩⟩),hj⟩
  ·exact absurd ⟨n,⟨r,h5,h6⟩,fun j hj=>hx ⟨j,hj⟩⟩ (NA g hg p k hw)
 refine⟨ps,epi,?_,fun p hp=>hlt p ((mem p).mp hp),strictly h4 nrs,all,?_,fun hz=>?_,gap,has⟩
 ·have:=strictly h2 npi;rw[epi,List.pairwise_map] at this;exact this.imp fun h=>by omega
 ·have hone:∀ p∈ps,∃ x,gs[p]?=some x/\oneV x:=fun p hp=>by
   have hl:p<gs.length:=by rw[FP.len];exact hlt p ((mem p).mp hp)
   exact⟨_,zs4 hl,FP.one _ (ztz hl)⟩
  rw[zfr hone]
  congr 1
  ·refine Dc (V8 FP nps) nrs fun n=>?_;rw[zum];constructor
   ·rintro⟨p,hp,e⟩;have e:=Sw.mp e;obtain⟨r,h5,h6⟩:=FP.may p n e;exact(all n).mpr ⟨p,hp,r,h5,h6⟩
   ·intro hn;obtain⟨p,hp,e⟩:=has n hn;exact⟨p,hp,Sw.mpr e⟩
  ·refine Dc (nps.filter _) Bn fun p=>?_;rw[zt9,Us];exact⟨fun h=>of_decide_eq_true h.2,fun h=>⟨gap p h,zs6 h⟩⟩
 ·cases hc:ps with
  | nil=>rfl
  | cons p r =>
    have hp:p∈ps:=by rw[hc];simp
    obtain⟨g,_,hg,_⟩:=(hpm p).mp ((mem p).mp hp);have:=Us.mpr hg;rw[hz] at this;cases this
end
inductive Av(K:Frag)(vs:List V)(H:Hp)(Q:VK)(_:XK):Prop where
 | mk(l lg:Addr)(ls:List Addr)(rows:List (List Int))(nu:List Int)(gs:List V)(_:vs=[.ref l,.ref lg])(_:H l=some (.lst (ls.map V.ref)))(_:ILs H ls rows)(_:R0 rows nu)(_:H lg=some (.lst gs))(_:Yl rows gs)(_:Dd rows gs)(_:∀ t lp lr ps rs H',H' t=some (.tup [.ref lp,.ref lr])->H' lp=some (.lst (Y9 ps))->H' lr=some (.lst (rs.map V.int))->Kh rows gs ps rs->Same H H'->H t=none->H lp=none->H lr=none->lp≠lr->Q (.ref t) H')
section
variable{rows:List (List Int)}{gs:List V}{p:Nat}{line:List Nat}{dep:Nat->Nat}{fr:Nat->Option (Nat×Int)}
def byV(x:Option (Nat×Int)):V:=match x with|none=>.non|some y=>.int (y.1:Nat)
structure zj5(by_:List (Key×V))(line:List Nat)(fr:Nat->Option (Nat×Int)):Prop where
 keys:by_.map (·.1)=line.map fun q:Nat=>(inl (q:Int):Key)
 val:∀ q∈line,valV by_ (inl (q:Int):Key)=some (byV (fr q))
structure zj6(rows:List (List Int))(gs:List V)(dep:Nat->Nat)(q:Nat)(x:Int)(tl:List (Nat×Option Int))(e:Nat)(n:Int):Prop where
 ch:Ch rows gs q ((q,some x) :: tl) e (some n)
 nd:(((q,some x) :: tl).map (·.1)).Nodup
 far:∀ s∈tl,dep q<dep s.1
end
section
variable{rows:List (List Int)}{gs:List V}
def zhb(rows:List (List Int))(gs:List V)(p:Nat):Prop:=∀ q k,Walk rows gs p q k->¬ V3 rows gs q
structure ziu(rows:List (List Int))(f k:Nat)(gs:List V):Prop where
 fill:Yl rows gs
 seen:∀ j,j<k->(∃ n,gs[(f+j)%rows.length]?=some (.int n))\/zhb rows gs ((f+j)%rows.length)
 later:∀ p,(∀ j,j<k->(f+j)%rows.length≠p)->p<rows.length->gs[p]?=some .non
end
theorem ze7(xs:List V)(k:Nat):zaq xs none (some (k:Int))=xs.take k:=by
 unfold zaq;rw[HT.sIx_nat,HT.sIx_none];by_cases h:k<=xs.length
 ·rw[Nat.min_eq_left h];rfl
 ·rw[Nat.min_eq_right ⋯];show xs.take (xs.length-0)=_;rw[Nat.sub_zero,ztp,List.take_of_length_le ⋯]
end G
namespace PySem
theorem Gd(f:α->β):∀ (l:List α) (j:Nat),(l.map f).eraseIdx j=(l.eraseIdx j).map f
 | [],_=>rfl
 | _ :: _,0=>rfl
 | x :: l,j+1=>by
   show f x :: (l.map f).eraseIdx j=f x :: (l.eraseIdx j).map f;rw[Gd f l j]
section
variable{prog:Program}{w:World}{K:Type}[DecidableEq K]{knd:HeapKind prog w K}{A:Around}{E:Value->Shared->Prop}{s:Shared}
theorem Pk(hu:knd.room A)(hkey:knd.is s.heap k a)(hm:s.heap.DictOfH knd d xs)(hj:xs[j]?=some (k,p))(hsz:xs.length<=sizeLine)
  (hQ:∀ h',h'.DictOfH knd d (xs.eraseIdx j)->Heap.SameBut d s.heap h'->Q (some (entryOfKey knd (k,p))) { s with heap:=h',toks:=s.toks+knd.draws k }) :
  wpAny (model prog w) A (Builtin.Dict.takeOut d (.ref a)) Q E s:=by
 obtain⟨o,es,ep,ho,hc,hd,he,his,hn⟩:=hm;unfold Builtin.Dict.takeOut
 try with_reducible refine wpAny_holding ?_
 refine wpAny_bind (knd.pyHash hu hkey (wpAny_bind (wpAny_dictFind_heap (s:={ s with toks:=s.toks+knd.draws k }) hu hkey ho hd he his hn ?_ ?_)))
 ·intro hno;exact absurd hj (hno j p)
 ·intro j' p' hj';have ej:=idxH_unique hn hj' hj;subst ej;refine wpAny_bind (wpAny_dictEntries (s:={ s with toks:=s.toks+knd.draws k }) ho hd ?_);rw[entry_at he j',hj];refine wpAny_bind (wpAny_updateDictKeys (hz:=by have e:=size_of_entries he;omega) (s:={ s with toks:=s.toks+knd.draws k }) ho hd (wpAny_pure (hQ _ ⟨_,_,ep+1,Heap.get?_update_self _ ho (Obj.isFreed_of_dict (Obj.data_mapDictKeys hd _)),
   hc.mapDictKeys _,Obj.data_mapDictKeys hd _,?_,?_,?_⟩ (Heap.SameBut.update ..))))
  ·obtain⟨l⟩:=es;simp only at he;simp[he,Gd]
  ·intro x hx;exact knd.keeps (his x (List.mem_of_mem_eraseIdx hx)) ho hd (Heap.SameBut.update ..)
  ·have:=hn.sublist (List.Sublist.map (·.1) (List.eraseIdx_sublist xs j'));exact this
theorem Mj(d a:Addr)(k:K) :
  MeetsIn prog w (Builtin.«dict.pop» ⟨[.ref d,.ref a],[]⟩) (fun A R s=>knd.room A.in1/\knd.is s.heap k a/\∃ xs j p,s.heap.DictOfH knd d xs/\xs.length<=sizeLine/\xs[j]?=some (k,p) /\
   ∀ h' t',h'.DictOfH knd d (xs.eraseIdx j)->Heap.SameBut d s.heap h'->R (.ok (.ret p.2)) { s with heap:=h',toks:=t' }) :=
 .of_wp fun A R s ⟨hu,hkey,xs,j,p,hm,hsz,hj,h⟩=>by
  obtain⟨o,es,ep,ho,hc,hd,he,his,hn⟩:=id hm;unfold Builtin.«dict.pop»;refine wpAny_bind ?_;unfold Builtin.Dict.keyAndDefault;refine wpAny_bind (wpAny_notOrdered_dict hm.typeIs ?_);show wpAny _ _ (pure (d,Value.ref a,none)) _ _ s;refine wpAny_pure ?_;have hp:(keyPart (Value.ref a)).isSome=false:=rfl;simp only[hp,zub,if_false];refine wpAny_bind (wpAny_dictEntries ho hd (wpAny_bind (wpAny_pure ?_)));have hne:es.isEmpty=false:=by
   have h1:=size_of_entries he;have h2:=(zs5.mp hj).1;rw[Array.isEmpty_eq_false_iff_exists_mem];exact⟨es[0]'⋯,Array.getElem_mem _⟩
  simp only[hne,zub,if_false];refine wpAny_bind (Pk hu hkey hm hj hsz fun h' hm' hs'=>?_);simp only[Option.isNone_some,zub,if_false];exact wpAny_bind (wpAny_letGo (wpAny_pure ⟨p.2,rfl,h h' _ hm' hs'⟩))
end
end PySem
namespace L2
open PySem PySem.Spec PyProof.Rows
theorem KT.drop:∀ {kvs:List (List Key×V)} {xs:List (List Key×Addr×Value)},KT H kvs xs->(xs.map (·.1)).Nodup->valV kvs k=some v->∃ j p,xs[j]?=some (k,p)/\RelV v p.2/\KT H (Xn kvs k) (xs.eraseIdx j)
 | [],[],_,_,hv=>by cases hv
 | p :: kvs,q :: xs,r,nd,hv=>by
   cases r with
   | cons h t =>
     rw[ztf,ztx] at nd;obtain⟨h1,h2,h3⟩:=h;by_cases e:p.1=k
     ·rw[Y1 e] at hv;cases hv;refine⟨0,q.2,by rw[<- e,h1];rfl,h3,?_⟩;show KT H (Xn (p :: kvs) k) xs;have hd:Xn (p :: kvs) k=kvs:=by
       unfold Xn;rw[List.filter_cons_of_neg (by simp[e])];rw[List.filter_eq_self];intro kv hkv;refine zs6 fun z=>nd.1 ?_;have:∀ {l:List (List Key×V)} {m:List (List Key×Addr×Value)},KT H l m->kv∈l->kv.1∈m.map (·.1):=by
        intro l m q
        induction q with
        | nil=>intro hx;cases hx
        | @cons p' q' ps qs hq t ih =>
          intro hx;rcases zs7.mp hx with z|z
          ·rw[z,hq.1];exact ztn
          ·exact ztj _ (ih z)
       have h9:=this t hkv;rw[z,<- e,h1] at h9;exact h9
      rw[hd];exact t
     ·rw[Yx e] at hv;obtain⟨j,pp,h4,h5,h6⟩:=KT.drop t nd.2 hv;refine⟨j+1,pp,h4,h5,?_⟩;have hd:Xn (p :: kvs) k=p :: Xn kvs k:=by
       unfold Xn;rw[List.filter_cons_of_pos (by simp[e])]
      rw[hd];exact .cons ⟨h1,h2,h3⟩ h6
inductive ze8(ty:TE)(σ:L2.St)(Q:VK)(x:V)(H1:Hp):Prop where
 | mk(a)(_:x=.ref a)(_:IsD H1 a)(_:ty σ H1 fun y H2=>∃ (kvs:List (List Key×V)) (k:List Key) (b:Addr) (v:V),H2 a=some (.dT kvs)/\y=.ref b/\H2 b=some (.tup (k.map kV))/\valV kvs k=some v/\Q v (upd H2 a (.dT (Xn kvs k))))
def zhc(td ty:TE):TE:=fun σ H Q=>td σ H fun x H1=>ze8 ty σ Q x H1
theorem zdi(hu:X.A.units+1<cLine)(ho:PE X o td)(he:PE X e ty)(m:M1 X o "pop" apos e cpos):PE X (.Call (.Attribute o "pop" apos) [e] [] cpos) (zhc td ty):=by
 intro pins s σ H Q I h;refine wpAny_Call_method m.base m.few m.line PySem.F.plainAttrs_dict PySem.F.slot_dict_pop PySem.F.type_dict_pop (thn (ho pins s σ H _ I h) fun u s1 ⟨x,H1,I1,rx,a,ex,d,q1⟩=>?_);subst ex;obtain rfl:u=Value.ref a:=rx;obtain⟨t1,t2,_⟩:=C4 I1 d;refine⟨t1,t2,?_⟩;rw[m.trees];refine Calls.callWith_builtin rfl (Calls.evalArgs_plain (Calls.spliced_cons (thn (he pins s1 σ H1 _ I1 q1) fun iv s2 ⟨y,H2,I2,ry,kvs,k,b,v,ea,ey,eb,l,q2⟩=>Calls.spliced_nil ?_)));subst ey;cases (show iv=Value.ref b from ry);obtain⟨z,hd,xs,rel,dd⟩:=zfl I2.hok ea;have hz:xs.length<=sizeLine:=by rw[<- Paired.length rel];exact z
 obtain⟨j,p,hj,rv,rel'⟩:=KT.drop rel (by obtain⟨_,_,_,_,_,_,_,_,hn⟩:=dd;exact hn) l;refine call_meetsIn PySem.F.slot_dict_pop dd.typeIs PySem.F.entry_dict_pop (PySem.F.args_dict_pop_2 _ _) (Mj (knd:=tupleKind (Yd X.prog X.w)) a b k) ⟨tupleKind_room_in1 hu,Pc I2.hok eb,xs,j,p,dd,hz,hj,fun h' t' dd' hs=>⟨v,_,?_,rv,q2⟩⟩;obtain⟨q,es,ep,hq,h2,h3,h4,_,h5⟩:=dd';refine Qm I2 (by rw[ea];exact True.intro) hs ⟨q,hq⟩ ⟨zto (Eh kvs k) z,hd,_,rel'.keeps fun c ys ec=>?_,q,es,ep,hq,h2,h3,h4,h5⟩;rw[Zi (Yo ec ea (fun z=>nomatch z))];exact ec
end L2
namespace G
open PySem PySem.Spec PyProof.Rows L2
structure CA where
 season:Addr
 sheet:Addr
 roster:Addr
 ledger:Addr
 out:Addr
 known:Addr
 many:Addr
 unk:Addr
 manyM:Addr
 same:Addr
 noMatch:Addr
 noRound:Addr
 over:Addr
 seaOver:Addr
 away:Addr
 drawn:Addr
 notDrawn:Addr
 nothing:Addr
 manyD:Addr
theorem Se:1000000<sizeLine:=by rw[sizeLine_eq];decide
abbrev RL:=List (Int×Int×Int)
inductive Wy(H:Hp):RL->List (Key×V)->Prop where
 | nil:Wy H [] []
 | cons {n g c:Int} {t:Addr} {R:RL} {kvs:List (Key×V)} (h:H t=some (.tup [.int g,.int c])) (r:Wy H R kvs):Wy H ((n,g,c) :: R) ((.inl n,.ref t) :: kvs)
theorem Wy.mono(k:∀ t xs,H t=some (.tup xs)->H' t=some (.tup xs)):∀ {R:RL} {kvs:List (Key×V)},Wy H R kvs->Wy H' R kvs
 | _,_,.nil=>.nil
 | _,_,.cons h r=>.cons (k _ _ h) (Wy.mono k r)
theorem Wy.length:∀ {R:RL} {kvs:List (Key×V)},Wy H R kvs->kvs.length=R.length
 | _,_,.nil=>rfl
 | _,_,.cons _ r=>by simp[Wy.length r]
theorem Wy.keys:∀ {R:RL} {kvs:List (Key×V)},Wy H R kvs->(kvs.map fun kv=>kV kv.1)=R.map fun x=>V.int x.1
 | _,_,.nil=>rfl
 | _,_,.cons _ r=>by rw[ztf,ztf,Wy.keys r];rfl
theorem Wy.snoc(h:H t=some (.tup [.int g,.int c])):∀ {R:RL} {kvs:List (Key×V)},Wy H R kvs->Wy H (R++[(n,g,c)]) (kvs++[(.inl n,.ref t)])
 | _,_,.nil=>.cons h .nil
 | _,_,.cons h' r=>.cons h' (Wy.snoc h r)
theorem Wy.val_none:∀ {R:RL} {kvs:List (Key×V)},Wy H R kvs->n∉R.map (·.1)->valV kvs (inl n:Key)=none
 | _,_,.nil,_=>rfl
 | _,_,.cons (n:=m) _ r,h=>by
   rw[ztf,zs7,not_or] at h;rw[Yx (fun e=>h.1 (inl.inj e).symm)];exact Wy.val_none r h.2
theorem Wy.val_some:∀ {R:RL} {kvs:List (Key×V)},Wy H R kvs->(R.map (·.1)).Nodup->(n,g,c)∈R->∃ t,valV kvs (inl n:Key)=some (.ref t)/\H t=some (.tup [.int g,.int c])
 | _,_,.nil,_,h=>by simp at h
 | _,_,.cons (n:=m) (g:=g') (c:=c') (t:=t) ht r,nd,h=>by
   rw[ztf,ztx] at nd;by_cases e:m=n
   ·subst e;rcases zs7.mp h with q|q
    ·cases q;exact⟨t,Y1 rfl,ht⟩
    ·exact absurd (ztd.mpr ⟨_,q,rfl⟩) nd.1
   ·rcases zs7.mp h with q|q
    ·cases q;exact absurd rfl e
    ·obtain⟨t',h1,h2⟩:=Wy.val_some r nd.2 q;exact⟨t',by rw[Yx (fun z=>e (inl.inj z))];exact h1,h2⟩
theorem Wy.isSome(e:Wy H R kvs)(nd:(R.map (·.1)).Nodup):(valV kvs (inl n:Key)).isSome=decide (n∈R.map (·.1)):=by
 by_cases h:n∈R.map (·.1)
 ·obtain⟨⟨m,g,c⟩,q,rfl⟩:=ztd.mp h;obtain⟨t,h1,_⟩:=e.val_some nd q;rw[h1,zs6 h];rfl
 ·rw[e.val_none h,ztc h];rfl
theorem Wy.unsnoc:∀ {R:RL} {kvs:List (Key×V)},Wy H (R++[(n,g,c)]) kvs->n∉R.map (·.1)->Wy H R (Xn kvs (inl n))
 | [],_,.cons h .nil,_=>by
   unfold Xn;rw[List.filter_cons_of_neg (by simp)];exact .nil
 | (m,g',c') :: R,_,.cons h r,hn=>by
   rw[ztf,zs7,not_or] at hn;unfold Xn;rw[List.filter_cons_of_pos (by
    refine zs6 fun z=>hn.1 ?_;exact(inl.inj z).symm)]
   exact .cons h (Wy.unsnoc r hn.2)
structure Y7(C:Addr)(H:Hp)(p d:Addr)(R:RL):Prop where
 ex:∃ dx kvs,H p=some (.ins C dx [("entries",.ref d)])/\H d=some (.dK kvs)/\Wy H R kvs
 nd:(R.map (·.1)).Nodup
theorem Wz:List.lookup ("entries":Str) ([("entries",V.ref d)]:List (Str×V))=some (.ref d):=by simp only[zt3,beq_self_eq_true]
theorem Y7.no{d:Addr}{m:Str}(h:¬ m="entries"):List.lookup m ([("entries",V.ref d)]:List (Str×V))=none:=by
 have e:(m == "entries")=false:=ztr.mpr h;simp only[zt3,e,List.lookup_nil]
theorem Y7.keep(h:Y7 C H p d R)(kp:∀ o,H p=some o->H' p=some o)(kd:∀ o,H d=some o->H' d=some o)(kt:∀ t xs,H t=some (.tup xs)->H' t=some (.tup xs)):Y7 C H' p d R:=by
 obtain⟨⟨dx,kvs,h1,h2,h3⟩,nd⟩:=h;exact⟨⟨dx,kvs,kp _ h1,kd _ h2,h3.mono kt⟩,nd⟩
theorem Y7.same(h:Y7 C H p d R)(e:Same H H'):Y7 C H' p d R:=h.keep (fun _ q=>e _ _ q) (fun _ q=>e _ _ q) fun _ _ q=>e _ _ q
def badI(n g c:Int):Prop:=n<1\/999<n\/g<1\/9<g\/c<1\/99<c
instance {n g c:Int}:Decidable (badI n g c):=by unfold badI;infer_instance
def Fo(n g c:Int):Prop:=Yg n/\Yg g/\Yg c
inductive Ol(x:Addr)(vs:List V)(H:Hp)(Q:VK)(E:XK):Prop where
 | mk(v)(lo)(m)(_:vs=[.int v,.int lo,.int m])(_:Yg v)(_:Yg lo)(_:Yg m)(_:(if v<lo\/m<v then E (.ref x) none H else Q .non H))
inductive Aw(ca:CA)(vs:List V)(H:Hp)(Q:VK)(_:XK):Prop where
 | mk(p)(dx)(_:vs=[.ref p])(_:H p=some (.ins ca.roster dx []))(_:∀ d,H d=none->Q .non (upd (upd H d (.dK [])) p (.ins ca.roster dx [("entries",.ref d)])))
inductive Pl(ca:CA)(vs:List V)(H:Hp)(Q:VK)(E:XK):Prop where
 | mk(p)(d)(R)(n)(g)(c)(_:vs=[.ref p,.int n,.int g,.int c])(_:Y7 ca.roster H p d R)(_:Fo n g c)(_:if badI n g c then E (.ref ca.out) none H else if n∈R.map (·.1) then E (.ref ca.known) none H else if 30<=R.length then E (.ref ca.many) none H else Q .non H)
inductive Sx(ca:CA)(vs:List V)(H:Hp)(Q:VK)(E:XK):Prop where
 | mk(p)(d)(R)(n)(_:vs=[.ref p,.int n])(_:Y7 ca.roster H p d R)(_:Yg n)(_:if n∈R.map (·.1) then Q .non H else E (.ref ca.unk) none H)
inductive zdj(ca:CA)(vs:List V)(H:Hp)(Q:VK)(E:XK):Prop where
 | mk(p)(d)(R)(n)(g)(c)(_:vs=[.ref p,.int n,.int g,.int c])(_:Y7 ca.roster H p d R)(_:Fo n g c)(_:R.length<=1000)(_:if badI n g c then E (.ref ca.out) none H else if n∈R.map (·.1) then E (.ref ca.known) none H else if 30<=R.length then E (.ref ca.many) none H else ∀ H',Y7 ca.roster H' p d (R++[(n,g,c)])->(∀ b o,H b=some o->b≠d->H' b=some o)->Q .non H')
inductive Df(ca:CA)(vs:List V)(H:Hp)(Q:VK)(_:XK):Prop where
 | mk(p)(d)(R)(n)(g)(c)(_:vs=[.ref p,.int n])(_:Y7 ca.roster H p d (R++[(n,g,c)]))(_:∀ H',Y7 ca.roster H' p d R->(∀ b o,H b=some o->b≠d->H' b=some o)->Q .non H')
inductive Ki(ca:CA)(vs:List V)(H:Hp)(Q:VK)(_:XK):Prop where
 | mk(p)(d)(R)(_:vs=[.ref p])(_:Y7 ca.roster H p d R)(_:∀ l,H l=none->Q (.ref l) (upd H l (.lst (R.map fun x=>V.int x.1))))
inductive Dg(ca:CA)(vs:List V)(H:Hp)(Q:VK)(E:XK):Prop where
 | mk(p)(d)(R)(n)(_:vs=[.ref p,.int n])(_:Y7 ca.roster H p d R)(_:Yg n)(_:(n∉R.map (·.1)->E (.ref ca.unk) none H))(_:∀ g c t,(n,g,c)∈R->H t=some (.tup [.int g,.int c])->Q (.ref t) H)
inductive Dh(ca:CA)(vs:List V)(H:Hp)(Q:VK)(E:XK):Prop where
 | mk(p)(d)(R)(n)(_:vs=[.ref p,.int n])(_:Y7 ca.roster H p d R)(_:Yg n)(_:(n∉R.map (·.1)->∀ H',Same H H'->E (.ref ca.unk) none H'))(_:∀ g c t H',(n,g,c)∈R->H' t=some (.tup (pV (n,g,c)))->Same H H'->H t=none->Q (.ref t) H')
structure Z3 where
 ms:List (Int×Int×Int)
 may:List (List Int)
 gv:List V
 gaps:List (Int×List (Nat×Option Int))
inductive W0(ok:Addr->Prop)(H:Hp):List V->List (Int×List (Nat×Option Int))->Prop where
 | nil:W0 ok H [] []
 | cons {t l:Addr} {n:Int} {us:List V} {st:List (Nat×Option Int)} {ts:List V} {G:List (Int×List (Nat×Option Int))} (h:H t=some (.tup [.int n,.ref l])) (hl:H l=some (.lst us)) (tl:Z0 H us (st.map Vp)) (o:ok l) (r:W0 ok H ts G):W0 ok H (.ref t :: ts) ((n,st) :: G)
theorem W0.keep(k:∀ x o,ok x->H x=some o->H' x=some o)(kt:∀ t xs,H t=some (.tup xs)->H' t=some (.tup xs)):∀ {ts:List V} {G:List (Int×List (Nat×Option Int))},W0 ok H ts G->W0 ok H' ts G
 | _,_,.nil=>.nil
 | _,_,.cons h hl tl o r=>.cons (kt _ _ h) (k _ _ o hl) (tl.mono kt) o (W0.keep k kt r)
theorem W0.imp(k:∀ x,(∃ o,H x=some o)->ok x->ok' x):∀ {ts:List V} {G:List (Int×List (Nat×Option Int))},W0 ok H ts G->W0 ok' H ts G
 | _,_,.nil=>.nil
 | _,_,.cons h hl tl o r=>.cons h hl tl (k _ ⟨_,hl⟩ o) (W0.imp k r)
theorem W0.length:∀ {ts:List V} {G:List (Int×List (Nat×Option Int))},W0 ok H ts G->ts.length=G.length
 | _,_,.nil=>rfl
 | _,_,.cons _ _ _ _ r=>by simp[W0.length r]
theorem W0.snoc{ok:Addr->Prop}{H:Hp}{t l:Addr}{n:Int}{us:List V}{st:List (Nat×Option Int)}(h:H t=some (.tup [.int n,.ref l]))(hl:H l=some (.lst us))(tl:Z0 H us (st.map Vp))(o:ok l):∀ {ts:List V} {G:List (Int×List (Nat×Option Int))},W0 ok H ts G->W0 ok H (ts++[.ref t]) (G++[(n,st)])
 | _,_,.nil=>.cons h hl tl o .nil
 | _,_,.cons h' hl' tl' o' r=>.cons h' hl' tl' o' (W0.snoc h hl tl o r)
theorem W0.get:∀ {ts:List V} {G:List (Int×List (Nat×Option Int))} {i:Nat} {x:V},W0 ok H ts G->ts[i]?=some x->∃ t l n us st,x=.ref t/\G[i]?=some (n,st)/\H t=some (.tup [.int n,.ref l])/\H l=some (.lst us)/\Z0 H us (st.map Vp)/\ok l
 | _,_,_,_,.nil,e=>by simp at e
 | _,_,0,_,.cons h hl tl o _,e=>by simp at e;subst e;exact⟨_,_,_,_,_,rfl,rfl,h,hl,tl,o⟩
 | _,_,i+1,x,.cons _ _ _ _ r,e=>by
   obtain⟨t,l,n,us,st,h1,h2,h3⟩:=W0.get (i:=i) (x:=x) r (by simpa using e);exact⟨t,l,n,us,st,h1,by simpa using h2,h3⟩
def shF(l1 l2 l3 l4:Addr):List (Str×V):=[("listed",.ref l1),("lists",.ref l2),("given",.ref l3),("gaps",.ref l4)]
structure ShAt(C:Addr)(ok:Addr->Prop)(H:Hp)(q:Addr)(s:Z3):Prop where
 ex:∃ dx l1 l2 l3 l4 ts ls gts,H q=some (.ins C dx (shF l1 l2 l3 l4))/\H l1=some (.lst ts)/\Z0 H ts (s.ms.map pV)/\H l2=some (.lst (ls.map V.ref))/\ILs H ls s.may/\H l3=some (.lst s.gv)/\H l4=some (.lst gts)/\W0 ok H gts s.gaps/\(ok q/\ok l1/\ok l2/\ok l3/\ok l4/\∀ x∈ls,ok x)
theorem ShAt.keep(h:ShAt C ok H q s)(k:∀ x o,ok x->H x=some o->H' x=some o)(kt:∀ t xs,H t=some (.tup xs)->H' t=some (.tup xs)):ShAt C ok H' q s:=by
 obtain⟨dx,l1,l2,l3,l4,ts,ls,gts,a1,a2,a3,a4,a5,a6,a7,a8,o1,o2,o3,o4,o5,o6⟩:=h;exact⟨dx,l1,l2,l3,l4,ts,ls,gts,k _ _ o1 a1,k _ _ o2 a2,a3.mono kt,k _ _ o3 a4,a5.keep fun x hx o q=>k _ _ (o6 x hx) q,k _ _ o4 a6,k _ _ o5 a7,a8.keep k kt,o1,o2,o3,o4,o5,o6⟩
theorem ShAt.imp(h:ShAt C ok H q s)(k:∀ x,(∃ o,H x=some o)->ok x->ok' x):ShAt C ok' H q s:=by
 obtain⟨dx,l1,l2,l3,l4,ts,ls,gts,a1,a2,a3,a4,a5,a6,a7,a8,o1,o2,o3,o4,o5,o6⟩:=h;exact⟨dx,l1,l2,l3,l4,ts,ls,gts,a1,a2,a3,a4,a5,a6,a7,a8.imp k,k _ ⟨_,a1⟩ o1,k _ ⟨_,a2⟩ o2,k _ ⟨_,a4⟩ o3,k _ ⟨_,a6⟩ o4,k _ ⟨_,a7⟩ o5,fun x hx=>k _ (let ⟨_,z⟩:=a5.has hx;⟨_,z⟩) (o6 x hx)⟩
theorem ShAt.same(h:ShAt C ok H q s)(e:Same H H'):ShAt C ok H' q s:=h.keep (fun _ _ _ q=>e _ _ q) fun _ _ q=>e _ _ q
def ShO(C:Addr)(ok:Addr->Prop)(H:Hp)(v:V)(s:Option Z3):Prop:=match s with|none=>v=.non|some s=>∃ q,v=.ref q/\ShAt C ok H q s
theorem ShO.keep(h:ShO C ok H v s)(k:∀ x o,ok x->H x=some o->H' x=some o)(kt:∀ t xs,H t=some (.tup xs)->H' t=some (.tup xs)):ShO C ok H' v s:=by
 cases s with
 | none=>exact h
 | some s=>obtain⟨q,e,h⟩:=h;exact⟨q,e,h.keep k kt⟩
theorem ShO.imp(h:ShO C ok H v s)(k:∀ x,(∃ o,H x=some o)->ok x->ok' x):ShO C ok' H v s:=by
 cases s with
 | none=>exact h
 | some s=>obtain⟨q,e,h⟩:=h;exact⟨q,e,h.imp k⟩
inductive ShL(C:Addr)(ok:Addr->Prop)(H:Hp):List V->List Z3->Prop where
 | nil:ShL C ok H [] []
 | cons {q:Addr} {s:Z3} {vs:List V} {ss:List Z3} (h:ShAt C ok H q s) (r:ShL C ok H vs ss):ShL C ok H (.ref q :: vs) (s :: ss)
theorem ShL.keep(k:∀ x o,ok x->H x=some o->H' x=some o)(kt:∀ t xs,H t=some (.tup xs)->H' t=some (.tup xs)):∀ {vs:List V} {ss:List Z3},ShL C ok H vs ss->ShL C ok H' vs ss
 | _,_,.nil=>.nil
 | _,_,.cons h r=>.cons (h.keep k kt) (ShL.keep k kt r)
theorem ShL.imp(k:∀ x,(∃ o,H x=some o)->ok x->ok' x):∀ {vs:List V} {ss:List Z3},ShL C ok H vs ss->ShL C ok' H vs ss
 | _,_,.nil=>.nil
 | _,_,.cons h r=>.cons (h.imp k) (ShL.imp k r)
theorem ShL.length:∀ {vs:List V} {ss:List Z3},ShL C ok H vs ss->vs.length=ss.length
 | _,_,.nil=>rfl
 | _,_,.cons _ r=>by simp[ShL.length r]
theorem ShL.snoc(h:ShAt C ok H q s):∀ {vs:List V} {ss:List Z3},ShL C ok H vs ss->ShL C ok H (vs++[.ref q]) (ss++[s])
 | _,_,.nil=>.cons h .nil
 | _,_,.cons h' r=>.cons h' (ShL.snoc h r)
theorem ShL.getR:∀ {vs:List V} {ss:List Z3} {i:Nat} {s:Z3},ShL C ok H vs ss->ss[i]?=some s->∃ q,vs[i]?=some (.ref q)/\ShAt C ok H q s
 | _,_,_,_,.nil,e=>by simp at e
 | _,_,0,_,.cons h _,e=>by simp at e;subst e;exact⟨_,rfl,h⟩
 | _,_,i+1,x,.cons _ r,e=>by
   obtain⟨t,h1,h2⟩:=ShL.getR (i:=i) (s:=x) r (by simpa using e);exact⟨t,by simpa using h1,h2⟩
abbrev Ut:=Str×Int×Int
def Wo(d:Ut):List V:=[.str d.1,.int d.2.1,.int d.2.2]
inductive V4(C:Addr)(ok:Addr->Prop)(H:Hp):List V->List (Ut×Option Z3)->Prop where
 | nil:V4 C ok H [] []
 | cons {t u:Addr} {v:V} {d:Ut} {s:Option Z3} {vs:List V} {ss:List (Ut×Option Z3)} (h:H t=some (.tup [.ref u,v])) (hu:H u=some (.tup (Wo d))) (hs:ShO C ok H v s) (r:V4 C ok H vs ss):V4 C ok H (.ref t :: vs) ((d,s) :: ss)
theorem V4.keep(k:∀ x o,ok x->H x=some o->H' x=some o)(kt:∀ t xs,H t=some (.tup xs)->H' t=some (.tup xs)):∀ {vs:List V} {ss:List (Ut×Option Z3)},V4 C ok H vs ss->V4 C ok H' vs ss
 | _,_,.nil=>.nil
 | _,_,.cons h hu hs r=>.cons (kt _ _ h) (kt _ _ hu) (hs.keep k kt) (V4.keep k kt r)
theorem V4.length:∀ {vs:List V} {ss:List (Ut×Option Z3)},V4 C ok H vs ss->vs.length=ss.length
 | _,_,.nil=>rfl
 | _,_,.cons _ _ _ r=>by simp[V4.length r]
theorem V4.snoc(h:H t=some (.tup [.ref u,v]))(hu:H u=some (.tup (Wo d)))(hs:ShO C ok H v s):∀ {vs:List V} {ss:List (Ut×Option Z3)},V4 C ok H vs ss->V4 C ok H (vs++[.ref t]) (ss++[(d,s)])
 | _,_,.nil=>.cons h hu hs .nil
 | _,_,.cons h' hu' hs' r=>.cons h' hu' hs' (V4.snoc h hu hs r)
theorem V4.unsnoc:∀ {vs:List V} {ss:List (Ut×Option Z3)},V4 C ok H vs (ss++[(d,s)])->∃ vs' t u v,vs=vs'++[.ref t]/\H t=some (.tup [.ref u,v])/\H u=some (.tup (Wo d))/\ShO C ok H v s/\V4 C ok H vs' ss
 | _,[],.cons h hu hs .nil=>⟨[],_,_,_,rfl,h,hu,hs,.nil⟩
 | _,_ :: _,.cons h hu hs r=>by
   obtain⟨vs',t,u,v,e,a1,a2,a3,a4⟩:=V4.unsnoc r;exact⟨_ :: vs',t,u,v,by rw[e];rfl,a1,a2,a3,.cons h hu hs a4⟩
theorem V4.get:∀ {vs:List V} {ss:List (Ut×Option Z3)} {i:Nat} {x:V},V4 C ok H vs ss->vs[i]?=some x->∃ t u v d s,x=.ref t/\ss[i]?=some (d,s)/\H t=some (.tup [.ref u,v])/\H u=some (.tup (Wo d))
 | _,_,_,_,.nil,e=>by simp at e
 | _,_,0,_,.cons h hu _ _,e=>by simp at e;subst e;exact⟨_,_,_,_,_,rfl,rfl,h,hu⟩
 | _,_,i+1,x,.cons _ _ _ r,e=>by
   obtain⟨t,u,v,d,s,h1,h2,h3⟩:=V4.get (i:=i) (x:=x) r (by simpa using e);exact⟨t,u,v,d,s,h1,by simpa using h2,h3⟩
structure Sea where
 len:Nat
 rest:Nat
 ppl:RL
 led:List (List Row)
 out:List (Int×Int)
 old:List Z3
 cur:Option Z3
 std:List (Ut×Option Z3)
structure SAd where
 p:Addr
 pr:Addr
 dr:Addr
 pl:Addr
 lr:Addr
 ld:Addr
 da:Addr
 ls:Addr
 lt:Addr
def SAd.fp(A:SAd):List Addr:=[A.p,A.dr,A.lr,A.ld,A.da,A.ls,A.lt]
def seaF(A:SAd)(len rest:Nat)(v:V):List (Str×V):=[("length",.int len),("rest",.int rest),("roster",.ref A.pr),("ledger",.ref A.pl),("absent",.ref A.da),("sheets",.ref A.ls),("sheet",v),("standing",.ref A.lt)]
def R6(kvs:List (List Key×V))(out:List (Int×Int)):Prop:=(∀ at_ n:Int,(valV kvs [inl at_,inl n]).isSome=decide ((at_,n)∈out))/\kvs.length<=out.length
structure Zw(ca:CA)(H:Hp)(A:SAd)(S:Sea):Prop where
 obj:∃ dx v,H A.p=some (.ins ca.season dx (seaF A S.len S.rest v))/\ShO ca.sheet (·∉A.fp) H v S.cur
 ros:Y7 ca.roster H A.pr A.dr S.ppl
 led:Vo ca.ledger H A.pl A.lr A.ld S.led
 out:∃ kvs,H A.da=some (.dT kvs)/\R6 kvs S.out
 old:∃ vs,H A.ls=some (.lst vs)/\ShL ca.sheet (·∉A.fp) H vs S.old
 std:∃ vs,H A.lt=some (.lst vs)/\V4 ca.sheet (·∉A.fp) H vs S.std
 nd:A.fp.Nodup
 np:A.pr∉A.fp/\A.pl∉A.fp
def FrS(A:SAd)(H H':Hp):Prop:=∀ b o,H b=some o->b∉A.fp->H' b=some o
end G
namespace L2
open PySem PySem.Spec PyProof.Rows
theorem Dj{X:Cx}{K:Frag}(hK:X.K=K):OpR X (binaryOp .Add) (zfn K):=hK▸zeu
end L2
namespace G
open PySem PySem.Spec PyProof.Rows L2
theorem it2{p:Prop}[Decidable p]{A B A' B':Prop}(h:if p then A else B)(h1:p->A->A')(h2:¬ p->B->B'):if p then A' else B':=by
 by_cases z:p
 ·rw[if_pos z] at h ⊢;exact h1 z h
 ·rw[if_neg z] at h ⊢;exact h2 z h
theorem zbd{κ:Type}[DecidableEq κ]{kvs:List (κ×V)}{k:κ}{v:V}(h:valV kvs k=none):putK kvs k v=kvs++[(k,v)]:=by
 unfold putK;rw[if_neg];intro z;rw[Sa,h] at z;cases z
inductive Dk(C:Addr)(vs:List V)(H:Hp)(Q:VK)(_:XK):Prop where
 | mk(p lr ld:Addr)(Rs:List (List Row))(b:Addr)(ts:List V)(rs:List Row)(_:vs=[.ref p,.ref b])(_:Vo C H p lr ld Rs)(_:H b=some (.lst ts))(_:b≠lr)(_:Z0 H ts (rs.map Qv))(_:2*(tot Rs+rs.length)<=100000)(_:Rs.length<=1000)(_:∀ H',Vo C H' p lr ld (Rs++[rs])->(∀ b o,H b=some o->b≠lr->b≠ld->H' b=some o)->Q .non H')
def Ax(ok:Addr->Prop)(H:Hp):Prop:=∀ x,H x=none->ok x
inductive Om(ca:CA)(vs:List V)(H:Hp)(Q:VK)(_:XK):Prop where
 | mk(q)(dx)(l1)(l2)(l3)(l4)(_:vs=[.ref q,.ref l1,.ref l2,.ref l3,.ref l4])(_:H q=some (.ins ca.sheet dx []))(_:∀ H',H'=upd H q (.ins ca.sheet dx (shF l1 l2 l3 l4))->Q .non H')
theorem Qr:List.lookup ("listed":Str) (shF l1 l2 l3 l4)=some (.ref l1):=by unfold shF;simp only[zt3,beq_self_eq_true]
theorem zdk:List.lookup ("lists":Str) (shF l1 l2 l3 l4)=some (.ref l2):=by
 have e:(("lists":Str) == "listed")=false:=by decide +kernel
 unfold shF;simp only[zt3,e,beq_self_eq_true]
theorem Uu:List.lookup ("given":Str) (shF l1 l2 l3 l4)=some (.ref l3):=by
 have e:(("given":Str) == "listed")=false:=by decide +kernel
 have e2:(("given":Str) == "lists")=false:=by decide +kernel
 unfold shF;simp only[zt3,e,e2,beq_self_eq_true]
theorem Fp:List.lookup ("gaps":Str) (shF l1 l2 l3 l4)=some (.ref l4):=by
 have e:(("gaps":Str) == "listed")=false:=by decide +kernel
 have e2:(("gaps":Str) == "lists")=false:=by decide +kernel
 have e3:(("gaps":Str) == "given")=false:=by decide +kernel
 unfold shF;simp only[zt3,e,e2,e3,beq_self_eq_true]
theorem V9{l1 l2 l3 l4:Addr}{m:Str}(h1:¬ m="listed")(h2:¬ m="lists")(h3:¬ m="given")(h4:¬ m="gaps"):List.lookup m (shF l1 l2 l3 l4)=none:=by
 have e1:(m == "listed")=false:=ztr.mpr h1;have e2:(m == "lists")=false:=ztr.mpr h2;have e3:(m == "given")=false:=ztr.mpr h3;have e4:(m == "gaps")=false:=ztr.mpr h4;unfold shF;simp only[zt3,e1,e2,e3,e4,List.lookup_nil]
theorem zjs:putF "lists" y [(("listed":Str),x)]=([("listed",x),("lists",y)]:List (Str×V)):=by
 have n1:¬ (("listed":Str)="lists"):=by decide +kernel
 simp only[putF,if_neg n1]
theorem zjt:putF "given" z [(("listed":Str),x),("lists",y)]=([("listed",x),("lists",y),("given",z)]:List (Str×V)):=by
 have n1:¬ (("listed":Str)="given"):=by decide +kernel
 have n2:¬ (("lists":Str)="given"):=by decide +kernel
 simp only[putF,if_neg n1,if_neg n2]
theorem zju:putF "gaps" w [(("listed":Str),x),("lists",y),("given",z)]=([("listed",x),("lists",y),("given",z),("gaps",w)]:List (Str×V)):=by
 have n1:¬ (("listed":Str)="gaps"):=by decide +kernel
 have n2:¬ (("lists":Str)="gaps"):=by decide +kernel
 have n3:¬ (("given":Str)="gaps"):=by decide +kernel
 simp only[putF,if_neg n1,if_neg n2,if_neg n3]
theorem Pm(hq:H1 q=none)(hdx:H1 dx=none)(ne:dx≠q):Same H1 (upd (upd (upd H1 dx (.own q)) q (.ins C dx [])) q (.ins C dx (shF l1 l2 l3 l4)))/\upd (upd (upd H1 dx (.own q)) q (.ins C dx [])) q (.ins C dx (shF l1 l2 l3 l4)) q=some (.ins C dx (shF l1 l2 l3 l4)):=by
 refine⟨fun b o e=>?_,Zd⟩;rw[Zi (Zg e hq),Zi (Zg e hq),Zi (Zg e hdx)];exact e
inductive Dl(ca:CA)(vs:List V)(H:Hp)(Q:VK)(_:XK):Prop where
 | mk(ok:Addr->Prop)(q l2:Addr)(ls:List Addr)(rows:List (List Int))(s:Z3)(_:vs=[.ref q,.ref l2])(_:ShAt ca.sheet ok H q s)(_:H l2=some (.lst (ls.map V.ref)))(_:ILs H ls rows)(_:ok l2)(_:(∀ x∈ls,ok x))(_:Ax ok H)(_:∀ q' H',ShAt ca.sheet ok H' q' { s with may:=rows }->Same H H'->H q'=none->Q (.ref q') H')
inductive Dm(ca:CA)(vs:List V)(H:Hp)(Q:VK)(_:XK):Prop where
 | mk(ok:Addr->Prop)(q l2:Addr)(ls:List Addr)(rows:List (List Int))(nu:List Int)(s:Z3)(n:Int)(p:Nat)(_:vs=[.ref q,.int n,.ref l2])(_:ShAt ca.sheet ok H q s)(_:H l2=some (.lst (ls.map V.ref)))(_:ILs H ls rows)(_:ok l2)(_:(∀ x∈ls,ok x))(_:Ax ok H)(_:R0 rows nu)(_:(∀ x∈s.gv,oneV x))(_:s.gv[p]?=some (.int n))(_:(∀ j:Nat,s.gv[j]?=some (.int n)->j=p))(_:Yl rows (s.gv.set p .non))(_:s.gaps.length<=1000)(_:∀ q' st e w H',ShAt ca.sheet ok H' q' ⟨s.ms,rows,Yp st (s.gv.set p .non),s.gaps++[(n,st)]⟩->Y6 rows (s.gv.set p .non) p st e w->Same H H'->H q'=none->Q (.ref q') H')
inductive Ay(ca:CA)(vs:List V)(H:Hp)(Q:VK)(_:XK):Prop where
 | mk(ok:Addr->Prop)(l1 l2:Addr)(ts:List V)(ls:List Addr)(ms:List (Int×Int×Int))(rows:List (List Int))(nu:List Int)(_:vs=[.ref l1,.ref l2])(_:H l1=some (.lst ts))(_:Z0 H ts (ms.map pV))(_:H l2=some (.lst (ls.map V.ref)))(_:ILs H ls rows)(_:ok l1)(_:ok l2)(_:(∀ x∈ls,ok x))(_:Ax ok H)(_:R0 rows nu)(_:∀ q gv H',ShAt ca.sheet ok H' q ⟨ms,rows,gv,[]⟩->Yl rows gv->Vs rows gv->Same H H'->H q=none->Q (.ref q) H')
inductive R7(ca:CA)(vs:List V)(H:Hp)(Q:VK)(_:XK):Prop where
 | mk(ok:Addr->Prop)(q:Addr)(s:Z3)(_:vs=[.ref q])(_:ShAt ca.sheet ok H q s)(_:∀ l ts H',H' l=some (.lst ts)->Z0 H' ts (s.ms.map pV)->Same H H'->H l=none->Q (.ref l) H')
inductive Kj(ca:CA)(vs:List V)(H:Hp)(Q:VK)(_:XK):Prop where
 | mk(ok:Addr->Prop)(q:Addr)(s:Z3)(_:vs=[.ref q])(_:ShAt ca.sheet ok H q s)(_:∀ l H',H' l=some (.lst s.gv)->Same H H'->H l=none->Q (.ref l) H')
inductive Nj(ca:CA)(vs:List V)(H:Hp)(Q:VK)(_:XK):Prop where
 | mk(ok:Addr->Prop)(q:Addr)(s:Z3)(n:Int)(_:vs=[.ref q,.int n])(_:ShAt ca.sheet ok H q s)(_:(∀ x∈s.gv,oneV x))(_:s.gv.length<=100)(_:∀ H',Same H H'->Q (oN (X5 s.gv n)) H')
inductive Dp(ca:CA)(vs:List V)(H:Hp)(Q:VK)(_:XK):Prop where
 | mk(ok:Addr->Prop)(q:Addr)(s:Z3)(_:vs=[.ref q])(_:ShAt ca.sheet ok H q s)(_:(∀ x∈s.gv,oneV x))(_:s.gv.length<=100)(_:∀ l H',H' l=some (.lst ((W9 s.gv).map fun i=>V.int (i:Nat)))->Same H H'->H l=none->Q (.ref l) H')
inductive Az(ca:CA)(vs:List V)(H:Hp)(Q:VK)(_:XK):Prop where
 | mk(ok:Addr->Prop)(q:Addr)(s:Z3)(nu:List Int)(_:vs=[.ref q])(_:ShAt ca.sheet ok H q s)(_:R0 s.may nu)(_:Yl s.may s.gv)(_:Dd s.may s.gv)(_:∀ t lp lr ps rs H',H' t=some (.tup [.ref lp,.ref lr])->H' lp=some (.lst (Y9 ps))->H' lr=some (.lst (rs.map V.int))->Kh s.may s.gv ps rs->Same H H'->H t=none->H lp=none->H lr=none->lp≠lr->Q (.ref t) H')
def Dq(m:Int×Int×Int)(x:V):Row:=⟨m.1,m.2.1,m.2.2,De (some x)⟩
def Xt(s:Z3):List Row:=List.zipWith Dq s.ms s.gv
inductive Dr(ca:CA)(vs:List V)(H:Hp)(Q:VK)(_:XK):Prop where
 | mk(ok:Addr->Prop)(q:Addr)(s:Z3)(_:vs=[.ref q])(_:ShAt ca.sheet ok H q s)(_:(∀ x∈s.gv,oneV x))(_:s.gv.length=s.ms.length)(_:s.ms.length<=1000)(_:∀ l ts H',H' l=some (.lst ts)->Z0 H' ts ((Xt s).map Qv)->Same H H'->H l=none->Q (.ref l) H')
inductive Kk(ca:CA)(vs:List V)(H:Hp)(Q:VK)(_:XK):Prop where
 | mk(ok:Addr->Prop)(q:Addr)(s:Z3)(_:vs=[.ref q])(_:ShAt ca.sheet ok H q s)(_:s.gaps.length<=1000)(_:∀ l ts H',H' l=some (.lst ts)->W0 (fun x=>H x=none/\x≠l) H' ts s.gaps->Same H H'->H l=none->Q (.ref l) H')
theorem Pn{K:Frag}{a:Addr}{xs:List V}{xo:List Str}{js:List Nat}{g:TG}{tt:TT}{te:TE}{σ:L2.St}{H:Hp}{Q:VK}(Pv:Nat->List V->Hp->Prop)(h0:Pv 0 [] H)(hl:∀ i ys H,i<=xs.length->Pv i ys H->SqL K H a xs)(hz:xs.length<=sizeLine)(hy:∀ i ys H,Pv i ys H->ys.length<=i)
  (hs:∀ i x ys H,xs[i]?=some x->Pv i ys H->g x (cs0 xo js σ) H fun σ2 H1=>Sv xo js σ σ2/\tt σ2 H1 fun b H2=>if b=true then te σ2 H2 fun y H3=>Pv (i+1) (ys++[y]) H3 else Pv (i+1) ys H2)
  (hd:∀ ys H,Pv xs.length ys H->∀ p,H p=none->Q (.ref p) (upd H p (.lst ys))):Fm (Itl K a) xo js g tt te σ H Q:=by
 refine⟨fun i m ys H=>m=xs.length-i/\i<=xs.length/\Pv i ys H,⟨xs.length,by simp,ztt _,h0⟩,?_⟩;rintro i m ys H ⟨rfl,hi,p⟩;have q:=hl i ys H hi p;have ly:=hy i ys H p;by_cases hlt:i<xs.length
 ·refine .inr ⟨⟨xs,xs[i],q,by simp[hlt]⟩,by omega,Pv (i+1),fun ys' H' p'=>⟨xs.length-(i+1),by omega,rfl,hlt,p'⟩,fun x H' y=>?_⟩;obtain⟨e,y⟩:=y;subst e;exact hs i x ys _ (y xs q) p
 ·have e:i=xs.length:=by omega
  subst e;exact .inl ⟨⟨xs,q,ztb _⟩,by omega,hd ys H p⟩
theorem zbe{K:Frag}{a b:Addr}{xs zs:List V}{xo:List Str}{js:List Nat}{g:TG}{tt:TT}{te:TE}{σ:L2.St}{H:Hp}{Q:VK}(Pv:Nat->List V->Hp->Prop)(h0:Pv 0 [] H)(he:xs.length=zs.length)(hl:∀ i ys H,i<=xs.length->Pv i ys H->SqL K H a xs/\SqL K H b zs)(hz:xs.length<=sizeLine)(hy:∀ i ys H,Pv i ys H->ys.length<=i)
  (hs:∀ i x z t ys H,xs[i]?=some x->zs[i]?=some z->Pv i ys H->H t=none->g (.ref t) (cs0 xo js σ) (upd H t (.tup [x,z])) fun σ2 H1=>Sv xo js σ σ2/\tt σ2 H1 fun b H2=>if b=true then te σ2 H2 fun y H3=>Pv (i+1) (ys++[y]) H3 else Pv (i+1) ys H2)
  (hd:∀ ys H,Pv xs.length ys H->∀ p,H p=none->Q (.ref p) (upd H p (.lst ys))):Fm (Itz K a b) xo js g tt te σ H Q:=by
 refine⟨fun i m ys H=>m=xs.length-i/\i<=xs.length/\Pv i ys H,⟨xs.length,by simp,ztt _,h0⟩,?_⟩;rintro i m ys H ⟨rfl,hi,p⟩;obtain⟨q1,q2⟩:=hl i ys H hi p;have ly:=hy i ys H p;by_cases hlt:i<xs.length
 ·refine .inr ⟨⟨xs,zs,xs[i],zs[i]'⋯,q1,q2,by simp[hlt],by rw[zs4 ⋯]⟩,by omega,Pv (i+1),fun ys' H' p'=>⟨xs.length-(i+1),by omega,rfl,hlt,p'⟩,fun x H' y=>?_⟩;obtain⟨t,y,z,h1,h2,h3,rfl,rfl⟩:=y;exact hs i y z t ys _ (h2 xs q1) (h3 zs q2) p h1
 ·have e:i=xs.length:=by omega
  subst e;exact .inl ⟨⟨xs,zs,q1,q2,.inl (ztb _)⟩,by omega,hd ys H p⟩
theorem zhd(m:Int×Int×Int)(h:oneV x):Qv (Dq m x)=[V.int m.1,V.int m.2.1,V.int m.2.2,x]:=by
 rcases h with rfl|⟨i,rfl⟩<;>rfl
theorem zbf(hm:s.ms[i]?=some m)(hx:s.gv[i]?=some x):(Xt s).take (i+1)=(Xt s).take i++[Dq m x]:=by
 have:(Xt s)[i]?=some (Dq m x):=by
  unfold Xt;rw[List.getElem?_zipWith,hm,hx]
 rw[zue,this];rfl
theorem Du(h:s.gv.length=s.ms.length):(Xt s).length=s.ms.length:=by
 unfold Xt;rw[List.length_zipWith,h,Nat.min_self]
section
variable{ca:CA}{H H':Hp}{A:SAd}{S:Sea}{l:Nat}{r:Nat}{v:V}
theorem Dv(A:SAd)(l r:Nat)(v:V):List.lookup ("length":Str) (seaF A l r v)=some (.int l)/\List.lookup ("rest":Str) (seaF A l r v)=some (.int r)/\List.lookup ("roster":Str) (seaF A l r v)=some (.ref A.pr)/\List.lookup ("ledger":Str) (seaF A l r v)=some (.ref A.pl)/\List.lookup ("absent":Str) (seaF A l r v)=some (.ref A.da)/\List.lookup ("sheets":Str) (seaF A l r v)=some (.ref A.ls)/\List.lookup ("sheet":Str) (seaF A l r v)=some v/\List.lookup ("standing":Str) (seaF A l r v)=some (.ref A.lt):=by
 have d:∀ a b:Str,decide (a=b)=false->(a == b)=false:=fun a b h=>ztr.mpr (of_decide_eq_false h);have e1:=d "rest" "length" ⋯;have e2:=d "roster" "length" ⋯;have e3:=d "roster" "rest" ⋯;have f1:=d "ledger" "length" ⋯;have f2:=d "ledger" "rest" ⋯;have f3:=d "ledger" "roster" ⋯;have g1:=d "absent" "length" ⋯;have g2:=d "absent" "rest" ⋯;have g3:=d "absent" "roster" ⋯;have g4:=d "absent" "ledger" ⋯;have h1:=d "sheets" "length" ⋯;have h2:=d "sheets" "rest" ⋯;have h3:=d "sheets" "roster" ⋯;have h4:=d "sheets" "ledger" ⋯;have h5:=d "sheets" "absent" ⋯;have i1:=d "sheet" "length" ⋯;have i2:=d "sheet" "rest" ⋯;have i3:=d "sheet" "roster" ⋯;have i4:=d "sheet" "ledger" ⋯;have i5:=d "sheet" "absent" ⋯;have i6:=d "sheet" "sheets" ⋯;have j1:=d "standing" "length" ⋯;have j2:=d "standing" "rest" ⋯;have j3:=d "standing" "roster" ⋯;have j4:=d "standing" "ledger" ⋯;have j5:=d "standing" "absent" ⋯;have j6:=d "standing" "sheets" ⋯;have j7:=d "standing" "sheet" ⋯;unfold seaF;refine⟨?_,?_,?_,?_,?_,?_,?_,?_⟩<;>simp only[zt3,beq_self_eq_true,e1,e2,e3,f1,f2,f3,g1,g2,g3,g4,h1,h2,h3,h4,h5,i1,i2,i3,i4,i5,i6,j1,j2,j3,j4,j5,j6,j7]
theorem Ge:List.lookup ("length":Str) (seaF A l r v)=some (.int l):=(Dv A l r v).1
theorem ze9:List.lookup ("rest":Str) (seaF A l r v)=some (.int r):=(Dv A l r v).2.1
theorem Vt:List.lookup ("roster":Str) (seaF A l r v)=some (.ref A.pr):=(Dv A l r v).2.2.1
theorem Vu:List.lookup ("ledger":Str) (seaF A l r v)=some (.ref A.pl):=(Dv A l r v).2.2.2.1
theorem Qs:List.lookup ("absent":Str) (seaF A l r v)=some (.ref A.da):=(Dv A l r v).2.2.2.2.1
theorem Gf:List.lookup ("sheets":Str) (seaF A l r v)=some (.ref A.ls):=(Dv A l r v).2.2.2.2.2.1
theorem X7:List.lookup ("sheet":Str) (seaF A l r v)=some v:=(Dv A l r v).2.2.2.2.2.2.1
theorem V5:List.lookup ("standing":Str) (seaF A l r v)=some (.ref A.lt):=(Dv A l r v).2.2.2.2.2.2.2
theorem Z8(h:(["length","rest","roster","ledger","absent","sheets","sheet","standing"]:List Str).all (fun x=>!decide (m=x))=true):List.lookup m (seaF A l r v)=none:=by
 simp only[List.all_cons,List.all_nil,Bool.and_true,zut,Bool.not_eq_true',decide_eq_false_iff_not] at h;obtain⟨h1,h2,h3,h4,h5,h6,h7,h8⟩:=h;have e:∀ x:Str,¬ m=x->(m == x)=false:=fun x z=>ztr.mpr z;unfold seaF;simp only[zt3,e _ h1,e _ h2,e _ h3,e _ h4,e _ h5,e _ h6,e _ h7,e _ h8,List.lookup_nil]
theorem Zw.same(h:Zw ca H A S)(e:Same H H'):Zw ca H' A S:=by
 obtain⟨⟨dx,v,a1,a2⟩,b,c,⟨kvs,d1,d2⟩,⟨vs,f1,f2⟩,⟨us,g1,g2⟩,nd,np⟩:=h;have k:∀ x o,x∉A.fp->H x=some o->H' x=some o:=fun _ _ _ q=>e _ _ q;have kt:∀ t xs,H t=some (.tup xs)->H' t=some (.tup xs):=fun _ _ q=>e _ _ q;exact⟨⟨dx,v,e _ _ a1,a2.keep k kt⟩,b.same e,c.same e,⟨kvs,e _ _ d1,d2⟩,⟨vs,e _ _ f1,f2.keep k kt⟩,⟨us,e _ _ g1,g2.keep k kt⟩,nd,np⟩
theorem FrS.of(A:SAd)(e:Same H H'):FrS A H H':=fun b o q _=>e b o q
theorem FrS.trans(h1:FrS A H H')(h2:FrS A H' H2):FrS A H H2:=fun b o e n=>h2 b o (h1 b o e n) n
theorem Zw.there(h:Zw ca H A S):∀ x∈A.fp,∃ o,H x=some o:=by
 obtain⟨⟨dx,v,a1,_⟩,⟨⟨_,_,_,b2,_⟩,_⟩,⟨_,⟨rs,c2,_⟩,⟨ks,c3,_⟩⟩,⟨kvs,d1,_⟩,⟨vs,f1,_⟩,⟨us,g1,_⟩,nd,np⟩:=h;intro x hx;simp only[SAd.fp,zs7,zt1,or_false] at hx;rcases hx with rfl|rfl|rfl|rfl|rfl|rfl|rfl
 ·exact⟨_,a1⟩
 ·exact⟨_,b2⟩
 ·exact⟨_,c2⟩
 ·exact⟨_,c3⟩
 ·exact⟨_,d1⟩
 ·exact⟨_,f1⟩
 ·exact⟨_,g1⟩
theorem Zw.newOk(h:Zw ca H A S):Ax (·∉A.fp) H:=fun x hx hm=>by
 obtain⟨o,e⟩:=h.there x hm;rw[e] at hx;cases hx
theorem Zw.tups(h:Zw ca H A S)(f:FrS A H H'):∀ t xs,H t=some (.tup xs)->H' t=some (.tup xs):=fun t xs e=>f t _ e fun hm=>by
 obtain⟨⟨dx,v,a1,_⟩,⟨⟨_,_,_,b2,_⟩,_⟩,⟨_,⟨rs,c2,_⟩,⟨ks,c3,_⟩⟩,⟨kvs,d1,_⟩,⟨vs,f1,_⟩,⟨us,g1,_⟩,nd,np⟩:=h;simp only[SAd.fp,zs7,zt1,or_false] at hm;rcases hm with rfl|rfl|rfl|rfl|rfl|rfl|rfl
 ·rw[a1] at e;cases e
 ·rw[b2] at e;cases e
 ·rw[c2] at e;cases e
 ·rw[c3] at e;cases e
 ·rw[d1] at e;cases e
 ·rw[f1] at e;cases e
 ·rw[g1] at e;cases e
end
def atV(S:Sea):Int:=(S.led.length:Int)+1
inductive Vd(ca:CA)(vs:List V)(H:Hp)(Q:VK)(_:XK):Prop where
 | mk(A:SAd)(S:Sea)(_:vs=[.ref A.p])(_:Zw ca H A S)(_:Q (.int (atV S)) H)
inductive Nk(ca:CA)(vs:List V)(H:Hp)(Q:VK)(E:XK):Prop where
 | mk(A:SAd)(S:Sea)(_:vs=[.ref A.p])(_:Zw ca H A S)(_:if S.len<=S.led.length then E (.ref ca.seaOver) none H else Q .non H)
inductive Nl(ca:CA)(vs:List V)(H:Hp)(Q:VK)(E:XK):Prop where
 | mk(A:SAd)(S:Sea)(_:vs=[.ref A.p])(_:Zw ca H A S)(_:if S.len<=S.led.length then E (.ref ca.seaOver) none H else if S.cur.isSome then E (.ref ca.drawn) none H else Q .non H)
inductive Fq(ca:CA)(vs:List V)(H:Hp)(Q:VK)(E:XK):Prop where
 | mk(A:SAd)(S:Sea)(at_:Int)(_:vs=[.ref A.p,.int at_])(_:Zw ca H A S)(_:Yg at_)(_:if at_<1\/(S.len:Int)<at_ then E (.ref ca.noRound) none H else Q .non H)
inductive Fs(ca:CA)(vs:List V)(H:Hp)(Q:VK)(E:XK):Prop where
 | mk(A:SAd)(S:Sea)(_:vs=[.ref A.p])(_:Zw ca H A S)(_:if 100<=S.std.length then E (.ref ca.manyD) none H else Q .non H)
inductive Ft(ca:CA)(vs:List V)(H:Hp)(Q:VK)(_:XK):Prop where
 | mk(A:SAd)(S:Sea)(w:Str)(n at_:Int)(_:vs=[.ref A.p,.str w,.int n,.int at_])(_:Zw ca H A S)(_:S.std.length<=1000)(_:∀ H',Zw ca H' A { S with std:=S.std++[((w,n,at_),S.cur)] }->FrS A H H'->Q .non H')
inductive Po(ca:CA)(vs:List V)(H:Hp)(Q:VK)(E:XK):Prop where
 | mk(A:SAd)(S:Sea)(_:vs=[.ref A.p])(_:Zw ca H A S)(_:(S.cur=none->E (.ref ca.notDrawn) none H))(_:∀ s q,S.cur=some s->ShAt ca.sheet (·∉A.fp) H q s->Q (.ref q) H)
def Ve(S:Sea)(at_:Int):Option Z3:=if at_<=S.led.length then S.old[(at_-1).toNat]? else if (S.led.length:Int)+1<at_ then none else S.cur
inductive Sf(ca:CA)(vs:List V)(H:Hp)(Q:VK)(E:XK):Prop where
 | mk(A:SAd)(S:Sea)(at_:Int)(_:vs=[.ref A.p,.int at_])(_:Zw ca H A S)(_:Yg at_)(_:S.old.length=S.led.length)(_:if at_<1\/(S.len:Int)<at_ then E (.ref ca.noRound) none H else (Ve S at_=none->E (.ref ca.notDrawn) none H)/\∀ s q,Ve S at_=some s->ShAt ca.sheet (·∉A.fp) H q s->Q (.ref q) H)
def pIn(out:List (Int×Int))(at_:Int)(m:P3):Bool:=decide ((at_,m.1)∈out)
def Jx(S:Sea)(m:P3):List Int:=(S.ppl.filter fun x=>(Fg S.led x.1 x.2.1 x.2.2 m.1 m.2.1 m.2.2 (pIn S.out (atV S) x) S.rest).isEmpty).map (·.1)
def mayS(S:Sea)(ms:List P3):List (List Int):=ms.map (Jx S)
inductive Pp(ca:CA)(vs:List V)(H:Hp)(Q:VK)(_:XK):Prop where
 | mk(A:SAd)(S:Sea)(l:Addr)(ts:List V)(ms:List P3)(_:vs=[.ref A.p,.ref l])(_:Zw ca H A S)(_:H l=some (.lst ts))(_:Z0 H ts (ms.map pV))(_:ms.length<=100)(_:S.ppl.length<=100)(_:(∀ x∈S.ppl,Yg x.1))(_:∀ l' ls H',H' l'=some (.lst (ls.map V.ref))->ILs H' ls (mayS S ms)->Same H H'->H l'=none->(∀ x∈ls,H x=none)->Q (.ref l') H')
def badM(m:P3):Prop:=m.1<1\/99<m.1\/m.2.1<1\/99<m.2.1\/m.2.2<1\/9<m.2.2
def Vv(Ms:List P3):Prop:=∃ m∈Ms,badM m
def We(Ms:List P3):Prop:=∃ m∈Ms,m.1=m.2.1
def Ua(m:P3):Prop:=Yg m.1/\Yg m.2.1/\Yg m.2.2
theorem Gg{p:P3->Prop}{Ms:List P3}{i:Nat}{m:P3}(e:Ms[i]?=some m)(h:∀ x∈Ms.take i,¬ p x)(hm:¬ p m):∀ x∈Ms.take (i+1),¬ p x:=fun x hx=>by
 rw[zue,e] at hx;rcases zth.mp hx with q|q
 ·exact h x q
 ·simp at q;subst q;exact hm
inductive Dw(K:Frag)(ca:CA)(vs:List V)(H:Hp)(Q:VK)(E:XK):Prop where
 | mk(b)(ts)(_:vs=[.ref b])(_:SqL K H b ts)(_:ts.length<=1000)(_:(20<ts.length->E (.ref ca.manyM) none H))(_:(ts.length<=20->Q .non H))
inductive Gh(K:Frag)(ca:CA)(vs:List V)(H:Hp)(Q:VK)(E:XK):Prop where
 | mk(b:Addr)(ts:List V)(Ms:List P3)(_:vs=[.ref b])(_:SqL K H b ts)(_:Z0 H ts (Ms.map pV))(_:(∀ m∈Ms,Ua m))(_:(Vv Ms->E (.ref ca.out) none H))(_:(¬ Vv Ms->Q .non H))
inductive Dx(K:Frag)(ca:CA)(vs:List V)(H:Hp)(Q:VK)(E:XK):Prop where
 | mk(b:Addr)(ts:List V)(Ms:List P3)(_:vs=[.ref b])(_:SqL K H b ts)(_:Z0 H ts (Ms.map pV))(_:(∀ m∈Ms,Ua m))(_:(We Ms->E (.ref ca.same) none H))(_:(¬ We Ms->Q .non H))
inductive Kl(K:Frag)(ca:CA)(vs:List V)(H:Hp)(Q:VK)(E:XK):Prop where
 | mk(b:Addr)(ts:List V)(Ms:List P3)(_:vs=[.ref b])(_:SqL K H b ts)(_:Z0 H ts (Ms.map pV))(_:(∀ m∈Ms,Ua m))(_:Ms.length<=1000)(_:(20<Ms.length->E (.ref ca.manyM) none H))(_:(Ms.length<=20->Vv Ms->E (.ref ca.out) none H))(_:(Ms.length<=20->¬ Vv Ms->We Ms->E (.ref ca.same) none H))(_:(Ms.length<=20->¬ Vv Ms->¬ We Ms->∀ l,H l=none->Q (.ref l) (upd H l (.lst ts))))
theorem R6.isSome(h:R6 kvs out)(i n:Int):(valV kvs [inl i,inl n]).isSome=decide ((i,n)∈out):=h.1 i n
theorem Km{A:SAd}(nd:A.fp.Nodup):(A.p≠A.dr/\A.p≠A.lr/\A.p≠A.ld/\A.p≠A.da/\A.p≠A.ls/\A.p≠A.lt)/\(A.dr≠A.lr/\A.dr≠A.ld/\A.dr≠A.da/\A.dr≠A.ls/\A.dr≠A.lt)/\(A.lr≠A.ld/\A.lr≠A.da/\A.lr≠A.ls/\A.lr≠A.lt)/\(A.ld≠A.da/\A.ld≠A.ls/\A.ld≠A.lt)/\(A.da≠A.ls/\A.da≠A.lt)/\A.ls≠A.lt:=by
 simp only[SAd.fp,ztx,zs7,zt1,or_false,not_or] at nd;obtain⟨⟨n1,n2,n3,n4,n5,n6⟩,⟨n7,n8,n9,n10,n11⟩,⟨n12,n13,n14,n15⟩,⟨n16,n17,n18⟩,⟨n19,n20⟩,n21,_⟩:=nd;exact⟨⟨n1,n2,n3,n4,n5,n6⟩,⟨n7,n8,n9,n10,n11⟩,⟨n12,n13,n14,n15⟩,⟨n16,n17,n18⟩,⟨n19,n20⟩,n21⟩
theorem zfa{R:RL}(nd:(R.map (·.1)).Nodup){x y:P3}(hx:x∈R)(hy:y∈R)(h:x.1=y.1):x=y:=by
 induction R with
 | nil=>cases hx
 | cons z R ih =>
   rw[ztf,ztx] at nd;rcases zs7.mp hx with e|e<;>rcases zs7.mp hy with e'|e'
   ·rw[e,e']
   ·exact absurd (ztd.mpr ⟨y,e',by rw[<- h,e]⟩) nd.1
   ·exact absurd (ztd.mpr ⟨x,e,by rw[h,e']⟩) nd.1
   ·exact ih nd.2 e e'
def outV(S:Sea):List V:=(S.ppl.filter (pIn S.out (atV S))).map fun x=>V.int x.1
theorem zdl(S:Sea):∀ x∈outV S,oneV x:=fun x hx=>by
 unfold outV at hx;obtain⟨m,_,rfl⟩:=ztd.mp hx;exact .inr ⟨_,rfl⟩
theorem zfb(hx:x∈S.ppl):inV (.int x.1) (outV S)=pIn S.out (atV S) x:=by
 unfold outV;rw[show ((S.ppl.filter (pIn S.out (atV S))).map fun x=>V.int x.1)=((S.ppl.filter (pIn S.out (atV S))).map (·.1)).map V.int by rw[zup];rfl,ze4];unfold pIn;by_cases h:(atV S,x.1)∈S.out
 ·rw[zs6 h,zs6];exact ztd.mpr ⟨x,zt9.mpr ⟨hx,zs6 h⟩,rfl⟩
 ·rw[ztc h,ztc];intro z;obtain⟨y,h1,h2⟩:=ztd.mp z;have:=of_decide_eq_true (zt9.mp h1).2;rw[h2] at this;exact h this
theorem zhe(S:Sea)(m:P3):((S.ppl.filter (Rz S.led m.1 m.2.1 m.2.2 (outV S) S.rest)).map fun x=>V.int x.1)=(Jx S m).map V.int:=by
 unfold Jx;rw[zup];have:S.ppl.filter (Rz S.led m.1 m.2.1 m.2.2 (outV S) S.rest)=S.ppl.filter fun x=>(Fg S.led x.1 x.2.1 x.2.2 m.1 m.2.1 m.2.2 (pIn S.out (atV S) x) S.rest).isEmpty:=by
  refine List.filter_congr fun x hx=>?_;unfold Rz;rw[zfb hx]
 rw[this];rfl
theorem zdm:atI (xs++[x]) (-1)=some x:=by
 have hl:(xs++[x]).length=xs.length+1:=by rw[zs8];rfl
 unfold atI ixN;rw[if_neg ⋯,if_pos ⋯];show (xs++[x])[((-1:Int)+(xs++[x]).length).toNat]?=_;rw[show ((-1:Int)+(xs++[x]).length).toNat=xs.length by omega,zt5 (ztb _),Nat.sub_self];rfl
theorem W0.unsnoc{ok:Addr->Prop}{H:Hp}{n:Int}{st:List (Nat×Option Int)}:∀ {vs:List V} {G:List (Int×List (Nat×Option Int))},W0 ok H vs (G++[(n,st)])->∃ vs' t l us,vs=vs'++[.ref t]/\H t=some (.tup [.int n,.ref l])/\H l=some (.lst us)/\Z0 H us (st.map Vp)/\ok l
 | _,[],.cons h hl tl o .nil=>⟨[],_,_,_,rfl,h,hl,tl,o⟩
 | _,_ :: _,.cons h hl tl o r=>by
   obtain⟨vs',t,l,us,e,a⟩:=W0.unsnoc r;exact⟨_ :: vs',t,l,us,by rw[e];rfl,a⟩
def R8(S:Sea):Prop:=(∀ x∈S.ppl,¬ badI x.1 x.2.1 x.2.2)/\S.ppl.length<=30
theorem R8.small(h:R8 S):∀ x∈S.ppl,Yg x.1:=fun x hx=>by
 have:=h.1 x hx;unfold badI at this;exact Ya ⋯ ⋯
theorem R8.may(h:R8 S)(nd:(S.ppl.map (·.1)).Nodup)(hm:ms.length<=20):R0 (mayS S ms) (S.ppl.map (·.1)):=by
 refine⟨by unfold mayS;rw[zs3];exact hm,by rw[zs3];exact h.2,nd,fun n hn=>?_,fun r hr=>?_⟩
 ·obtain⟨x,hx,rfl⟩:=ztd.mp hn;have:=h.1 x hx;unfold badI at this;omega
 ·unfold mayS at hr;obtain⟨m,_,rfl⟩:=ztd.mp hr;unfold Jx;exact⟨nd.sublist (List.Sublist.map _ List.filter_sublist),fun n hn=>by
   obtain⟨x,hx,rfl⟩:=ztd.mp hn;exact ztd.mpr ⟨x,(zt9.mp hx).1,rfl⟩⟩
section
variable{ca:CA}{H H':Hp}{A:SAd}{S:Sea}
theorem Me(h:Zw ca H A S)(hx:x∈A.fp):A.pr≠x/\A.pl≠x:=⟨fun z=>h.np.1 (by rw[z];exact hx),fun z=>h.np.2 (by rw[z];exact hx)⟩
theorem FrS.one(hx:x∈A.fp)(k:∀ b o,H b=some o->b≠x->H' b=some o):FrS A H H':=fun b o e hb=>k b o e fun z=>hb (by rw[z];exact hx)
theorem Zw.setRos(h:Zw ca H A S)(r:Y7 ca.roster H' A.pr A.dr R)(k:∀ b o,H b=some o->b≠A.dr->H' b=some o):Zw ca H' A { S with ppl:=R }/\FrS A H H':=by
 have f:FrS A H H':=.one (by simp[SAd.fp]) k;have kt:=h.tups f;have ko:∀ x o,x∉A.fp->H x=some o->H' x=some o:=fun x o hx e=>f x o e hx;obtain⟨⟨n1,n2,n3,n4,n5,n6⟩,⟨n7,n8,n9,n10,n11⟩,⟨n12,n13,n14,n15⟩,⟨n16,n17,n18⟩,⟨n19,n20⟩,n21⟩:=Km h.nd;have np:=Me h (show A.dr∈A.fp by simp[SAd.fp]);obtain⟨⟨dx,v,a1,a2⟩,b,c,⟨kvs,d1,d2⟩,⟨vs,f1,f2⟩,⟨us,g1,g2⟩,nd,np'⟩:=h;exact⟨⟨⟨dx,v,k _ _ a1 n1,a2.keep ko kt⟩,r,c.keep (fun o e=>k _ o e np.2) (fun o e=>k _ o e (Ne.symm n7)) (fun o e=>k _ o e (Ne.symm n8)) kt,⟨kvs,k _ _ d1 (Ne.symm n9),d2⟩,⟨vs,k _ _ f1 (Ne.symm n10),f2.keep ko kt⟩,⟨us,k _ _ g1 (Ne.symm n11),g2.keep ko kt⟩,nd,np'⟩,f⟩
theorem Zw.setOut{out:List (Int×Int)}{kvs:List (List Key×V)}(h:Zw ca H A S)(hd:H' A.da=some (.dT kvs))(ok:R6 kvs out)(k:∀ b o,H b=some o->b≠A.da->H' b=some o):Zw ca H' A { S with out:=out }/\FrS A H H':=by
 have f:FrS A H H':=.one (by simp[SAd.fp]) k;have kt:=h.tups f;have ko:∀ x o,x∉A.fp->H x=some o->H' x=some o:=fun x o hx e=>f x o e hx;obtain⟨⟨n1,n2,n3,n4,n5,n6⟩,⟨n7,n8,n9,n10,n11⟩,⟨n12,n13,n14,n15⟩,⟨n16,n17,n18⟩,⟨n19,n20⟩,n21⟩:=Km h.nd;have np:=Me h (show A.da∈A.fp by simp[SAd.fp]);obtain⟨⟨dx,v,a1,a2⟩,b,c,⟨kvs',d1,d2⟩,⟨vs,f1,f2⟩,⟨us,g1,g2⟩,nd,np'⟩:=h;exact⟨⟨⟨dx,v,k _ _ a1 n4,a2.keep ko kt⟩,b.keep (fun o e=>k _ o e np.1) (fun o e=>k _ o e n9) kt,c.keep (fun o e=>k _ o e np.2) (fun o e=>k _ o e n13) (fun o e=>k _ o e n16) kt,⟨kvs,hd,ok⟩,⟨vs,k _ _ f1 (Ne.symm n19),f2.keep ko kt⟩,⟨us,k _ _ g1 (Ne.symm n20),g2.keep ko kt⟩,nd,np'⟩,f⟩
theorem Zw.setCur(h:Zw ca H A S)(hp:∃ dx,H' A.p=some (.ins ca.season dx (seaF A S.len S.rest v)))(sh:ShO ca.sheet (·∉A.fp) H' v cur)(k:∀ b o,H b=some o->b≠A.p->H' b=some o):Zw ca H' A { S with cur:=cur }/\FrS A H H':=by
 have f:FrS A H H':=.one (by simp[SAd.fp]) k;have kt:=h.tups f;have ko:∀ x o,x∉A.fp->H x=some o->H' x=some o:=fun x o hx e=>f x o e hx;obtain⟨⟨n1,n2,n3,n4,n5,n6⟩,⟨n7,n8,n9,n10,n11⟩,⟨n12,n13,n14,n15⟩,⟨n16,n17,n18⟩,⟨n19,n20⟩,n21⟩:=Km h.nd;have np:=Me h (show A.p∈A.fp by simp[SAd.fp]);obtain⟨⟨dx,v',a1,a2⟩,b,c,⟨kvs',d1,d2⟩,⟨vs,f1,f2⟩,⟨us,g1,g2⟩,nd,np'⟩:=h;obtain⟨dx',hp⟩:=hp;exact⟨⟨⟨dx',v,hp,sh⟩,b.keep (fun o e=>k _ o e np.1) (fun o e=>k _ o e (Ne.symm n1)) kt,c.keep (fun o e=>k _ o e np.2) (fun o e=>k _ o e (Ne.symm n2)) (fun o e=>k _ o e (Ne.symm n3)) kt,⟨kvs',k _ _ d1 (Ne.symm n4),d2⟩,⟨vs,k _ _ f1 (Ne.symm n5),f2.keep ko kt⟩,⟨us,k _ _ g1 (Ne.symm n6),g2.keep ko kt⟩,nd,np'⟩,f⟩
theorem Zw.setStd{std:List (Ut×Option Z3)}{us:List V}(h:Zw ca H A S)(hd:H' A.lt=some (.lst us))(ok:V4 ca.sheet (·∉A.fp) H' us std)(k:∀ b o,H b=some o->b≠A.lt->H' b=some o):Zw ca H' A { S with std:=std }/\FrS A H H':=by
 have f:FrS A H H':=.one (by simp[SAd.fp]) k;have kt:=h.tups f;have ko:∀ x o,x∉A.fp->H x=some o->H' x=some o:=fun x o hx e=>f x o e hx;obtain⟨⟨n1,n2,n3,n4,n5,n6⟩,⟨n7,n8,n9,n10,n11⟩,⟨n12,n13,n14,n15⟩,⟨n16,n17,n18⟩,⟨n19,n20⟩,n21⟩:=Km h.nd;have np:=Me h (show A.lt∈A.fp by simp[SAd.fp]);obtain⟨⟨dx,v,a1,a2⟩,b,c,⟨kvs,d1,d2⟩,⟨vs,f1,f2⟩,⟨us',g1,g2⟩,nd,np'⟩:=h;exact⟨⟨⟨dx,v,k _ _ a1 n6,a2.keep ko kt⟩,b.keep (fun o e=>k _ o e np.1) (fun o e=>k _ o e n11) kt,c.keep (fun o e=>k _ o e np.2) (fun o e=>k _ o e n15) (fun o e=>k _ o e n18) kt,⟨kvs,k _ _ d1 n20,d2⟩,⟨vs,k _ _ f1 n21,f2.keep ko kt⟩,⟨us,hd,ok⟩,nd,np'⟩,f⟩
theorem Zw.setOld{old:List Z3}{us:List V}(h:Zw ca H A S)(hd:H' A.ls=some (.lst us))(ok:ShL ca.sheet (·∉A.fp) H' us old)(k:∀ b o,H b=some o->b≠A.ls->H' b=some o):Zw ca H' A { S with old:=old }/\FrS A H H':=by
 have f:FrS A H H':=.one (by simp[SAd.fp]) k;have kt:=h.tups f;have ko:∀ x o,x∉A.fp->H x=some o->H' x=some o:=fun x o hx e=>f x o e hx;obtain⟨⟨n1,n2,n3,n4,n5,n6⟩,⟨n7,n8,n9,n10,n11⟩,⟨n12,n13,n14,n15⟩,⟨n16,n17,n18⟩,⟨n19,n20⟩,n21⟩:=Km h.nd;have np:=Me h (show A.ls∈A.fp by simp[SAd.fp]);obtain⟨⟨dx,v,a1,a2⟩,b,c,⟨kvs,d1,d2⟩,⟨vs,f1,f2⟩,⟨us',g1,g2⟩,nd,np'⟩:=h;exact⟨⟨⟨dx,v,k _ _ a1 n5,a2.keep ko kt⟩,b.keep (fun o e=>k _ o e np.1) (fun o e=>k _ o e n10) kt,c.keep (fun o e=>k _ o e np.2) (fun o e=>k _ o e n14) (fun o e=>k _ o e n17) kt,⟨kvs,k _ _ d1 n19,d2⟩,⟨us,hd,ok⟩,⟨us',k _ _ g1 (Ne.symm n21),g2.keep ko kt⟩,nd,np'⟩,f⟩
theorem Zw.setLed(h:Zw ca H A S)(l:Vo ca.ledger H' A.pl A.lr A.ld Rs)(k:∀ b o,H b=some o->b≠A.lr->b≠A.ld->H' b=some o):Zw ca H' A { S with led:=Rs }/\FrS A H H':=by
 have f:FrS A H H':=fun b o e hb=>k b o e (fun z=>hb (by rw[z];simp[SAd.fp])) (fun z=>hb (by rw[z];simp[SAd.fp]));have kt:=h.tups f;have ko:∀ x o,x∉A.fp->H x=some o->H' x=some o:=fun x o hx e=>f x o e hx;obtain⟨⟨n1,n2,n3,n4,n5,n6⟩,⟨n7,n8,n9,n10,n11⟩,⟨n12,n13,n14,n15⟩,⟨n16,n17,n18⟩,⟨n19,n20⟩,n21⟩:=Km h.nd;have np:=Me h (show A.lr∈A.fp by simp[SAd.fp]);have np2:=Me h (show A.ld∈A.fp by simp[SAd.fp]);obtain⟨⟨dx,v,a1,a2⟩,b,c,⟨kvs,d1,d2⟩,⟨vs,f1,f2⟩,⟨us',g1,g2⟩,nd,np'⟩:=h;exact⟨⟨⟨dx,v,k _ _ a1 n2 n3,a2.keep ko kt⟩,b.keep (fun o e=>k _ o e np.1 np2.1) (fun o e=>k _ o e n7 n8) kt,l,⟨kvs,k _ _ d1 (Ne.symm n13) (Ne.symm n16),d2⟩,⟨vs,k _ _ f1 (Ne.symm n14) (Ne.symm n17),f2.keep ko kt⟩,⟨us',k _ _ g1 (Ne.symm n15) (Ne.symm n18),g2.keep ko kt⟩,nd,np'⟩,f⟩
theorem Pq:putF "sheet" v' (seaF A l r v)=seaF A l r v':=by
 have n1:¬ (("length":Str)="sheet"):=by decide +kernel
 have n2:¬ (("rest":Str)="sheet"):=by decide +kernel
 have n3:¬ (("roster":Str)="sheet"):=by decide +kernel
 have n4:¬ (("ledger":Str)="sheet"):=by decide +kernel
 have n5:¬ (("absent":Str)="sheet"):=by decide +kernel
 have n6:¬ (("sheets":Str)="sheet"):=by decide +kernel
 simp only[putF,seaF,if_neg n1,if_neg n2,if_neg n3,if_neg n4,if_neg n5,if_neg n6,if_true]
theorem FrS.free(f:FrS A H H')(h:Zw ca H' A S')(hl:H' l=none):H l=none:=by
 cases e:H l with
 | none=>rfl
 | some o =>
   by_cases hm:l∈A.fp
   ·obtain⟨o',e'⟩:=h.there l hm;rw[e'] at hl;cases hl
   ·rw[f l o e hm] at hl;cases hl
theorem ShAt.ins(h:ShAt ca.sheet (·∉A.fp) H q s):∃ dx l1 l2 l3 l4,H q=some (.ins ca.sheet dx (shF l1 l2 l3 l4)):=by
 obtain⟨dx,l1,l2,l3,l4,_,_,_,a1,_⟩:=h;exact⟨dx,l1,l2,l3,l4,a1⟩
theorem Zw.newSheet(h:Zw ca H A S)(hp:H A.p=some (.ins ca.season dx (seaF A S.len S.rest v)))(sh:ShAt ca.sheet (·∉A.fp) H q s) :
  Zw ca (upd H A.p (.ins ca.season dx (putF "sheet" (.ref q) (seaF A S.len S.rest v)))) A { S with cur:=some s }/\FrS A H (upd H A.p (.ins ca.season dx (putF "sheet" (.ref q) (seaF A S.len S.rest v))))/\ShAt ca.sheet (·∉A.fp) (upd H A.p (.ins ca.season dx (putF "sheet" (.ref q) (seaF A S.len S.rest v)))) q s:=by
 have k:∀ b o,H b=some o->b≠A.p->upd H A.p (.ins ca.season dx (putF "sheet" (.ref q) (seaF A S.len S.rest v))) b=some o:=fun b o e n=>by rw[Zi n];exact e
 have sh':=sh.keep (H':=upd H A.p (.ins ca.season dx (putF "sheet" (.ref q) (seaF A S.len S.rest v)))) (fun x o hx e=>k x o e fun z=>hx (by rw[z];simp[SAd.fp])) (fun t xs e=>k t _ e (Yo e hp (fun z=>nomatch z)));obtain⟨h1,h2⟩:=h.setCur (cur:=some s) (v:=.ref q) ⟨dx,by rw[Zd];exact congrArg (fun x=>some (HO.ins ca.season dx x)) Pq⟩ ⟨q,rfl,sh'⟩ k;exact⟨h1,h2,sh'⟩
theorem Jy:putF "standing" (.ref x) (seaF A l r v)=seaF { A with lt:=x } l r v:=by
 have n1:¬ (("length":Str)="standing"):=by decide +kernel
 have n2:¬ (("rest":Str)="standing"):=by decide +kernel
 have n3:¬ (("roster":Str)="standing"):=by decide +kernel
 have n4:¬ (("ledger":Str)="standing"):=by decide +kernel
 have n5:¬ (("absent":Str)="standing"):=by decide +kernel
 have n6:¬ (("sheets":Str)="standing"):=by decide +kernel
 have n7:¬ (("sheet":Str)="standing"):=by decide +kernel
 simp only[putF,seaF,if_neg n1,if_neg n2,if_neg n3,if_neg n4,if_neg n5,if_neg n6,if_neg n7,if_true]
end
def zdn(r q:Nat):Sea:=⟨r,q,[],[],[],[],none,[]⟩
inductive A0(ca:CA)(vs:List V)(H:Hp)(Q:VK)(E:XK):Prop where
 | mk(p dx:Addr)(r q:Int)(_:vs=[.ref p,.int r,.int q])(_:H p=some (.ins ca.season dx []))(_:Yg r)(_:Yg q)(_:if r<0\/60<r then E (.ref ca.out) none H else if q<0\/10<q then E (.ref ca.out) none H else ∀ A H',A.p=p->Zw ca H' A (zdn r.toNat q.toNat)->(∀ b o,H b=some o->b≠p->H' b=some o)->(∀ x∈A.fp,x≠p->H x=none)->Q .non H')
inductive A4(ca:CA)(vs:List V)(H:Hp)(Q:VK)(E:XK):Prop where
 | mk(A:SAd)(S:Sea)(n g c:Int)(_:vs=[.ref A.p,.int n,.int g,.int c])(_:Zw ca H A S)(_:Fo n g c)(_:S.std.length<=1000)(_:S.ppl.length<=1000)(_:if S.len<=S.led.length then E (.ref ca.seaOver) none H else if S.cur.isSome then E (.ref ca.drawn) none H else if badI n g c then E (.ref ca.out) none H else if n∈S.ppl.map (·.1) then E (.ref ca.known) none H else if 30<=S.ppl.length then E (.ref ca.many) none H else if 100<=S.std.length then E (.ref ca.manyD) none H else ∀ H',Zw ca H' A { S with ppl:=S.ppl++[(n,g,c)],std:=S.std++[(((("enrol":Str),n,atV S):Ut),S.cur)] }->FrS A H H'->Q .non H')
def Bo(S:Sea)(ms:List P3)(gv:List V):Sea:={ S with cur:=some ⟨ms,mayS S ms,gv,[]⟩,std:=S.std++[(((("draw up":Str),(ms.length:Int),atV S):Ut),S.cur)] }
inductive Dy(K:Frag)(ca:CA)(vs:List V)(H:Hp)(Q:VK)(E:XK):Prop where
 | mk(A:SAd)(S:Sea)(b:Addr)(ts:List V)(ms:List P3)(_:vs=[.ref A.p,.ref b])(_:Zw ca H A S)(_:SqL K H b ts)(_:Z0 H ts (ms.map pV))(_:(∀ m∈ms,Ua m))(_:ms.length<=1000)(_:S.std.length<=1000)(_:R8 S)(_:if S.len<=S.led.length then E (.ref ca.seaOver) none H else if S.cur.isSome then E (.ref ca.drawn) none H else (20<ms.length->E (.ref ca.manyM) none H)/\(ms.length<=20->Vv ms->E (.ref ca.out) none H)/\(ms.length<=20->¬ Vv ms->We ms->E (.ref ca.same) none H)/\(ms.length<=20->¬ Vv ms->¬ We ms->(100<=S.std.length->∀ H',Same H H'->E (.ref ca.manyD) none H')/\(S.std.length<100->∀ l gv H',H' l=some (.lst gv)->Zw ca H' A (Bo S ms gv)->Yl (mayS S ms) gv->Vs (mayS S ms) gv->FrS A H H'->H l=none->Q (.ref l) H')))
inductive Dz(ca:CA)(vs:List V)(H:Hp)(Q:VK)(_:XK):Prop where
 | mk(A:SAd)(S:Sea)(n:Int)(s:Z3)(nu:List Int)(_:vs=[.ref A.p,.int n])(_:Zw ca H A S)(_:S.cur=some s)(_:R8 S)(_:s.ms.length<=20)(_:(∀ x∈s.gv,oneV x))(_:s.gv.length<=100)(_:s.gaps.length<=500)(_:R0 (mayS S s.ms) nu)(_:(X5 s.gv n=none->∀ l H',H' l=some (.lst [])->Zw ca H' A { S with cur:=some { s with may:=mayS S s.ms } }->FrS A H H'->H l=none->Q (.ref l) H'))(_:∀ p,X5 s.gv n=some p->s.gv[p]?=some (.int n)/\(∀ j:Nat,s.gv[j]?=some (.int n)->j=p)/\Yl (mayS S s.ms) (s.gv.set p .non)/\∀ l us st e w H',H' l=some (.lst us)->Z0 H' us (st.map Vp)->Y6 (mayS S s.ms) (s.gv.set p .non) p st e w->Zw ca H' A { S with cur:=some ⟨s.ms,mayS S s.ms,Yp st (s.gv.set p .non),s.gaps++[(n,st)]⟩ }->FrS A H H'->H l=none->Q (.ref l) H')
def Xe(S:Sea)(i n:Int):Sea:={ S with out:=S.out++[(i,n)],std:=S.std++[((("away":Str),n,i),S.cur)] }
inductive zdo(ca:CA)(vs:List V)(H:Hp)(Q:VK)(E:XK):Prop where
 | mk(A:SAd)(S:Sea)(i n:Int)(_:vs=[.ref A.p,.int i,.int n])(_:Zw ca H A S)(_:Yg i)(_:Yg n)(_:S.std.length<=1000)(_:S.out.length<=100000)(_:R8 S)(_:(∀ s,S.cur=some s->s.ms.length<=20/\Yl s.may s.gv/\s.may=mayS S s.ms/\s.gaps.length<=500))(_:if i<1\/(S.len:Int)<i then E (.ref ca.noRound) none H else if i<=S.led.length then E (.ref ca.over) none H else if n∈S.ppl.map (·.1) then (if (i,n)∈S.out then ∀ H',Same H H'->E (.ref ca.away) none H' else if 100<=S.std.length then ∀ H',Same H H'->E (.ref ca.manyD) none H' else (S.cur=none\/atV S<i->∀ l H',H' l=some (.lst [])->Zw ca H' A (Xe S i n)->FrS A H H'->H l=none->Q (.ref l) H')/\(∀ s,i=atV S->S.cur=some s->X5 s.gv n=none->∀ l H',H' l=some (.lst [])->Zw ca H' A { Xe S i n with cur:=some { s with may:=mayS (Xe S i n) s.ms } }->FrS A H H'->H l=none->Q (.ref l) H')/\(∀ s p,i=atV S->S.cur=some s->X5 s.gv n=some p->∀ l us st e w H',H' l=some (.lst us)->Z0 H' us (st.map Vp)->Y6 (mayS (Xe S i n) s.ms) (s.gv.set p .non) p st e w->Zw ca H' A { Xe S i n with cur:=some ⟨s.ms,mayS (Xe S i n) s.ms,Yp st (s.gv.set p .non),s.gaps++[(n,st)]⟩ }->FrS A H H'->H l=none->Q (.ref l) H')) else E (.ref ca.unk) none H)
theorem R6.put(h:R6 kvs out)(i n:Int):R6 (putK kvs [inl i,inl n] (.bl true)) (out++[(i,n)]):=by
 refine⟨fun j m=>?_,?_⟩
 ·rw[Sb];by_cases e:j=i/\m=n
  ·rw[if_pos (Qp.mpr e),zs6 (by rw[e.1,e.2];simp)];rfl
  ·rw[if_neg (fun z=>e (Qp.mp z)),h.1 j m];by_cases hm:(j,m)∈out
   ·rw[zs6 hm,zs6 (zty _ hm)]
   ·rw[ztc hm,ztc];intro z;rcases zth.mp z with q|q
    ·exact hm q
    ·have:=zs9.mp q;exact e (by cases this;exact⟨rfl,rfl⟩)
 ·have:=X3 kvs ([inl i,inl n]:List Key) (.bl true);have:=h.2;rw[zs8];show _<=out.length+1;omega
theorem R6.drop(h:R6 kvs (out++[(i,n)]))(hn:(i,n)∉out):R6 (Xn kvs [inl i,inl n]) out:=by
 have hv:∀ k:List Key,valV (Xn kvs [inl i,inl n]) k=if k=[inl i,inl n] then none else valV kvs k:=fun k=>by
  clear h
  induction kvs with
  | nil=>unfold Xn;simp[valV]
  | cons x kvs ih =>
    by_cases ex:x.1=[inl i,inl n]
    ·rw[zaw ex,ih];by_cases e:k=[inl i,inl n]
     ·rw[if_pos e,if_pos e]
     ·rw[if_neg e,if_neg e,Yx (fun z=>e (z.symm.trans ex))]
    ·rw[zax ex];by_cases ek:x.1=k
     ·rw[Y1 ek,Y1 ek,if_neg (fun z=>ex (ek.trans z))]
     ·rw[Yx ek,Yx ek,ih]
 refine⟨fun j m=>?_,?_⟩
 ·rw[hv];by_cases e:j=i/\m=n
  ·rw[if_pos (Qp.mpr e),ztc (by rw[e.1,e.2];exact hn)];rfl
  ·rw[if_neg (fun z=>e (Qp.mp z)),h.1 j m];by_cases hm:(j,m)∈out
   ·rw[zs6 hm,zs6 (zty _ hm)]
   ·rw[ztc hm,ztc];intro z;rcases zth.mp z with q|q
    ·exact hm q
    ·have:=zs9.mp q;exact e (by cases this;exact⟨rfl,rfl⟩)
 ·have h1:=h.1 i n;rw[zs6 (show (i,n)∈out++[(i,n)] by simp)] at h1;have h2:=h.2;rw[zs8] at h2;have h2:kvs.length<=out.length+1:=h2;have h3:(Xn kvs [inl i,inl n]).length<kvs.length:=by
   unfold Xn;rw[List.length_filter_lt_length_iff_exists];obtain⟨v,hv'⟩:=zui.mp h1;unfold valV at hv';obtain⟨x,hx,_⟩:=zuc.mp hv';refine⟨x,List.mem_of_find?_eq_some hx,?_⟩;have:=List.find?_some hx;intro z;exact of_decide_eq_true z (of_decide_eq_true this)
  omega
theorem Pr(h:X5 gv n=some p):gv[p]?=some (.int n):=by
 unfold X5 at h;have h2:decide (gv[p]?=some (V.int n))=true:=List.find?_some (p:=fun i=>decide (gv[i]?=some (V.int n))) h;exact of_decide_eq_true h2
theorem Uv:mayS (Xe S (atV S) n) ms=without (mayS S ms) n:=by
 unfold mayS without;rw[zup];refine zuf fun m _=>?_;show Jx (Xe S (atV S) n) m=(Jx S m).filter fun x=>decide (x≠n);unfold Jx;rw[List.filter_map,List.filter_filter]
 congr 1
 refine List.filter_congr fun x _=>?_;show (Fg S.led x.1 x.2.1 x.2.2 m.1 m.2.1 m.2.2 (pIn (S.out++[(atV S,n)]) (atV S) x) S.rest).isEmpty=(decide (x.1≠n)&&(Fg S.led x.1 x.2.1 x.2.2 m.1 m.2.1 m.2.2 (pIn S.out (atV S) x) S.rest).isEmpty);unfold pIn;by_cases e:x.1=n
 ·have h1:decide ((atV S,x.1)∈S.out++[(atV S,n)])=true:=zs6 (by rw[e];simp);rw[h1,ztc (fun z=>z e),Bool.false_and];unfold Fg bw;simp
 ·have h1:decide ((atV S,x.1)∈S.out++[(atV S,n)])=decide ((atV S,x.1)∈S.out):=by
   by_cases hm:(atV S,x.1)∈S.out
   ·rw[zs6 hm,zs6 (zty _ hm)]
   ·rw[ztc hm,ztc];intro z;rcases zth.mp z with q|q
    ·exact hm q
    ·have:=zs9.mp q;cases this;exact e rfl
  rw[h1,zs6 e,Bool.true_and]
def Ln(S:Sea)(s:Z3):Sea:={ S with led:=S.led++[Xt s],old:=S.old++[s],cur:=none,std:=[] }
inductive A5(ca:CA)(vs:List V)(H:Hp)(Q:VK)(E:XK):Prop where
 | mk(A:SAd)(S:Sea)(_:vs=[.ref A.p])(_:Zw ca H A S)(_:2*(tot S.led+1000)<=100000)(_:S.led.length<=1000)(_:S.old.length<=1000)(_:(∀ s,S.cur=some s->(∀ x∈s.gv,oneV x)/\s.gv.length=s.ms.length/\s.ms.length<=1000))(_:if S.len<=S.led.length then E (.ref ca.seaOver) none H else (S.cur=none->E (.ref ca.notDrawn) none H)/\∀ s x H',S.cur=some s->Zw ca H' { A with lt:=x } (Ln S s)->FrS A H H'->H x=none->Q (.int (atV S)) H')
theorem Zw.freshStd(h:Zw ca H A S)(hx:H x=none)(hp:H A.p=some (.ins ca.season dx (seaF A S.len S.rest v)))(hv:ShO ca.sheet (·∉A.fp) H v S.cur)
  (e:H'=upd (upd H x (.lst [])) A.p (.ins ca.season dx (putF "standing" (.ref x) (seaF A S.len S.rest v)))):Zw ca H' { A with lt:=x } { S with std:=[] }/\FrS A H H':=by
 have hpx:A.p≠x:=Zg hp hx;have k:∀ b o,H b=some o->b≠A.p->H' b=some o:=fun b o q n=>by rw[e,Zi n,Zi (Zg q hx)];exact q
 have f:FrS A H H':=.one (by simp[SAd.fp]) k;have kt:=h.tups f;have hnx:∀ y,(∃ o,H y=some o)->y≠x:=fun y ⟨o,q⟩=>Zg q hx;have okk:∀ y,(∃ o,H' y=some o)->y∉A.fp->(∃ o,H y=some o)->y∉({ A with lt:=x }:SAd).fp:=fun y _ hy hH hm=>by
  simp only[SAd.fp,zs7,zt1,or_false] at hm hy;rcases hm with q|q|q|q|q|q|q
  ·exact hy (.inl q)
  ·exact hy (.inr (.inl q))
  ·exact hy (.inr (.inr (.inl q)))
  ·exact hy (.inr (.inr (.inr (.inl q))))
  ·exact hy (.inr (.inr (.inr (.inr (.inl q)))))
  ·exact hy (.inr (.inr (.inr (.inr (.inr (.inl q))))))
  ·exact hnx y hH q
 have ok2:∀ y,(∃ o,H y=some o)->y∉A.fp->y∉({ A with lt:=x }:SAd).fp:=fun y hH hy hm=>by
  simp only[SAd.fp,zs7,zt1,or_false] at hm hy;rcases hm with q|q|q|q|q|q|q
  ·exact hy (.inl q)
  ·exact hy (.inr (.inl q))
  ·exact hy (.inr (.inr (.inl q)))
  ·exact hy (.inr (.inr (.inr (.inl q))))
  ·exact hy (.inr (.inr (.inr (.inr (.inl q)))))
  ·exact hy (.inr (.inr (.inr (.inr (.inr (.inl q))))))
  ·exact hnx y hH q
 have ko:∀ y o,y∉({ A with lt:=x }:SAd).fp->H y=some o->H' y=some o:=fun y o hy q=>k y o q fun z=>hy (by rw[z];simp[SAd.fp]);have there:=h.there;obtain⟨⟨n1,n2,n3,n4,n5,n6⟩,⟨n7,n8,n9,n10,n11⟩,⟨n12,n13,n14,n15⟩,⟨n16,n17,n18⟩,⟨n19,n20⟩,n21⟩:=Km h.nd;have np:=Me h (show A.p∈A.fp by simp[SAd.fp]);have npp:=h.np;obtain⟨⟨dx',v',a1,a2⟩,b,c,⟨kvs',d1,d2⟩,⟨vs,f1,f2⟩,⟨us,g1,g2⟩,nd,np'⟩:=h;have hpr:∃ o,H A.pr=some o:=by obtain⟨⟨_,_,q,_⟩,_⟩:=b;exact⟨_,q⟩
 have hpl:∃ o,H A.pl=some o:=by obtain⟨⟨_,q⟩,_⟩:=c;exact⟨_,q⟩
 refine⟨⟨⟨dx,v,?_,(hv.imp ok2).keep ko kt⟩,b.keep (fun o q=>k _ o q np.1) (fun o q=>k _ o q (Ne.symm n1)) kt,c.keep (fun o q=>k _ o q np.2) (fun o q=>k _ o q (Ne.symm n2)) (fun o q=>k _ o q (Ne.symm n3)) kt,⟨kvs',k _ _ d1 (Ne.symm n4),d2⟩,⟨vs,k _ _ f1 (Ne.symm n5),(f2.imp ok2).keep ko kt⟩,⟨[],?_,?_⟩,?_,⟨ok2 _ hpr npp.1,ok2 _ hpl npp.2⟩⟩,f⟩
 ·rw[e,Zd];exact congrArg (fun z=>some (HO.ins ca.season dx z)) Jy
 ·show H' x=some (.lst []);rw[e,Zi (Ne.symm hpx),Zd]
 ·exact .nil
 ·show [A.p,A.dr,A.lr,A.ld,A.da,A.ls,x].Nodup;have m:∀ y∈A.fp,y≠x:=fun y hy=>hnx y (there y hy);simp only[ztx,zs7,zt1,or_false,not_or];exact⟨⟨n1,n2,n3,n4,n5,m _ (by simp[SAd.fp])⟩,⟨n7,n8,n9,n10,m _ (by simp[SAd.fp])⟩,⟨n12,n13,n14,m _ (by simp[SAd.fp])⟩,⟨n16,n17,m _ (by simp[SAd.fp])⟩,⟨n19,m _ (by simp[SAd.fp])⟩,m _ (by simp[SAd.fp]),by simp,zuv⟩
def zdp(S:Sea)(d:Ut)(ppl:RL)(out:List (Int×Int)):Prop:=(d.1="enrol"/\(∃ g c,S.ppl=ppl++[(d.2.1,g,c)])/\out=S.out)\/(d.1="away"/\ppl=S.ppl/\S.out=out++[(d.2.2,d.2.1)]/\(d.2.2,d.2.1)∉out)\/(d.1="draw up"/\ppl=S.ppl/\out=S.out)
inductive Kn(ca:CA)(vs:List V)(H:Hp)(Q:VK)(E:XK):Prop where
 | mk(A:SAd)(S:Sea)(_:vs=[.ref A.p])(_:Zw ca H A S)(_:(S.std=[]->E (.ref ca.nothing) none H))(_:∀ std d s,S.std=std++[(d,s)]->∃ ppl out,zdp S d ppl out/\∀ t H',H' t=some (.tup (Wo d))->Zw ca H' A { S with ppl:=ppl,out:=out,cur:=s,std:=std }->FrS A H H'->Q (.ref t) H')
inductive A6(ca:CA)(vs:List V)(H:Hp)(Q:VK)(_:XK):Prop where
 | mk(A:SAd)(S:Sea)(_:vs=[.ref A.p])(_:Zw ca H A S)(_:S.std.length<=1000)(_:∀ l ts H',H' l=some (.lst ts)->Z0 H' ts (S.std.map fun x=>Wo x.1)->Same H H'->H l=none->Q (.ref l) H')
def Oo(ca:CA)(H:Hp)(S:Sea)(i:Int)(E:XK)(k:Z3->Prop):Prop:=Yg i/\S.old.length=S.led.length/\if i<1\/(S.len:Int)<i then E (.ref ca.noRound) none H else (Ve S i=none->E (.ref ca.notDrawn) none H)/\∀ s,Ve S i=some s->k s
inductive Gi(ca:CA)(vs:List V)(H:Hp)(Q:VK)(E:XK):Prop where
 | mk(A:SAd)(S:Sea)(i:Int)(_:vs=[.ref A.p,.int i])(_:Zw ca H A S)(_:Oo ca H S i E fun s=>∀ l ts H',H' l=some (.lst ts)->Z0 H' ts (s.ms.map pV)->Same H H'->H l=none->Q (.ref l) H')
inductive zdq(ca:CA)(vs:List V)(H:Hp)(Q:VK)(E:XK):Prop where
 | mk(A:SAd)(S:Sea)(i:Int)(_:vs=[.ref A.p,.int i])(_:Zw ca H A S)(_:Oo ca H S i E fun s=>∀ l H',H' l=some (.lst s.gv)->Same H H'->H l=none->Q (.ref l) H')
inductive D1(ca:CA)(vs:List V)(H:Hp)(Q:VK)(E:XK):Prop where
 | mk(A:SAd)(S:Sea)(i:Int)(_:vs=[.ref A.p,.int i])(_:Zw ca H A S)(_:Oo ca H S i E fun s=>(∀ x∈s.gv,oneV x)/\s.gv.length<=100/\∀ l H',H' l=some (.lst ((W9 s.gv).map fun i=>V.int (i:Nat)))->Same H H'->H l=none->Q (.ref l) H')
inductive zfs(ca:CA)(vs:List V)(H:Hp)(Q:VK)(E:XK):Prop where
 | mk(A:SAd)(S:Sea)(i:Int)(_:vs=[.ref A.p,.int i])(_:Zw ca H A S)(_:Oo ca H S i E fun s=>(∃ nu,R0 s.may nu)/\Yl s.may s.gv/\Dd s.may s.gv/\∀ t lp lr ps rs H',H' t=some (.tup [.ref lp,.ref lr])->H' lp=some (.lst (Y9 ps))->H' lr=some (.lst (rs.map V.int))->Kh s.may s.gv ps rs->Same H H'->H t=none->H lp=none->H lr=none->lp≠lr->Q (.ref t) H')
theorem Uw(ks:List Str):∀ {fs:List (Str×V)},fs.map (·.1)=ks->(ks.all fun x=>!decide (x=f))=true->putF f v fs=fs++[(f,v)]:=by
 intro fs hk h;subst hk
 induction fs with
 | nil=>rfl
 | cons x fs ih =>
   rw[ztf,List.all_cons,zut,Bool.not_eq_true',decide_eq_false_iff_not] at h;obtain⟨k,y⟩:=x;show (if k=f then _ else _)=_;rw[if_neg h.1,ih h.2];rfl
def sF1(l:V):List (Str×V):=[("length",l)]
def sF2(l r:V):List (Str×V):=[("length",l),("rest",r)]
def sF3(l r a:V):List (Str×V):=[("length",l),("rest",r),("roster",a)]
def sF4(l r a b:V):List (Str×V):=[("length",l),("rest",r),("roster",a),("ledger",b)]
def sF5(l r a b c:V):List (Str×V):=[("length",l),("rest",r),("roster",a),("ledger",b),("absent",c)]
def sF6(l r a b c d:V):List (Str×V):=[("length",l),("rest",r),("roster",a),("ledger",b),("absent",c),("sheets",d)]
def sF7(l r a b c d e:V):List (Str×V):=[("length",l),("rest",r),("roster",a),("ledger",b),("absent",c),("sheets",d),("sheet",e)]
def sF8(l r a b c d e f:V):List (Str×V):=[("length",l),("rest",r),("roster",a),("ledger",b),("absent",c),("sheets",d),("sheet",e),("standing",f)]
theorem pF1:putF "length" l []=sF1 l:=rfl
theorem pF2:putF "rest" r (sF1 l)=sF2 l r:=Uw ["length"] rfl ⋯
theorem pF3:putF "roster" a (sF2 l r)=sF3 l r a:=Uw ["length","rest"] rfl ⋯
theorem pF4:putF "ledger" b (sF3 l r a)=sF4 l r a b:=Uw ["length","rest","roster"] rfl ⋯
theorem pF5:putF "absent" c (sF4 l r a b)=sF5 l r a b c:=Uw ["length","rest","roster","ledger"] rfl ⋯
theorem pF6:putF "sheets" d (sF5 l r a b c)=sF6 l r a b c d:=Uw ["length","rest","roster","ledger","absent"] rfl ⋯
theorem pF7:putF "sheet" e (sF6 l r a b c d)=sF7 l r a b c d e:=Uw ["length","rest","roster","ledger","absent","sheets"] rfl ⋯
theorem pF8:putF "standing" f (sF7 l r a b c d e)=sF8 l r a b c d e f:=Uw ["length","rest","roster","ledger","absent","sheets","sheet"] rfl ⋯
theorem Vf.free{p:Addr}{H H':Hp}{x:Addr}(hb:∀ b o,H b=some o->b≠p->H' b=some o)(hp:∃ o,H' p=some o)(hx:H' x=none):H x=none:=by
 cases e:H x with
 | none=>rfl
 | some o =>
   by_cases z:x=p
   ·subst z;obtain⟨o',q⟩:=hp;rw[q] at hx;cases hx
   ·rw[hb x o e z] at hx;cases hx
def Vf(p:Addr)(H H':Hp):Prop:=∀ b o,H b=some o->b≠p->H' b=some o
theorem Vf.trans(a:Vf p H1 H2)(b:Vf p H2 H3):Vf p H1 H3:=fun x o e n=>b x o (a x o e n) n
theorem Vf.of(a:Same H1 H2):Vf p H1 H2:=fun x o e _=>a x o e
theorem Vf.put:Vf p H (upd H p o):=fun x o e n=>by rw[Zi n];exact e
end G
namespace G
open PySem PySem.Spec PyProof.Rows L2
inductive D2(K:Frag)(vs:List V)(H:Hp)(Q:VK)(_:XK):Prop where
 | mk(b:Addr)(ns:List Int)(k:Nat)(_:vs=[.ref b,.int k])(_:SqL K H b (ns.map V.int))(_:k<ns.length)(_:∀ c H',Same H H'->Q (.int c) H')
structure zhf(H:Hp)(t lc ln:Addr)(cs nu:List Int):Prop where
 tup:H t=some (.tup [.ref lc,.ref ln])
 clubs:H lc=some (.lst (cs.map V.int))
 nums:H ln=some (.lst (nu.map V.int))
 few:3<=cs.length/\cs.length<=10
 cnd:cs.Nodup
 crng:∀ c∈cs,1<=c/\c<=99
 nfew:1<=nu.length/\nu.length<=30
 nnd:nu.Nodup
 nrng:∀ n∈nu,1<=n/\n<=999
theorem zbg(c:Int)(m:Nat):∀ n∈Ss c m,1<=n/\n<=99:=fun n hn=>by
 unfold Ss at hn;obtain⟨j,_,rfl⟩:=ztd.mp hn;unfold Hm;omega
inductive Wg where
 | enrol (n g c:Int)|away (i n:Int)|draw (ms:List P3)|close|back
def Xu(ok:Addr->Prop)(H:Hp)(t:Addr):Wg->Prop
 | .enrol n g c=>H t=some (.tup [.str "enrol",.int n,.int g,.int c])
 | .away i n=>H t=some (.tup [.str "away",.int i,.int n])
 | .draw ms=>∃ l ts,H t=some (.tup [.str "draw up",.ref l])/\H l=some (.lst ts)/\Z0 H ts (ms.map pV)/\ok l
 | .close=>H t=some (.tup [.str "close"])
 | .back=>H t=some (.tup [.str "take back"])
def zdr(S:Sea):Prop:=∀ s,S.cur=some s->s.ms.length<=20/\Yl s.may s.gv/\Vs s.may s.gv/\s.may=mayS S s.ms/\s.gaps.length<=S.std.length
def Oq(S S':Sea):Prop:=∃ d:Ut,S'.std=S.std++[(d,S.cur)]/\zdp S' d S.ppl S.out/\S'.len=S.len/\S'.rest=S.rest/\S'.led=S.led/\S'.old=S.old
def A7(S:Sea):Wg->Prop
 | .enrol n g c=>S.led.length<S.len/\S.cur=none/\¬ badI n g c/\n∉S.ppl.map (·.1)/\S.ppl.length<30
 | .away i n=>(S.led.length:Int)<i/\i<=S.len/\n∈S.ppl.map (·.1)/\(i,n)∉S.out
 | .draw ms=>S.led.length<S.len/\S.cur=none/\ms.length<=20/\(∀ m∈ms,¬ badM m)/\∀ m∈ms,m.1≠m.2.1
 | .close=>S.led.length<S.len/\S.cur≠none
 | .back=>S.std≠[]
inductive Ux(H':Hp)(S:Sea):Wg->Sea->V->Prop where
 | enrol (n g c:Int):Ux H' S (.enrol n g c) { S with ppl:=S.ppl++[(n,g,c)],std:=S.std++[(((("enrol":Str),n,atV S):Ut),S.cur)] } .non
 | awayN {i n:Int} {l:Addr} (h:S.cur=none\/atV S<i) (hl:H' l=some (.lst [])):Ux H' S (.away i n) (Xe S i n) (.ref l)
 | awayF {n:Int} {s:Z3} {l:Addr} (h:S.cur=some s) (hp:X5 s.gv n=none) (hl:H' l=some (.lst [])):Ux H' S (.away (atV S) n) { Xe S (atV S) n with cur:=some { s with may:=mayS (Xe S (atV S) n) s.ms } } (.ref l)
 | awayC {n:Int} {s:Z3} {p e:Nat} {l:Addr} {us:List V} {st:List (Nat×Option Int)} {w:Option Int} (h:S.cur=some s) (hp:X5 s.gv n=some p) (hl:H' l=some (.lst us)) (tl:Z0 H' us (st.map Vp)) (CR:Y6 (mayS (Xe S (atV S) n) s.ms) (s.gv.set p .non) p st e w) :
   Ux H' S (.away (atV S) n) { Xe S (atV S) n with cur:=some ⟨s.ms,mayS (Xe S (atV S) n) s.ms,Yp st (s.gv.set p .non),s.gaps++[(n,st)]⟩ } (.ref l)
 | draw {ms:List P3} {gv:List V} {l:Addr} (hl:H' l=some (.lst gv)) (F:Yl (mayS S ms) gv) (T:Vs (mayS S ms) gv):Ux H' S (.draw ms) (Bo S ms gv) (.ref l)
 | close {s:Z3} (h:S.cur=some s):Ux H' S .close (Ln S s) (.int (atV S))
 | back {S0:Sea} {d:Ut} {t:Addr} (h:S.std=S0.std++[(d,S0.cur)]) (ht:H' t=some (.tup (Wo d))) (hs:Oq S0 S):Ux H' S .back S0 (.ref t)
def Q6(A A':SAd)(H:Hp):Prop:=∃ x,A'={ A with lt:=x }/\(x=A.lt\/H x=none)
abbrev Qw(b:List Stmt)(i:Nat):Stmt:=b.getD i (.Pass ⟨0,0,0,0⟩)
def stP:Stmt->Pos|.Return _ p=>p|.Assign _ _ p=>p|_=>⟨0,0,0,0⟩
def ziv:Stmt->List Expr|.Assign ts _ _=>ts|_=>[]
def zbh:Stmt->Expr|.Assign _ v _=>v|_=>.Constant .none 0 ⟨0,0,0,0⟩
def ziw:Expr->Expr|.Subscript a _ _=>a|e=>e
def zjv:Expr->Expr|.Subscript _ b _=>b|e=>e
def zjw:Expr->Pos|.Subscript _ _ p=>p|_=>⟨0,0,0,0⟩
def zix:Expr->List Expr|.List es _=>es|_=>[]
def ziy:Expr->Pos|.List _ p=>p|_=>⟨0,0,0,0⟩
def D3:List Int->TA
 | []=>tNil
 | x :: xs=>Th (tC (.int x)) (D3 xs)
theorem Gj:∀ (xs:List Int) (σ:L2.St) (H:Hp) (Q:List V->Hp->Prop),Q (xs.map V.int) H->D3 xs σ H Q
 | [],_,_,_,h=>h
 | x :: xs,σ,H,Q,h=>Gj xs σ H (fun ys H2=>Q (.int x :: ys) H2) h
structure zds(es:List Expr)(xs:List Int):Prop where
 len:es.length=xs.length
 same:List.zipWith (fun i (e:Expr)=>Expr.Constant (.int i) 0 e.pos) xs es=es
theorem A8(xs:List Int)(h:zds es xs):PA X es (D3 xs):=by
 obtain⟨h1,h2⟩:=h
 induction xs generalizing es with
 | nil =>
   have:=List.length_eq_zero_iff.mp h1;subst this;exact Zb
 | cons x xs ih =>
   cases es with
   | nil=>cases h1
   | cons e es =>
     rw[List.zipWith_cons_cons] at h2;obtain⟨e1,e2⟩:=List.cons.inj h2;rw[<- e1];exact Za Zh (ih (Nat.succ.inj h1) e2) rfl
theorem zdt(xs:List Int)(hz:xs.length<=1000)(h:∀ l,H l=none->Q (.ref l) (upd H l (.lst (xs.map V.int)))):tLst (D3 xs) σ H Q:=by
 refine Gj xs σ H _ ⟨?_,h⟩;rw[zs3];exact szN hz
theorem zdu(xs:List Int)(hz:xs.length<=1000)(h:∀ l H1,H1 l=some (.lst (xs.map V.int))->Same H H1->H l=none->u D (σ.set i (some (.ref l))) H1):Z5 (Cr (tLst (D3 xs)) (Vb i)) u D σ H :=
 zdt (σ:=σ) (H:=H) (Q:=fun x H3=>u D (σ.set i (some x)) H3) xs hz fun l hl=>h l _ Zd (Zf hl) hl
theorem Pt:decide (V.str a=V.str a)=true:=zs6 rfl
theorem Uy(h:decide (a=b)=false):decide (V.str a=V.str b)=false:=ztc fun z=>of_decide_eq_false h (V.str.inj z)
theorem Q6.refl(A:SAd)(H:Hp):Q6 A A H:=⟨A.lt,rfl,.inl rfl⟩
abbrev ziz:=List (Int×List (Nat×Option Int))
structure Pg where
 len:Nat
 rest:Nat
 ppl:RL
 out:List (Int×Int)
 over:List Z3
 deed:Option Ut
 lis:Option (List P3)
 gv:List V
 mv:ziz
def pgF(len rest:Nat)(lp lo lv:Addr)(dv li:V)(lg lm:Addr):List (Key×V):=[(.inr "rounds",.int len),(.inr "rest",.int rest),(.inr "people",.ref lp),(.inr "out",.ref lo),(.inr "over",.ref lv),(.inr "deed",dv),(.inr "listed",li),(.inr "goes",.ref lg),(.inr "moves",.ref lm)]
def oiV(x:Int×Int):List V:=[.int x.1,.int x.2]
def zbi(ok:Addr->Prop)(H:Hp)(v:V):Option (List P3)->Prop
 | none=>v=.non
 | some ms=>∃ l ts,v=.ref l/\H l=some (.lst ts)/\Z0 H ts (ms.map pV)/\ok l
def zft(H:Hp)(v:V):Option Ut->Prop
 | none=>v=.non
 | some d=>∃ t,v=.ref t/\H t=some (.tup (Wo d))
inductive D4(ok:Addr->Prop)(H:Hp):List V->List Z3->Prop where
 | nil:D4 ok H [] []
 | cons {t l g m y:Addr} {ts mts:List V} {ls:List Addr} {s:Z3} {vs:List V} {ss:List Z3} (h:H t=some (.tup [.ref l,.ref g,.ref m,.ref y])) (hl:H l=some (.lst ts)) (tl:Z0 H ts (s.ms.map pV)) (hg:H g=some (.lst s.gv)) (hm:H m=some (.lst mts)) (gm:W0 ok H mts s.gaps)
   (hy:H y=some (.lst (ls.map V.ref))) (iy:ILs H ls s.may) (o:ok l/\ok g/\ok m/\ok y/\∀ x∈ls,ok x) (r:D4 ok H vs ss):D4 ok H (.ref t :: vs) (s :: ss)
structure zdv(ok:Addr->Prop)(H:Hp)(d:Addr)(P:Pg):Prop where
 ex:∃ lp lo lv dv li lg lm pts ots vts mts,H d=some (.dK (pgF P.len P.rest lp lo lv dv li lg lm))/\H lp=some (.lst pts)/\Z0 H pts (P.ppl.map pV)/\H lo=some (.lst ots)/\Z0 H ots (P.out.map oiV)/\H lv=some (.lst vts)/\D4 ok H vts P.over/\zft H dv P.deed/\zbi ok H li P.lis/\H lg=some (.lst P.gv)/\H lm=some (.lst mts)/\W0 ok H mts P.mv /\
  (ok d/\ok lp/\ok lo/\ok lv/\ok lg/\ok lm)
theorem Qt{α:Type}{l:List α}{j:Nat}{x:α}(h:l[j]?=some x):l.take (j+1)=l.take j++[x]:=by rw[zue,h];rfl
end G
namespace G
open PySem PySem.Spec PyProof.Rows L2
theorem A9(r:List Str)(ok:∀ w∈r,PyData.strOk w=true):shD (.lst (r.map Dt.str)):=by
 have h:PyData.canLayAll0 (Uq (r.map Dt.str))=true/\PyData.depthAll (Uq (r.map Dt.str))<=1:=by
  induction r with
  | nil=>exact⟨rfl,by decide⟩
  | cons x r ih =>
    obtain⟨h1,h2⟩:=ih fun w hw=>ok w (ztj _ hw);have h0:=ok x (ztn);refine⟨?_,?_⟩
    ·rw[ztf,Uq,PyData.canLayAll0,h1];simp[toPy,PyData.canLay0,h0]
    ·rw[ztf,Uq,PyData.depthAll];have:PyData.depth (toPy (Dt.str x))<=1:=by simp[toPy,PyData.depth]
     omega
 unfold shD SeqAt.shaped;rw[toPy,PyData.canLay0,h.1,Bool.true_and];refine zs6 ?_;rw[PyData.depth];have:=h.2;omega
theorem Pu{K:Frag}{H:Hp}:∀ ws:List Str,X4 K H (ws.map V.str) (ws.map Dt.str)
 | []=>.nil
 | w :: ws=>.cons (.str w) (Pu ws)
structure PgB(ok:Addr->Prop)(H:Hp)(P:Pg)(lp lo lv:Addr)(dv li:V)(lg lm:Addr):Prop where
 pp:∃ pts,H lp=some (.lst pts)/\Z0 H pts (P.ppl.map pV)/\ok lp
 oo:∃ ots,H lo=some (.lst ots)/\Z0 H ots (P.out.map oiV)/\ok lo
 vv:∃ vts,H lv=some (.lst vts)/\D4 ok H vts P.over/\ok lv
 dd:zft H dv P.deed
 li:zbi ok H li P.lis
 gg:H lg=some (.lst P.gv)/\ok lg
 mm:∃ mts,H lm=some (.lst mts)/\W0 ok H mts P.mv/\ok lm
def zdw(ms:List P3):Prop:=(∀ m∈ms,¬ badM m)/\∀ m∈ms,m.1≠m.2.1
theorem zdx{h y n:Int}(h0:0<=h)(h1:h<n)(y0:1<=y)(y1:y<=n-1):0<=(h+y)%n/\(h+y)%n<n/\(h+y)%n≠h:=by
 have hn:0<n:=by omega
 refine⟨zur _ ⋯,zuj _ hn,?_⟩;by_cases c:h+y<n
 ·rw[Int.emod_eq_of_lt ⋯ c];omega
 ·have e:(h+y)%n=h+y-n:=by
   rw[<- Int.sub_emod_right,Int.emod_eq_of_lt ⋯ ⋯]
  omega
theorem at2(x y:Int){k:Nat}(h:k<=1):∃ z,atI [V.int x,V.int y] (k:Int)=some (.int z):=by
 match k,h with
 | 0,_=>exact⟨x,rfl⟩
 | 1,_=>exact⟨y,rfl⟩
def Fu:List Int:=[1,2,3,4,5,6,7,8,9,1,1,1,1,2,2,3,3,4]
theorem Bp:∀ k,k<18->1<=Fu.getD k 0/\Fu.getD k 0<=9:=by decide
theorem Fv{ns:List Int}{i:Nat}(hi:i<ns.length):ns.getD i 0=ns[i]:=by
 rw[ztu,zs4 hi];rfl
theorem zdy{ns:List Int}(nd:ns.Nodup){i j:Nat}(hi:i<ns.length)(hj:j<ns.length)(h:ns.getD i 0=ns.getD j 0):i=j:=by
 rw[Fv hi,Fv hj] at h;exact(List.getElem_inj nd).mp h
theorem Gk{ns:List Int}{i:Nat}(hi:i<ns.length):ns.getD i 0∈ns:=by
 rw[Fv hi];exact ztz hi
def zfu(mb:Bool)(s:Z3):Z3:=if mb then s else { s with gaps:=[] }
structure zhg(mb:Bool)(P:Pg)(S:Sea):Prop where
 len:P.len=S.len
 rest:P.rest=S.rest
 ppl:P.ppl=S.ppl
 out:P.out=S.out
 over:P.over.map (zfu mb)=S.old.map (zfu mb)
 lis:P.lis=S.cur.map (·.ms)
def zi0(S:Sea):ziz:=match S.cur with|some s=>s.gaps|none=>[]
structure Rel(mb:Bool)(P:Pg)(S:Sea):Prop where
 b:zhg mb P S
 gv:∀ s,S.cur=some s->P.gv=s.gv
 mv:mb=true->P.mv=zi0 S
structure SOk(nu:List Int)(n:Nat)(S:Sea):Prop where
 cur:zdr S
 nd:(S.ppl.map (·.1)).Nodup
 ppl:∀ x∈S.ppl,x.1∈nu/\¬ badI x.1 x.2.1 x.2.2
 few:S.ppl.length<=30
 led:S.led=S.old.map Xt
 old:∀ s∈S.old,s.ms.length<=20/\s.gv.length=s.ms.length/\∀ x∈s.gv,oneV x
 len:S.led.length<=S.len/\S.len<=60/\S.rest<=10
 lt:S.cur≠none->S.led.length<S.len
 num:S.out.length<=n/\S.std.length<=n
 gp:∀ s,S.cur=some s\/s∈S.old->s.gaps.length<=n/\∀ x∈s.gaps,x.2.length<=100
theorem SOk.mono(h:SOk nu n S)(e:n<=m):SOk nu m S:=⟨h.cur,h.nd,h.ppl,h.few,h.led,h.old,h.len,h.lt,⟨zto h.num.1 e,zto h.num.2 e⟩,fun s hs=>⟨zto (h.gp s hs).1 e,(h.gp s hs).2⟩⟩
theorem SOk.pok(h:SOk nu n S):R8 S:=⟨fun x hx=>(h.ppl x hx).2,h.few⟩
theorem SOk.olen(h:SOk nu n S):S.old.length=S.led.length:=by rw[h.led,zs3]
theorem zdz:∀ (Rs:List (List Row)),(∀ rs∈Rs,rs.length<=k)->tot Rs<=k*Rs.length
 | [],_=>by simp[tot]
 | rs :: Rs,h=>by
   have h1:=h rs (ztn);have h2:=zdz Rs fun x hx=>h x (ztj _ hx);unfold tot at *;simp only[ztf,List.sum_cons,ztk,Nat.mul_succ];omega
theorem SOk.tot(h:SOk nu n S):G.tot S.led<=1200:=by
 have h1:=zdz (k:=20) S.led fun rs hrs=>by
  rw[h.led] at hrs;obtain⟨s,hs,rfl⟩:=ztd.mp hrs;have:=h.old s hs;unfold Xt;rw[List.length_zipWith];omega
 have:=h.len;omega
theorem zbj(F:Yl rows gs)(hn:∀ i:Nat,gs[i]?≠some (V.int n)):Yl (without rows n) gs:=by
 refine⟨by unfold without;rw[zs3];exact F.len,F.one,fun k m h=>?_,F.inj⟩;obtain⟨r,h1,h2⟩:=F.may k m h;refine⟨r.filter fun x=>decide (x≠n),by unfold without;rw[zta,h1];rfl,zt9.mpr ⟨h2,?_⟩⟩;refine zs6 fun z=>hn k ?_;rw[h,z]
theorem Bq(T:Vs rows gs):Vs (without rows n) gs:=fun p hp=>by
 obtain⟨S,h1,h2⟩:=T p hp;refine⟨S,h1,fun q hq=>⟨by unfold without;rw[zs3];exact(h2 q hq).1,fun r hr m hm=>?_⟩⟩;unfold without at hr;rw[zta] at hr;obtain⟨r0,e1,rfl⟩:=zuc.mp hr;exact(h2 q hq).2 r0 e1 m (zt9.mp hm).1
theorem zbk(h:atV S<i)(ms:List P3):mayS (Xe S i n) ms=mayS S ms:=by
 unfold mayS;refine zuf fun m _=>?_;unfold Jx;have:∀ x:P3,pIn (Xe S i n).out (atV (Xe S i n)) x=pIn S.out (atV S) x:=fun x=>by
  show decide ((atV S,x.1)∈S.out++[(i,n)])=decide ((atV S,x.1)∈S.out);have:((atV S,x.1)∈S.out++[(i,n)])↔((atV S,x.1)∈S.out):=by
   simp only[zth,zs9,Prod.mk.injEq];constructor
   ·rintro(h|⟨h,_⟩)
    ·exact h
    ·omega
   ·exact .inl
  exact decide_eq_decide.mpr this
 simp only[this];rfl
theorem zd0(o:SOk nu n S)(g:A7 S D)(af:Ux H' S D S' v)(hb:D≠.back)(hn:∀ k gr c,D=.enrol k gr c->k∈nu):SOk nu (n+1) S'/\((D=.close/\S'.std=[]/\S'.cur=none)\/(D≠.close/\Oq S S')):=by
 obtain⟨n1,n2⟩:=o.num;cases af with
 | enrol k gr c =>
   obtain⟨g1,g2,g3,g4,g5⟩:=g;refine⟨⟨fun s hs=>?_,?_,fun x hx=>?_,?_,o.led,o.old,o.len,fun _=>g1,⟨?_,?_⟩,fun s hs=>⟨zug (o.gp s hs).1,(o.gp s hs).2⟩⟩,.inr ⟨nofun,(("enrol":Str),k,atV S),rfl,.inl ⟨rfl,⟨gr,c,rfl⟩,rfl⟩,rfl,rfl,rfl,rfl⟩⟩
   ·have hs:S.cur=some s:=hs;rw[g2] at hs;cases hs
   ·show (List.map (·.1) (S.ppl++[(k,gr,c)])).Nodup;rw[ztl,List.nodup_append];refine⟨o.nd,by simp,fun x hx y hy=>?_⟩;rw[ztf,List.map_nil,zs9] at hy;subst hy;rintro rfl;exact g4 hx
   ·rcases zth.mp hx with hx|hx
    ·exact o.ppl x hx
    ·rw[zs9.mp hx];exact⟨hn k gr c rfl,g3⟩
   ·show (S.ppl++[(k,gr,c)]).length<=30;rw[zs8];show S.ppl.length+1<=30;omega
   ·show S.out.length<=n+1;omega
   ·show (S.std++[_]).length<=n+1;rw[zs8];show S.std.length+1<=n+1;omega
 | @awayN i k l h hl =>
   obtain⟨g1,g2,g3,g4⟩:=g;refine⟨⟨fun s hs=>?_,o.nd,o.ppl,o.few,o.led,o.old,o.len,o.lt,⟨?_,?_⟩,fun s hs=>⟨zug (o.gp s hs).1,(o.gp s hs).2⟩⟩,.inr ⟨nofun,(("away":Str),k,i),rfl,.inr (.inl ⟨rfl,rfl,rfl,g4⟩),rfl,rfl,rfl,rfl⟩⟩
   ·have hs:S.cur=some s:=hs;rcases h with h|h
    ·rw[h] at hs;cases hs
    ·obtain⟨c1,c2,c3,c4,c5⟩:=o.cur s hs;refine⟨c1,c2,c3,by rw[zbk h];exact c4,?_⟩;show s.gaps.length<=(S.std++[_]).length;rw[zs8];omega
   ·show (S.out++[_]).length<=n+1;rw[zs8];show S.out.length+1<=n+1;omega
   ·show (S.std++[_]).length<=n+1;rw[zs8];show S.std.length+1<=n+1;omega
 | @awayF k s l h hp hl =>
   obtain⟨g1,g2,g3,g4⟩:=g;obtain⟨c1,c2,c3,c4,c5⟩:=o.cur s h;refine⟨⟨fun s' hs=>?_,o.nd,o.ppl,o.few,o.led,o.old,o.len,fun _=>o.lt (by rw[h];exact nofun),⟨?_,?_⟩,fun s' hs=>?_⟩,.inr ⟨nofun,(("away":Str),k,atV S),rfl,.inr (.inl ⟨rfl,rfl,rfl,g4⟩),rfl,rfl,rfl,rfl⟩⟩
   ·have hs:some { s with may:=mayS (Xe S (atV S) k) s.ms }=some s':=hs;cases hs;have hno:∀ i:Nat,s.gv[i]?≠some (V.int k):=by
     rcases E4 s.gv k with z|⟨i,z,_⟩
     ·exact z.2
     ·rw[hp] at z;cases z
    refine⟨c1,?_,?_,rfl,?_⟩
    ·show Yl (mayS (Xe S (atV S) k) s.ms) s.gv;rw[Uv,<- c4];exact zbj c2 hno
    ·show Vs (mayS (Xe S (atV S) k) s.ms) s.gv;rw[Uv,<- c4];exact Bq c3
    ·show s.gaps.length<=(S.std++[_]).length;rw[zs8];omega
   ·show (S.out++[_]).length<=n+1;rw[zs8];show S.out.length+1<=n+1;omega
   ·show (S.std++[_]).length<=n+1;rw[zs8];show S.std.length+1<=n+1;omega
   ·have old:=o.gp s (.inl h);rcases hs with hs|hs
    ·have hs:some { s with may:=mayS (Xe S (atV S) k) s.ms }=some s':=hs;cases hs;exact⟨zug old.1,old.2⟩
    ·have:=o.gp s' (.inr hs);exact⟨zug this.1,this.2⟩
 | @awayC k s p e l us st w h hp hl tl CR =>
   obtain⟨g1,g2,g3,g4⟩:=g;obtain⟨c1,c2,c3,c4,c5⟩:=o.cur s h;refine⟨⟨fun s' hs=>?_,o.nd,o.ppl,o.few,o.led,o.old,o.len,fun _=>o.lt (by rw[h];exact nofun),⟨?_,?_⟩,fun s' hs=>?_⟩,.inr ⟨nofun,(("away":Str),k,atV S),rfl,.inr (.inl ⟨rfl,rfl,rfl,g4⟩),rfl,rfl,rfl,rfl⟩⟩
   ·have hs:some (⟨s.ms,mayS (Xe S (atV S) k) s.ms,Yp st (s.gv.set p .non),s.gaps++[(k,st)]⟩:Z3)=some s':=hs;cases hs;have hx:=Pr hp;rw[Uv,<- c4] at CR;have F0:=Uj c2 hx;have hpl:p<(without s.may k).length:=by
     unfold without;rw[zs3,<- c2.len];exact(zs5.mp hx).1
    refine⟨c1,?_,?_,rfl,?_⟩
    ·show Yl (mayS (Xe S (atV S) k) s.ms) _;rw[Uv,<- c4];exact CR.fill F0 hpl
    ·show Vs (mayS (Xe S (atV S) k) s.ms) _;rw[Uv,<- c4];exact E7 c2 c3 hx CR
    ·show (s.gaps++[_]).length<=(S.std++[_]).length;rw[zs8,zs8];show s.gaps.length+1<=S.std.length+1;omega
   ·show (S.out++[_]).length<=n+1;rw[zs8];show S.out.length+1<=n+1;omega
   ·show (S.std++[_]).length<=n+1;rw[zs8];show S.std.length+1<=n+1;omega
   ·have old:=o.gp s (.inl h);rcases hs with hs|hs
    ·have hs:some (⟨s.ms,mayS (Xe S (atV S) k) s.ms,Yp st (s.gv.set p .non),s.gaps++[(k,st)]⟩:Z3)=some s':=hs;cases hs;have hx:=Pr hp;rw[Uv,<- c4] at CR;have hpl:p<(without s.may k).length:=by
      unfold without;rw[zs3,<- c2.len];exact(zs5.mp hx).1
     have hcl:=CR.len (Uj c2 hx) hpl;have hwl:(without s.may k).length=s.may.length:=by unfold without;rw[zs3]
     have hml:s.may.length=s.ms.length:=by rw[c4];unfold mayS;rw[zs3]
     refine⟨by show (s.gaps++[_]).length<=n+1;rw[zs8];show s.gaps.length+1<=n+1;omega,fun x hx'=>?_⟩;rcases zth.mp hx' with z|z
     ·exact old.2 x z
     ·rw[zs9.mp z];show st.length<=100;omega
    ·have:=o.gp s' (.inr hs);exact⟨zug this.1,this.2⟩
 | @draw ms gv l hl F T =>
   obtain⟨g1,g2,g3,g4,g5⟩:=g;refine⟨⟨fun s' hs=>?_,o.nd,o.ppl,o.few,o.led,o.old,o.len,fun _=>g1,⟨?_,?_⟩,fun s' hs=>?_⟩,.inr ⟨nofun,(("draw up":Str),(ms.length:Int),atV S),rfl,.inr (.inr ⟨rfl,rfl,rfl⟩),rfl,rfl,rfl,rfl⟩⟩
   ·have hs:some (⟨ms,mayS S ms,gv,[]⟩:Z3)=some s':=hs;cases hs;exact⟨g3,F,T,rfl,ztt _⟩
   ·show S.out.length<=n+1;omega
   ·show (S.std++[_]).length<=n+1;rw[zs8];show S.std.length+1<=n+1;omega
   ·rcases hs with hs|hs
    ·have hs:some (⟨ms,mayS S ms,gv,[]⟩:Z3)=some s':=hs;cases hs;exact⟨ztt _,nofun⟩
    ·have:=o.gp s' (.inr hs);exact⟨zug this.1,this.2⟩
 | @close s h =>
   obtain⟨g1,g2⟩:=g;obtain⟨c1,c2,c3,c4,c5⟩:=o.cur s h;refine⟨⟨fun s' hs=>(by cases hs),o.nd,o.ppl,o.few,?_,fun x hx=>?_,⟨?_,o.len.2⟩,fun z=>absurd rfl z,⟨?_,ztt _⟩,fun s' hs=>?_⟩,.inl ⟨rfl,rfl,rfl⟩⟩
   ·show S.led++[Xt s]=List.map Xt (S.old++[s]);rw[ztl,o.led];rfl
   ·rcases zth.mp hx with hx|hx
    ·exact o.old x hx
    ·rw[zs9.mp hx];refine⟨c1,?_,c2.one⟩;rw[c2.len,c4];unfold mayS;rw[zs3]
   ·show (S.led++[_]).length<=S.len;rw[zs8];exact g1
   ·show S.out.length<=n+1;omega
   ·rcases hs with hs|hs
    ·cases hs
    ·have hs:s'∈S.old++[s]:=hs;rcases zth.mp hs with z|z
     ·have:=o.gp s' (.inr z);exact⟨zug this.1,this.2⟩
     ·rw[zs9.mp z];have:=o.gp s (.inl h);exact⟨zug this.1,this.2⟩
 | back h ht hs=>exact absurd rfl hb
structure FrN(A A':SAd)(H H':Hp):Prop where
 p:A'.p=A.p
 k:∀ b o,H b=some o->b∉A.fp->H' b=some o/\b∉A'.fp
 kt:∀ t xs,H t=some (.tup xs)->H' t=some (.tup xs)
theorem FrN.of(e:Same H H'):FrN A A H H':=⟨rfl,fun b o z n=>⟨e _ _ z,n⟩,fun _ _ z=>e _ _ z⟩
theorem Q6.out(nx:Q6 A A' H)(e:H b=some o)(n:b∉A.fp):b∉A'.fp:=by
 obtain⟨x,rfl,hx⟩:=nx;simp only[SAd.fp,zs7,zt1,or_false] at n ⊢;rcases hx with rfl|hx
 ·exact n
 ·have:b≠x:=Zg e hx;rintro(z|z|z|z|z|z|z)
  ·exact n (.inl z)
  ·exact n (.inr (.inl z))
  ·exact n (.inr (.inr (.inl z)))
  ·exact n (.inr (.inr (.inr (.inl z))))
  ·exact n (.inr (.inr (.inr (.inr (.inl z)))))
  ·exact n (.inr (.inr (.inr (.inr (.inr (.inl z))))))
  ·exact this z
theorem FrN.next(SA:Zw ca H A S)(nx:Q6 A A' H)(f:FrS A H H'):FrN A A' H H':=⟨by obtain⟨x,rfl,_⟩:=nx;rfl,fun b o e n=>⟨f b o e n,nx.out e n⟩,SA.tups f⟩
def Rk(K:Frag)(A:SAd)(H:Hp)(b:Addr)(xs:List V):Prop:=(Rd H b (.lst xs)/\b∉A.fp)\/∀ H',SqL K H' b xs
theorem Rk.sq{K:Frag}{A:SAd}{H:Hp}{b:Addr}{xs:List V}(h:Rk K A H b xs):SqL K H b xs:=by
 rcases h with h|h
 ·exact .inl h.1
 ·exact h H
theorem Rk.fr{K:Frag}{A A':SAd}{H H':Hp}{b:Addr}{xs:List V}(f:FrN A A' H H')(h:Rk K A H b xs):Rk K A' H' b xs:=by
 rcases h with ⟨h,n⟩|h
 ·rcases h with h|⟨o,h⟩
  ·exact .inl ⟨.inl (f.k _ _ h n).1,(f.k _ _ h n).2⟩
  ·exact .inl ⟨.inr ⟨o,(f.k _ _ h n).1⟩,(f.k _ _ h n).2⟩
 ·exact .inr h
theorem Rk.make{K:Frag}{H:Hp}{b:Addr}{xs:List V}(h:SqL K H b xs)(A:SAd)(H':Hp)(s:Same H H')(hf:∀ x∈A.fp,H x=none):Rk K A H' b xs:=by
 rcases h with h|h
 ·have hn:b∉A.fp:=fun z=>by
   have:=hf b z;rcases h with h|⟨o,h⟩<;>(rw[this] at h;cases h)
  rcases h with h|⟨o,h⟩
  ·exact .inl ⟨.inl (s _ _ h),hn⟩
  ·exact .inl ⟨.inr ⟨o,s _ _ h⟩,hn⟩
 ·exact .inr fun _=>.inr h
structure zj1(A:SAd)(H:Hp)(t lc ln:Addr)(cs nu:List Int):Prop where
 at_:zhf H t lc ln cs nu
 o:t∉A.fp/\lc∉A.fp/\ln∉A.fp
inductive Bk(mb:Bool)(ok:Addr->Prop)(H:Hp)(nu:List Int)(n:Nat):List Addr->Sea->Prop where
 | one {d:Addr} {P:Pg} {S:Sea} (h:zdv ok H d P) (r:Rel mb P S) (o:SOk nu n S) (e:S.std=[]):Bk mb ok H nu n [d] S
 | snoc {ds:List Addr} {d:Addr} {P:Pg} {S S':Sea} (b:Bk mb ok H nu n ds S) (nd:d∉ds) (h:zdv ok H d P) (r:Rel mb P S') (o:SOk nu n S') (st:Oq S S') (hd:∃ x,P.deed=some x/\S'.std=S.std++[(x,S.cur)]):Bk mb ok H nu n (ds++[d]) S'
section
variable{mb:Bool}{ok ok':Addr->Prop}{H H':Hp}{nu:List Int}{n m:Nat}{ds:List Addr}{d:Addr}{P:Pg}{S S':Sea}
structure zi1(mb:Bool)(ok:Addr->Prop)(H:Hp)(nu:List Int)(n:Nat)(ds:List Addr)(d:Addr)(dd:Option Ut)(S:Sea):Prop where
 nd:d∉ds
 ex:(ds=[]/\S.std=[])\/∃ S0,Bk mb ok H nu n ds S0/\Oq S0 S/\∃ x,dd=some x/\S.std=S0.std++[(x,S0.cur)]
structure zj7(mb:Bool)(ok:Addr->Prop)(H:Hp)(nu:List Int)(n:Nat)(ds:List Addr)(d:Addr)(P:Pg)(S:Sea):Prop where
 pg:zdv ok H d P
 rb:zhg mb P S
 so:SOk nu n S
 tl:zi1 mb ok H nu n ds d P.deed S
structure zj8(mb:Bool)(ok:Addr->Prop)(H:Hp)(nu:List Int)(n:Nat)(ds:List Addr)(d:Addr)(P:Pg)(S:Sea):Prop where
 pg:zdv ok H d P
 re:Rel mb P S
 so:SOk nu n S
 tl:zi1 mb ok H nu n ds d P.deed S
end
section
variable{mb:Bool}{ok ok':Addr->Prop}{A A':SAd}{H H':Hp}{nu:List Int}{n m:Nat}{ds:List Addr}{d:Addr}{P:Pg}{S S':Sea}{D:Wg}
theorem Xu.fr(f:FrN A A' H H')(h:Xu (·∉A.fp) H t D):Xu (·∉A'.fp) H' t D:=by
 cases D with
 | enrol a b c=>exact f.kt _ _ h
 | away a b=>exact f.kt _ _ h
 | draw ms =>
   obtain⟨l,ts,a1,a2,a3,a4⟩:=h;exact⟨l,ts,f.kt _ _ a1,(f.k _ _ a2 a4).1,a3.mono f.kt,(f.k _ _ a2 a4).2⟩
 | close=>exact f.kt _ _ h
 | back=>exact f.kt _ _ h
theorem Xu.same(e:Same H H')(h:Xu ok H t D):Xu ok H' t D:=by
 cases D with
 | enrol a b c=>exact e _ _ h
 | away a b=>exact e _ _ h
 | draw ms =>
   obtain⟨l,ts,a1,a2,a3,a4⟩:=h;exact⟨l,ts,e _ _ a1,e _ _ a2,a3.mono fun _ _ z=>e _ _ z,a4⟩
 | close=>exact e _ _ h
 | back=>exact e _ _ h
theorem Xu.imp(k:∀ x,ok x->ok' x)(h:Xu ok H t D):Xu ok' H t D:=by
 cases D with
 | enrol a b c=>exact h
 | away a b=>exact h
 | draw ms =>
   obtain⟨l,ts,a1,a2,a3,a4⟩:=h;exact⟨l,ts,a1,a2,a3,k _ a4⟩
 | close=>exact h
 | back=>exact h
end
theorem zbl(S:Sea):Ve S (atV S)=S.cur:=by
 unfold Ve atV;rw[if_neg ⋯,if_neg ⋯]
theorem Fw(o:SOk nu n S)(h:S.cur=some s)(hk:k s):Oo ca H S (atV S) E k:=by
 have h1:=o.len;have h2:=o.lt (by rw[h];exact nofun);have h3:atV S=(S.led.length:Int)+1:=rfl;refine⟨Ya ⋯ ⋯,o.olen,?_⟩;rw[if_neg ⋯,zbl];exact⟨fun z=>(by rw[h] at z;cases z),fun s' hs=>(by rw[h] at hs;cases hs;exact hk)⟩
end G
namespace L2
open PySem PySem.Spec PyProof.Rows
theorem fnS(a:sc.kind=.function:=by rfl)(b:sc.isCoroutine=false:=by rfl)(c:sc.isGenerator=false:=by rfl)(d:N.Nodup:=by decide +kernel)(e:N.take P.length=P:=by rfl)(f:∀ x∈P,sc.names.lookup x=some .local\/sc.names.lookup x=some .cell:=by decide +kernel)(g:∀ y∈sc.names,y.2≠.free:=by decide +kernel):Zl N P sc:=⟨a,b,c,d,e,f,g⟩
section
variable{X:Cx}{k j:Nat}{C:Addr}{ps:List Str}{sp:Sp}{E:XK}{x m:Str}{p pos pos' apos:Pos}{e o a b:Expr}{es:List Expr}{ta tb te:TE}{t:TA}{r:R2}
theorem pS(i:Nat)(hN:X.N.Nodup)(he:PE X e te)(hi:X.N[i]?=some x:=by rfl)(hx:Loc X.env.scope x:=by first|exact Or.inl rfl|exact Or.inr rfl)(hs:swapsWith e (some (.Name x pos')) pos.line X.env=pure false:=by rfl)(hf:Cq X i x:=by first|exact⟨.inl rfl,Xq⟩|exact⟨.inr rfl,Xq⟩|assumption|exact⟨.inl rfl,by assumption⟩|exact⟨.inr rfl,by assumption⟩) :
  PS X (.Assign [.Name x pos'] e pos) (Cr te (Vb i)):=zf6 hN hi hx he hs hf
theorem pN(i:Nat)(hN:X.N.Nodup)(hi:X.N[i]?=some x:=by rfl)(hx:Loc X.env.scope x:=by first|exact Or.inl rfl|exact Or.inr rfl)(hf:Cq X i x:=by first|exact⟨.inl rfl,Xq⟩|exact⟨.inr rfl,Xq⟩|assumption|exact⟨.inl rfl,by assumption⟩|exact⟨.inr rfl,by assumption⟩):PG X (.Name x pos) (Vb i):=Xy hN hi hx hf
theorem pI(hr:IxR X r)(ha:PE X a ta)(hb:PE X b tb)(hs:Af b:=by exact fun _ _=>rfl):PE X (.Subscript a b pos) (tOp r ta tb):=zib hr ha hb hs
theorem pD(hu:X.A.units+1<cLine)(ho:PE X a ta)(hi:PE X b tb)(hs:zgd b:=by exact fun _ _=>rfl):PE X (.Subscript a b pos) (zfm ta tb):=zeo hu ho hi hs
theorem pF(D:Z4 X.prog X.w X.K X.mg X.base x k ps sp)(hr:Wn j X.A)(ha:PA X (e :: es) t)(hk:k<=j:=by decide)(hx:Wh (CX1 X.prog X.w) X E:=by exact Zk)(hg:Gl X x:=by rfl)(hdb:(x == ("__debug__":Str))=false:=by decide)
  (he:starEach (e :: es) X.env=(false,eval e X.env) :: starEach es X.env:=by rfl) (hpl:(backTo pos (starEach es X.env)).any (·.1)=false:=by rfl):PE X (.Call (.Name x p) (e :: es) [] pos) (zca sp [] E t):=Ai D (hr.mono hk) hx hg ha hdb he hpl
theorem iL(K:Frag)(h:X.K=K:=by rfl):IxR X (zgm K):=zcv h
theorem iU(K:Frag)(h:X.K=K:=by rfl):IxR X (zgn K):=ze2 h
theorem cL(K:Frag)(h:X.K=K:=by rfl):Wf X (.builtin "len") (fun xs H Q=>∃ p ys,xs=[.ref p]/\(SqL K H p ys\/SqT K H p ys)/\Q (.int ys.length) H):=Js h
end
theorem cT(ys:List Str)(js:List Nat)(a:closureFor scope X.env=pure cl:=by rfl)(b:scope.kind=.function:=by rfl)(c:∀ y∈scope.names,y.2=.local->scope.names.lookup y.1=some .local:=by decide +kernel)(d:∀ y∈scope.names,y.2≠.cell:=by decide +kernel)(e:scope.names.lookup x=some .local:=by rfl)(f:(x :: ys).Nodup:=by decide +kernel)(g:js.map (X.N[·]?)=ys.map some:=by rfl)
  (h:Jr (fun y=>X.env.kindOf y=some .cell/\(relabel scope X.env).names.lookup y=some .cell/\cl.lookup y=X.env.cells.lookup y) ys:=by repeat' (first|exact True.intro|apply And.intro|rfl)) (i:Jr (fun p=>X.env.cells.lookup p.1=some p.2) cl:=by repeat' (first|exact True.intro|apply And.intro|rfl)) (j:∀ y∈scope.names,y.2=.free->y.1∈ys:=by decide +kernel):Ag X x scope cl ys js:=⟨a,b,c,d,e,f,g,h,i,j⟩
abbrev LkF(K:Frag)(f:Addr)(x q:Str)(st:Stmt)(oc kV dc pm cd ct:Value)(od an:Option Addr)(sl:Array (Option Value)):Prop:=K.lookup f=some ⟨oc,od,.func (PySem.W.fnOf x q (Ti st) (Yf st) (Zj st) .none kV dc pm an cd ct),sl⟩
abbrev NsB(K:Frag)(x:Str)(f:Addr):Prop:=PySem.W.nsIn K mainGlobals x=some (some (.ref f))
abbrev FdB(K:Frag)(c:Addr)(x:Str)(f:Addr):Prop:=PySem.W.findIn K (.ref c) x=some (some (.ref f))
abbrev BnA(x q:Str)(st:Stmt)(ps:List Str):Prop:=∀ (kV doc pm:Value) (an:Option Addr) (cdv ct:Value) (us:List Value),us.length=ps.length->bindArgs (PySem.W.fnOf x q (Ti st) (Yf st) (Zj st) .none kV doc pm an cdv ct) ⟨us,[]⟩=pure (ps.zip us)
abbrev BnE(x q:Str)(st:Stmt)(ps:List Str)(us:List Value):Prop:=∀ (kV doc pm:Value) (an:Option Addr) (cdv ct:Value),bindArgs (PySem.W.fnOf x q (Ti st) (Yf st) (Zj st) .none kV doc pm an cdv ct) ⟨us,[]⟩=pure (ps.zip us)
section
variable{x q a b c d e g:Str}{st:Stmt}
theorem bn1(h:∀ u,BnE x q st [a] [u]:=by intros _ _ _ _ _ _ _;rfl):BnA x q st [a]:=fun _ _ _ _ _ _ us hl=>match us,hl with|[_],_=>h _ _ _ _ _ _ _
theorem bn2(h:∀ u v,BnE x q st [a,b] [u,v]:=by intros _ _ _ _ _ _ _ _;rfl):BnA x q st [a,b]:=fun _ _ _ _ _ _ us hl=>match us,hl with|[_,_],_=>h _ _ _ _ _ _ _ _
theorem bn3(h:∀ u v w,BnE x q st [a,b,c] [u,v,w]:=by intros _ _ _ _ _ _ _ _ _;rfl):BnA x q st [a,b,c]:=fun _ _ _ _ _ _ us hl=>match us,hl with|[_,_,_],_=>h _ _ _ _ _ _ _ _ _
theorem bn4(h:∀ u v w y,BnE x q st [a,b,c,d] [u,v,w,y]:=by intros _ _ _ _ _ _ _ _ _ _;rfl):BnA x q st [a,b,c,d]:=fun _ _ _ _ _ _ us hl=>match us,hl with|[_,_,_,_],_=>h _ _ _ _ _ _ _ _ _ _
theorem bn5(h:∀ u v w y z,BnE x q st [a,b,c,d,e] [u,v,w,y,z]:=by intros _ _ _ _ _ _ _ _ _ _ _;rfl):BnA x q st [a,b,c,d,e]:=fun _ _ _ _ _ _ us hl=>match us,hl with|[_,_,_,_,_],_=>h _ _ _ _ _ _ _ _ _ _ _
end
section
variable{K:Frag}{mg:Str->Option Value}{x y q m:Str}{k:Nat}{ps:List Str}{sp:Sp}{C:Addr}{st:Stmt}{f:Addr}{fd:FuncData}
theorem dMk(P:Program)(w:World)(base:Heap)(F:Fun K x q st f fd)(ok:FnOk P w K mg base (CX1 P w) k f fd ps sp)(b:mg y=some (.ref f))(hb:BnA x q st ps:=by first|exact bn1|exact bn2|exact bn3|exact bn4|exact bn5):Z4 P w K mg base y k ps sp:=⟨f,fd,ok,b,F.kp,F.binds hb⟩
theorem mMk(P:Program)(w:World)(base:Heap)(F:Fun K x q st f fd)(ok:FnOk P w K mg base (CX1 P w) k f fd ps sp)(b:zb9 K C m f)(hb:BnA x q st ps:=by first|exact bn1|exact bn2|exact bn3|exact bn4|exact bn5):Zt P w K mg base C m k ps sp:=⟨f,fd,ok,b,F.binds hb⟩
theorem nMk(P:Program)(w:World)(base:Heap)(F:Fun K x q st f fd)(ok:FnOk P w K mg base (CX1 P w) k f fd ps sp)(b:Mk K C f)(c:mg y=some (.ref C))(hb:BnA x q st ps:=by first|exact bn1|exact bn2|exact bn3|exact bn4|exact bn5):Tq P w K mg base y C k ps sp:=⟨f,fd,ok,b,c,F.binds hb⟩
end
structure LN(K:Frag)(x q:Str)(st:Stmt)(f:Addr)(oc kV dc pm cd ct:Value)(od an:Option Addr)(sl:Array (Option Value)):Prop where
 b:NsB K x f
 l:LkF K f x q st oc kV dc pm cd ct od an sl
 c:PySem.W.codeIn K cd q=true
 k:PySem.W.keepIn K (.ref f)=true
structure LM(K:Frag)(C:Addr)(x q:Str)(st:Stmt)(f:Addr)(oc kV dc pm cd ct:Value)(od an:Option Addr)(sl:Array (Option Value)):Prop where
 b:FdB K C x f
 l:LkF K f x q st oc kV dc pm cd ct od an sl
 c:PySem.W.codeIn K cd q=true
 k:PySem.W.keepIn K (.ref f)=true
 i:PySem.W.isFn K (.ref f)=true
abbrev XcB(K:Frag)(c:Addr):Prop:=PySem.W.excIn K c [.type "ValueError",.type "Exception",.type "BaseException",.type "object"] "ValueError.__new__"=true
abbrev NzB(K:Frag)(x:Str):Prop:=PySem.W.nsIn K mainGlobals x=some none
structure XG(P:Program)(w:World)(base:Heap)(K:Frag)(mg:Str->Option Value)(h:Heap):Prop where
 X:K.In h
 G:h.Ns mainGlobals mg
section
variable{P:Program}{w:World}{base h:Heap}{K:Frag}{mg:Str->Option Value}{x y q:Str}{k:Nat}{ps:List Str}{sp:Sp}{C:Addr}{st:Stmt}{f:Addr}{oc kV dc pm cd ct:Value}{od an:Option Addr}{sl:Array (Option Value)}
theorem dN(Z:XG P w base K mg h)(l:LN K x q st f oc kV dc pm cd ct od an sl)(ok:∀ {fd},Fun K x q st f fd->FnOk P w K mg base (CX1 P w) k f fd ps sp)(hb:BnA x q st ps:=by first|exact bn1|exact bn2|exact bn3|exact bn4|exact bn5):Z4 P w K mg base x k ps sp :=
 dMk P w base (Pd l.l l.c l.k) (ok (Pd l.l l.c l.k)) (PySem.W.mg_of Z.X Z.G l.b) hb
theorem mM(_:XG P w base K mg h)(l:LM K C x q st f oc kV dc pm cd ct od an sl)(ok:∀ {fd},Fun K x q st f fd->FnOk P w K mg base (CX1 P w) k f fd ps sp)(hb:BnA x q st ps:=by first|exact bn1|exact bn2|exact bn3|exact bn4|exact bn5):Zt P w K mg base C x k ps sp :=
 mMk P w base (Pd l.l l.c l.k) (ok (Pd l.l l.c l.k)) ⟨l.b,l.i,l.k⟩ hb
theorem nM(Z:XG P w base K mg h)(l:LM K C "__init__" q st f oc kV dc pm cd ct od an sl)(m:PySem.W.makesIn K C=true)(kc:PySem.W.keepIn K (.ref C)=true)(c:PySem.W.nsIn K mainGlobals y=some (some (.ref C)))(ok:∀ {fd},Fun K "__init__" q st f fd->FnOk P w K mg base (CX1 P w) k f fd ps sp)(hb:BnA "__init__" q st ps:=by first|exact bn1|exact bn2|exact bn3|exact bn4|exact bn5):Tq P w K mg base y C k ps sp :=
 nMk P w base (Pd l.l l.c l.k) (ok (Pd l.l l.c l.k)) ⟨m,l.b,l.i,kc⟩ (PySem.W.mg_of Z.X Z.G c) hb
end
section
variable{X:Cx}{elt iter:Expr}{x:Str}{px pos:Pos}{ifs:List Expr}{scope:Scope}{cl:List (Str×Addr)}{ys:List Str}{js:List Nat}
theorem Ko{pins:List (Addr×Obj)}{σ:St}{H:Hp}{s:Shared}{tt:TT}{te:TE}{it:Addr}{fp:List Addr}{tn:Nat->Heap->Prop}{J:It}{W:Nat->Nat->List V->Hp->Prop}{m0:Nat}{Q:VK}{E:Value->Shared->Prop}{RR:Value->Addr->Result->Shared->Prop}
  (hcm:X.calm=true) (c:Ag X x scope cl ys js) (ht:∀ pn s₀ H₀ fp C,PTs (Yq X pn (x :: ys) scope cl s₀ H₀ fp C) ifs tt) (hgt:∀ pn s₀ H₀ fp C,PG (Yq X pn (x :: ys) scope cl s₀ H₀ fp C) (.Name x px) (Vb 0)) (he:∀ pn s₀ H₀ fp C,PE (Yq X pn (x :: ys) scope cl s₀ H₀ fp C) elt te)
  (I:Inv X pins σ H s) (T:Ec X.prog X.w X.K (.Name x px) J fp it tn) (st0:tn 0 s.heap) (hf:∀ b∈fp,FpOk X pins H b) (w0:W 0 m0 [] H)
  (turn:∀ i m ys H,W i m ys H->(J.stop i H/\ys.length<=sizeLine/\∀ p,H p=none->Q (.ref p) (upd H p (.lst ys))) \/
   (J.go i H/\ys.length<sizeLine/\∃ N:List V->Hp->Prop,(∀ ys' H',N ys' H'->∃ m',m' < m/\W (i+1) m' ys' H')/\∀ x H',J.yld i H x H'->tt (cs js σ x) H' fun b H2=>if b=true then te (cs js σ x) H2 fun y H3=>N (ys++[y]) H3 else N ys H2))
  (hRR:∀ D C s' m,s'.heap.Ns C m->(∀ h',Heap.SameBut C s'.heap h'->∃ H',Inv X pins σ H' { s' with heap:=h' }/\Q (.ref D) H')->(∃ H',Inv X pins σ H' s'/\Q (.ref D) H'/\H' C=none)->s.heap.objs.size<=C->RR (.ref D) C (.ok .next) s') :
  wpAny (model X.prog X.w) X.A (newList []) (fun acc s₃=>wpAny (model X.prog X.w) X.A (newFunctionEnv scope X.env.globals cl [] X.env.qual none .none (some X.env)) (fun cenv s₄ =>
   codeAny (model X.prog X.w) X.A (.compStart (.ListComp elt [⟨.Name x px,iter,ifs,0⟩] scope pos) 0 (.ref it) acc { cenv with scope:=relabel scope X.env }) (RR acc cenv.locals) s₄) E s₃) E s :=
 Ke (xo:=[x]) (g:=Vb 0) hcm ⟨c.clos,c.kind,c.names,c.nocell,c.at_,c.free,c.only,c.vis⟩ ht hgt he I T st0 hf w0 (fun i m ys H w=>(turn i m ys H w).imp id fun ⟨a,b,N,n1,n2⟩=>⟨a,b,N,n1,fun y H' hy=>⟨⟨[some y],rfl,rfl⟩,n2 y H' hy⟩⟩) hRR
variable{wi:TI}{tt:TT}{te:TE}
theorem V6(hcm:X.calm=true)(c:Ag X x scope cl ys js)(hi:PI X (.Name x px) iter wi)(ht:∀ pn s₀ H₀ fp C,PTs (Yq X pn (x :: ys) scope cl s₀ H₀ fp C) ifs tt)(he:∀ pn s₀ H₀ fp C,PE (Yq X pn (x :: ys) scope cl s₀ H₀ fp C) elt te)
  (hx:∀ C,(compEnvC scope cl C X.env).scope.names.lookup x=some .local:=by intro _;rfl) (hs:∀ x,foldedSetIterable iter X.env x=pure x:=by intro _;rfl):PE X (.ListComp elt [⟨.Name x px,iter,ifs,0⟩] scope pos) (zfp wi js tt te):=by
 intro pins s σ H Q I h;rw[eval_ListComp];refine wpAny_comprehension_free (use:=none) rfl hs c.clos c.kind c.names (thn (hi pins s σ H _ I h) fun v s1 h1=>thn h1 fun itv s2 h2=>?_);obtain⟨it,fp,tn,J,H2,e,I2,T,st2,f2,W,⟨m0,w0⟩,turn⟩:=h2;subst e;exact Ko (RR:=fun acc C=>compPost (model X.prog X.w) X.A X.xe none (EP X pins σ Q) acc C) hcm c ht (fun _ _ _ _ C=>Xy (X:=Yq X _ (x :: ys) scope cl _ _ _ C) c.nd rfl (.inl (hx C)) ⟨.inr (hx C),Xq⟩) he I2 T st2 f2 w0 turn fun D C s' m hn hS _ _=>⟨m,hn,fun h' hs'=>let ⟨H',I',q⟩:=hS h' hs';⟨.ref D,H',I',rfl,q⟩⟩
theorem D5{y:Str}{py spos:Pos}{i:Nat}(hN:X.N.Nodup)(hy:X.N[i]?=some y)(hk:X.env.scope.names.lookup y=some .local)(hcm:X.calm=true)(c:Ag X x scope cl ys js)(hi:PI X (.Name x px) iter wi)(ht:∀ pn s₀ H₀ fp C,PTs (Yq X pn (x :: ys) scope cl s₀ H₀ fp C) ifs tt)
  (he:∀ pn s₀ H₀ fp C,PE (Yq X pn (x :: ys) scope cl s₀ H₀ fp C) elt te)
  (hx:∀ C,(compEnvC scope cl C X.env).scope.names.lookup x=some .local:=by intro _;rfl) (hsw:swapsWith (.ListComp elt [⟨.Name x px,iter,ifs,0⟩] scope pos) (some (.Name y py)) spos.line X.env=pure true:=by rfl) (hs:∀ x,foldedSetIterable iter X.env x=pure x:=by intro _;rfl)
  (hf:Cq X i y:=by first|exact⟨.inr rfl,Xq⟩|assumption|exact⟨.inr rfl,by assumption⟩) :
  PS X (.Assign [.Name y py] (.ListComp elt [⟨.Name x px,iter,ifs,0⟩] scope pos) spos) (Cr (zfp wi js tt te) (Vb i)):=by
 intro pins s σ H D0 I h;rw[exec_Assign_Name_used _ _ _ _ hsw];refine wpAny_bind (wpAny_standAt (wpAny_bind ?_));show wpAny _ X.A (do let _ <- comprehension (.ListComp elt [⟨.Name x px,iter,ifs,0⟩] scope pos) scope X.env _ (newList []) false (eval iter X.env) (some (assign (.Name y py) X.env))) _ _ s;refine wpAny_bind (wpAny_mono (wpAny_comprehension_free (use:=some (assign (.Name y py) X.env)) (Q:=fun _ s'=>SP X pins D0 .next s') rfl hs c.clos c.kind c.names
  (thn (hi pins s σ H _ I h) fun v s1 h1=>thn h1 fun itv s2 h2=>?_)) (fun _ s' hq=>wpAny_pure (wpAny_pure hq)) fun _ _ e=>e)
 obtain⟨it,fp,tn,J,H2,e,I2,T,st2,f2,W,⟨m0,w0⟩,turn⟩:=h2;subst e;refine Ko (Q:=fun x H1=>D0.nx (σ.set i (some x)) H1) (RR:=fun acc C=>compPost (model X.prog X.w) X.A X.xe (some (assign (.Name y py) X.env)) (fun _ s'=>SP X pins D0 .next s') acc C) hcm c ht (fun _ _ _ _ C=>Xy (X:=Yq X _ (x :: ys) scope cl _ _ _ C) c.nd rfl (.inl (hx C)) ⟨.inr (hx C),Xq⟩) he I2 T st2 f2 w0 turn fun D C s' m hn _ hS hC=>?_;obtain⟨H',I',q,fC⟩:=hS;show wpAny _ X.A (assign (.Name y py) X.env (.ref D)) _ _ _;have ltC:∀ b o,s2.heap.get? b=some o->b≠C:=fun b o e=>ztv (ztm (Heap.lt_size e) hC);have neL:C≠X.env.locals:=by
  obtain⟨_,⟨o,_,_,ho,_⟩,_⟩:=I2.loc;exact Ne.symm (ltC _ o ho)
 have neK:∀ z a,X.env.cells.lookup z=some a->a≠C:=fun z a e=>by
  obtain⟨_,o,ho,_⟩:=I2.cell z a e;exact ltC a o ho
 refine wpAny_assign_Name (Iu I' hN hy (.inl hk) (v:=.ref D) (show RelV (.ref D) (.ref D) from rfl) (fun s4 I4 ⟨a,hs4,ha⟩=>?_) hf);have naC:C≠a:=by
  rcases ha with ha|ha
  ·rw[ha];exact neL
  ·exact Ne.symm (neK _ _ ha)
 refine⟨m,hn.sameBut hs4 naC,fun h5 hs5=>⟨_,H',?_,q⟩⟩;refine I4.turned (t':=s4.toks) (it:=C) (fun b o hb e=>hs5.extBut b o hb e) fC neL (.inr (zto I2.sz hC)) neK fun p hp=>?_;obtain⟨e,_⟩:=I2.pin p hp;exact ltC _ _ e
end
end L2
namespace G
open PySem PySem.Spec PyProof.Rows L2
def Vq:Wg->Str
 | .enrol _ _ _=>"enrol"
 | .away _ _=>"away"
 | .draw _=>"draw up"
 | .close=>"close"
 | .back=>"take back"
theorem Xu.word(h:Xu ok H t D):∃ r,H t=some (.tup (.str (Vq D) :: r)):=by
 cases D with
 | enrol a b c=>exact⟨_,h⟩
 | away a b=>exact⟨_,h⟩
 | draw ms=>obtain⟨l,ts,a1,_⟩:=h;exact⟨_,a1⟩
 | close=>exact⟨_,h⟩
 | back=>exact⟨_,h⟩
end G
namespace G
open PySem PySem.Spec PyProof.Rows L2
inductive RwL(H:Hp):List Addr->List (List Row)->Prop where
 | nil:RwL H [] []
 | cons {l:Addr} {ls:List Addr} {ts:List V} {rs:List Row} {Rs:List (List Row)} (h:H l=some (.lst ts)) (t:Z0 H ts (rs.map Qv)) (n:RwL H ls Rs):RwL H (l :: ls) (rs :: Rs)
theorem RwL.same(e:Same H H'):∀ {ls:List Addr} {Rs:List (List Row)},RwL H ls Rs->RwL H' ls Rs
 | _,_,.nil=>.nil
 | _,_,.cons h t n=>.cons (e _ _ h) (t.same e) (RwL.same e n)
theorem RwL.length:∀ {ls:List Addr} {Rs:List (List Row)},RwL H ls Rs->ls.length=Rs.length
 | _,_,.nil=>rfl
 | _,_,.cons _ _ n=>by simp[RwL.length n]
theorem RwL.snoc(h:H l=some (.lst ts))(t:Z0 H ts (rs.map Qv)):∀ {ls:List Addr} {Rs:List (List Row)},RwL H ls Rs->RwL H (ls++[l]) (Rs++[rs])
 | _,_,.nil=>.cons h t .nil
 | _,_,.cons h' t' n=>.cons h' t' (RwL.snoc h t n)
theorem RwL.getR:∀ {ls:List Addr} {Rs:List (List Row)} {i:Nat} {rs:List Row},RwL H ls Rs->Rs[i]?=some rs->∃ l ts,ls[i]?=some l/\H l=some (.lst ts)/\Z0 H ts (rs.map Qv)
 | _,_,_,_,.nil,e=>by simp at e
 | _,_,0,_,.cons h t n,e=>by simp at e;subst e;exact⟨_,_,rfl,h,t⟩
 | _,_,i+1,rs,.cons h t n,e=>by
   obtain⟨l,ts,h1,h2⟩:=RwL.getR (i:=i) (rs:=rs) n (by simpa using e);exact⟨l,ts,by simpa using h1,h2⟩
inductive Gm(ca:CA)(vs:List V)(H:Hp)(Q:VK)(_:XK):Prop where
 | mk(A:SAd)(S:Sea)(_:vs=[.ref A.p])(_:Zw ca H A S)(_:S.led.length<=900)(_:∀ l ls H',H' l=some (.lst (ls.map V.ref))->RwL H' ls S.led->Same H H'->H l=none->(∀ x∈ls,H x=none)->Q (.ref l) H')
inductive Kp(vs:List V)(H:Hp)(Q:VK)(_:XK):Prop where
 | mk(t1 t2:Addr)(d:Ut)(_:vs=[.ref t1,.ref t2])(_:H t1=some (.tup (Wo d)))(_:H t2=some (.tup (Wo d)))(_:Q (.bl true) H)
inductive Kq(K:Frag)(vs:List V)(H:Hp)(Q:VK)(_:XK):Prop where
 | mk(b c:Addr)(ts us:List V)(ds:List Ut)(_:vs=[.ref b,.ref c])(_:H b=some (.lst ts))(_:H c=some (.lst us))(_:Z0 H ts (ds.map Wo))(_:Z0 H us (ds.map Wo))(_:ds.length<=1000)(_:Q (.bl true) H)
end G
namespace L2
open PySem PySem.Spec PyProof.Rows PySem.Builtin PySem.Builtin.Str
theorem Gn:OpR X (binaryOp .Add) (fun x y H Q=>∃ a b:Str,x=.str a/\y=.str b/\a.length+b.length<=sizeLine/\Q (.str (a++b)) H):=by
 intro pins s σ H x y v u Q I rx ry h;obtain⟨a,b,rfl,rfl,hz,q⟩:=h;obtain⟨t,rfl⟩:=rx;obtain⟨t',rfl⟩:=ry;exact P.add_str (PySem.SB.post_add hz fun t' k=>⟨.str (a++b),H,I.tok _,⟨_,rfl⟩,q⟩)
def zfc(a b:Str):List Str:=partsBetween a (occurrences a b 0 a.length (a.length+1)) b.length
inductive zhh(x:V)(xs:List V)(H:Hp)(Q:VK):Prop where
 | mk(a b:Str)(_:x=.str a)(_:xs=[.str b])(_:(decide (a.length<b.length)||decide (strKind a<strKind b))=false)(_:(b.length == 0)=false)(_:(occurrences a b 0 a.length (a.length+1)).isEmpty=false)(_:a.length<=sizeLine)(_:(zfc a b).length<=sizeLine)(_:∀ l,H l=none->Q (.ref l) (upd H l (.lst ((zfc a b).map V.str))))
theorem D6:∀ (k:Nat) (ws:List Str),Vals (ws.map V.str) (strsFrom k ws)
 | _,[]=>.nil
 | k,w :: ws=>.cons ⟨_,rfl⟩ (D6 (k+1) ws)
theorem zd1:MtR X "str.split" zhh:=by
 intro pins s σ H x xs v us Q I rx rv h;obtain⟨a,b,rfl,rfl,h1,h2,h3,h4,h5,q⟩:=h;obtain⟨t,rfl⟩:=rx;obtain⟨u,rfl,ru⟩:=rv.one;obtain⟨t',rfl⟩:=ru;have hf:H s.heap.objs.size=none:=I.hok.fresh (ztb _);refine call_meets F.slot_str_split (typeIs_str _ _ _) F.entry_str_split (F.args_str_split_2 _ _) (meets_str_split_sep a b t t' h1 h2 h3 h4 h5) ?_;refine⟨.ref s.heap.objs.size,upd H s.heap.objs.size (.lst ((zfc a b).map V.str)),I.laid (fun _ _ q=>Heap.get?_push_of_some _ q) (ztb _) ?_,rfl,q _ hf⟩;exact⟨by rw[zs3];exact h5,_,_,D6 s.toks _,Heap.get?_push_size _ rfl⟩
end L2
namespace G
open PySem PySem.Spec PyProof.Rows L2
inductive Ref where
 | out|known|many|unk|manyM|same|noMatch|noRound|over|seaOver|away|drawn|notDrawn|nothing|manyD
 deriving DecidableEq
def Ref.cls(ca:CA):Ref->Addr
 | .out=>ca.out|.known=>ca.known|.many=>ca.many|.unk=>ca.unk|.manyM=>ca.manyM|.same=>ca.same|.noMatch=>ca.noMatch|.noRound=>ca.noRound
 | .over=>ca.over|.seaOver=>ca.seaOver|.away=>ca.away|.drawn=>ca.drawn|.notDrawn=>ca.notDrawn|.nothing=>ca.nothing|.manyD=>ca.manyD
def Ref.name:Ref->Str
 | .out=>"OutOfRange" | .known=>"KnownReferee" | .many=>"TooManyReferees" | .unk=>"UnknownReferee" | .manyM=>"TooManyMatches" | .same=>"SameClub" | .noMatch=>"NoSuchMatch" | .noRound=>"NoSuchRound"
 | .over=>"RoundOver" | .seaOver=>"SeasonOver" | .away=>"AwayAlready" | .drawn=>"DrawnUp" | .notDrawn=>"NotDrawn" | .nothing=>"NothingToTakeBack" | .manyD=>"TooManyDeeds"
open Classical in
noncomputable def refS(S:Sea):Wg->Option Ref
 | .enrol n g c=>if S.len<=S.led.length then some .seaOver else if S.cur.isSome=true then some .drawn else if badI n g c then some .out else if n∈S.ppl.map (·.1) then some .known else if 30<=S.ppl.length then some .many else if 100<=S.std.length then some .manyD else none
 | .away i n=>if i<1\/(S.len:Int)<i then some .noRound else if i<=S.led.length then some .over else if n∈S.ppl.map (·.1) then (if (i,n)∈S.out then some .away else if 100<=S.std.length then some .manyD else none) else some .unk
 | .draw ms=>if S.len<=S.led.length then some .seaOver else if S.cur.isSome=true then some .drawn else if 20<ms.length then some .manyM else if Vv ms then some .out else if We ms then some .same else if 100<=S.std.length then some .manyD else none
 | .close=>if S.len<=S.led.length then some .seaOver else if S.cur=none then some .notDrawn else none
 | .back=>if S.std=[] then some .nothing else none
def Kr:Wg->Prop
 | .enrol n g c=>Fo n g c
 | .away i n=>Yg i/\Yg n
 | .draw ms=>(∀ m∈ms,Ua m)/\ms.length<=1000
 | _=>True
inductive zfv(K:Frag)(ca:CA)(vs:List V)(H:Hp)(Q:VK)(E:XK):Prop where
 | mk(A:SAd)(S:Sea)(t:Addr)(d:Wg)(_:vs=[.ref A.p,.ref t])(_:Zw ca H A S)(_:Xu (·∉A.fp) H t d)(_:Kr d)(_:zdr S)(_:R8 S)(_:S.std.length<=500)(_:S.out.length<=100000)(_:2*(tot S.led+1000)<=100000)(_:S.led.length<=1000)(_:S.old.length<=1000)(_:(d=.back->S.std≠[]->∃ S0,Oq S0 S))(_:(∀ r,refS S d=some r->∀ H',Same H H'->E (.ref (r.cls ca)) none H'))(_:(refS S d=none->∀ v A' S' H',Ux H' S d S' v->Zw ca H' A' S'->Q6 A A' H->FrS A H H'->(∀ l,v=.ref l->(∃ xs,H' l=some (.lst xs))->H l=none)->Q v H'))
inductive zd2(K:Frag)(ca:CA)(vs:List V)(H:Hp)(Q:VK)(_:XK):Prop where
 | mk(A:SAd)(S:Sea)(t:Addr)(d:Wg)(_:vs=[.ref A.p,.ref t])(_:Zw ca H A S)(_:Xu (·∉A.fp) H t d)(_:Kr d)(_:zdr S)(_:R8 S)(_:S.std.length<=500)(_:S.out.length<=100000)(_:2*(tot S.led+1000)<=100000)(_:S.led.length<=1000)(_:S.old.length<=1000)(_:(d=.back->S.std≠[]->∃ S0,Oq S0 S))(_:(∀ r,refS S d=some r->∀ u l H',H' u=some (.tup [.str "refused",.ref l])->H' l=some (.lst [.str r.name,.str "ValueError"])->Same H H'->H u=none->Q (.ref u) H'))(_:(refS S d=none->∀ u v A' S' H',H' u=some (.tup [.str "told",v])->Ux H' S d S' v->Zw ca H' A' S'->Q6 A A' H->FrS A H H'->u∉A'.fp->Q (.ref u) H'))
theorem zbm(h:refS S d=none)(hc:∀ ms,d=.draw ms->∀ m∈ms,Ua m):A7 S d/\((d≠.close/\d≠.back)->S.std.length<100):=by
 cases d with
 | enrol n g c =>
   simp only[refS] at h;split at h;· cases h
   split at h;· cases h
   split at h;· cases h
   split at h;· cases h
   split at h;· cases h
   split at h;· cases h
   rename_i h1 h2 h3 h4 h5 h6;refine⟨⟨by omega,?_,h3,h4,by omega⟩,fun _=>by omega⟩;cases hc:S.cur with
   | none=>rfl
   | some s=>rw[hc] at h2;exact absurd rfl h2
 | away i n =>
   simp only[refS] at h;split at h;· cases h
   split at h;· cases h
   split at h
   ·split at h;· cases h
    split at h;· cases h
    rename_i h1 h2 h3 h4 h5;exact⟨⟨by omega,by omega,h3,h4⟩,fun _=>by omega⟩
   ·cases h
 | draw ms =>
   simp only[refS] at h;split at h;· cases h
   split at h;· cases h
   split at h;· cases h
   split at h;· cases h
   split at h;· cases h
   split at h;· cases h
   rename_i h1 h2 h3 h4 h5 h6;refine⟨⟨by omega,?_,by omega,fun m hm hb=>h4 ⟨m,hm,hb⟩,fun m hm hb=>h5 ⟨m,hm,hb⟩⟩,fun _=>by omega⟩;cases hc:S.cur with
   | none=>rfl
   | some s=>rw[hc] at h2;exact absurd rfl h2
 | close =>
   simp only[refS] at h;split at h;· cases h
   split at h;· cases h
   rename_i h1 h2;exact⟨⟨by omega,h2⟩,fun z=>absurd rfl z.1⟩
 | back =>
   simp only[refS] at h;split at h;· cases h
   rename_i h1;exact⟨h1,fun z=>absurd rfl z.2⟩
end G
namespace G
open PySem PySem.Spec PyProof.Rows L2
theorem zd3(h:refS S d=some r):r≠.noMatch:=by
 intro e;subst e;cases d<;>simp only[refS] at h<;>(repeat' split at h)<;>cases h
def refB(r:Ref):List V:=[.out,.known,.many,.unk,.manyM,.same,.noMatch,.noRound,.over,.seaOver,.away,.drawn,.notDrawn,.nothing,.manyD].map (fun t=>V.bl (decide (r=t)))++[V.bl true]
def refW:List Str:=["OutOfRange","KnownReferee","TooManyReferees","UnknownReferee","TooManyMatches","SameClub","NoSuchMatch","NoSuchRound","RoundOver","SeasonOver","AwayAlready","DrawnUp","NotDrawn","NothingToTakeBack","TooManyDeeds","ValueError"]
def refP(r:Ref)(i:Nat):Bool:=decide ((refB r)[i]?=some (V.bl true))
theorem zbn(r:Ref):((List.range 16).filter (refP r)).map (fun i=>V.str (refW.getD i ""))=[.str r.name,.str "ValueError"]:=by cases r<;>decide +kernel
theorem zd4(r:Ref)(h:i<16):(refB r)[i]?=some (V.bl (refP r i)):=by
 have hl:i<(refB r).length:=h;have e:=zs4 hl;obtain⟨b,hb⟩:∃ b,(refB r)[i]=V.bl b:=by
  rcases zth.mp (show (refB r)[i]∈_++_ from ztz hl) with z|z
  ·obtain⟨t,_,e⟩:=ztd.mp z;exact⟨_,e.symm⟩
  ·exact⟨true,zs9.mp z⟩
 rw[hb] at e;unfold refP;rw[e];cases b
 ·rw[ztc fun z=>by cases z]
 ·rw[zs6 rfl]
theorem zd5(h:i<16):(refW.map V.str)[i]?=some (V.str (refW.getD i "")):=by
 rw[zta,ztu];have:i<refW.length:=h;rw[zs4 this];rfl
theorem zbo:zfc (("OutOfRange KnownReferee TooManyReferees UnknownReferee TooManyMatches SameClub":Str)++(" NoSuchMatch NoSuchRound RoundOver SeasonOver AwayAlready DrawnUp":Str)++(" NotDrawn NothingToTakeBack TooManyDeeds ValueError":Str)) (" ":Str)=refW:=by decide +kernel
theorem Ux.same(af:Ux H S d S' v)(e:Same H H'):Ux H' S d S' v:=by
 cases af with
 | enrol n g c=>exact .enrol n g c
 | awayN h hl=>exact .awayN h (e _ _ hl)
 | awayF h hp hl=>exact .awayF h hp (e _ _ hl)
 | awayC h hp hl tl CR=>exact .awayC h hp (e _ _ hl) (tl.same e) CR
 | draw hl F T=>exact .draw (e _ _ hl) F T
 | close h=>exact .close h
 | back h ht hs=>exact .back h (e _ _ ht) hs
theorem Q6.back(nx:Q6 A A' H')(e:Same H H'):Q6 A A' H:=by
 obtain⟨x,rfl,h⟩:=nx;exact⟨x,rfl,h.elim .inl fun z=>.inr (e.free z)⟩
end G
namespace G
open PySem PySem.Spec PyProof.Rows L2
theorem KeepI.none(kt:∀ t xs,H t=some (.tup xs)->H' t=some (.tup xs)):∀ {vs:List V} {ss:List (Ut×Option Z3)},(∀ x∈ss,x.2=none)->V4 C ok H vs ss->V4 C ok H' vs ss
 | _,_,_,.nil=>.nil
 | _,(d,s) :: ss,hn,.cons h hu hs r=>by
   have e:s=Option.none:=hn (d,s) ztn;subst e;exact .cons (kt _ _ h) (kt _ _ hu) hs (KeepI.none kt (fun x hx=>hn x (ztj _ hx)) r)
theorem zfd(r:Ref):decide (r.name="")=false:=by cases r<;>decide +kernel
theorem zaa(r:Ref):∀ w∈[r.name,("ValueError":Str)],PyData.strOk w=true:=by cases r<;>decide +kernel
structure I21(r i:Nat)(noted:List Int)(S:Sea):Prop where
 len:S.len=r
 led:S.led=[]
 cur:S.cur=none
 old:S.old=[]
 std:∀ x∈S.std,x.2=none
 sl:S.std.length<=i
 ol:S.out.length<=i
 z:(noted=[]/\S.ppl=[]/\S.std=[]/\S.out=[])\/∃ ds,noted=0 :: ds/\S.ppl=[(5,5,5)]/\S.out=ds.map fun i=>(i,5)
 e:i<=10->noted=[]
end G
namespace G
open PySem PySem.Spec PyProof.Rows L2
structure zj9(n:Nat)(s:Z3):Prop where
 ms:s.ms.length<=20
 ml:s.may.length=s.ms.length
 fi:Yl s.may s.gv
 st:Vs s.may s.gv
 mo:∃ nu,R0 s.may nu
 gp:s.gaps.length<=n/\∀ x∈s.gaps,x.2.length<=100
theorem Gp:decide (V.str (Vq D)=V.str "take back")=match D with|.back=>true|_=>false:=by
 cases D with
 | back=>exact Pt
 | enrol n g c=>exact Uy (show decide (("enrol":Str)="take back")=false by decide +kernel)
 | away i n=>exact Uy (show decide (("away":Str)="take back")=false by decide +kernel)
 | draw ms=>exact Uy (show decide (("draw up":Str)="take back")=false by decide +kernel)
 | close=>exact Uy (show decide (("close":Str)="take back")=false by decide +kernel)
theorem zfe(h:D≠.back):decide (V.str (Vq D)=V.str "take back")=false:=by
 rw[Gp];cases D<;>first|rfl|exact absurd rfl h
section
variable{rows:List (List Int)}{gs0 hs:List V}{p:Nat}{n0:Int}
structure zj2(rows:List (List Int))(gs0 hs:List V)(p:Nat)(i:Nat)(L:List Nat)(q:Nat):Prop where
 len:L.length=i+1
 nd:L.Nodup
 mem:q∈L
 walk:Walk rows (gs0.set p .non) p q i
 df:∀ k∈L,k<gs0.length/\gs0[k]?≠hs[k]?
 back:∀ y∈L,y≠p->∃ x∈L,x≠q/\∃ n,hs[x]?=some (.int n)/\(gs0.set p .non)[y]?=some (.int n)
 full:∀ y∈L,gs0[y]?≠some .non
end
open Classical in
noncomputable def eq1(x y:V):Nat:=if x=y then 1 else 0
inductive StK(N:List Int):List (List Int)->List V->Nat->Nat->Nat->Prop where
 | nil:StK N [] [] 0 0 0
 | skip {rows:List (List Int)} {r:List Int} {ah:List V} {v:V} {f u k:Nat} (h:StK N rows ah f u k):StK N (rows++[r]) (ah++[v]) (2*f) u (k+eq1 .non v)
 | take {rows:List (List Int)} {r:List Int} {ah:List V} {v:V} {f u k b:Nat} {n:Int} (h:StK N rows ah f u k) (hb:N[b]?=some n) (hn:n∈r) (hu:u/2 ^ b%2=0):StK N (rows++[r]) (ah++[v]) (2*f+1) (u+2 ^ b) (k+eq1 (.int n) v)
structure zj3(N:List Int)(rows:List (List Int))(ah:List V)(best kept:Nat):Prop where
 at_:∃ u,StK N rows ah best u kept
 top:∀ f u k,StK N rows ah f u k->f<=best
 most:∀ u k,StK N rows ah best u k->k<=kept
open Classical in
structure zka(R:Nat×Nat->Nat->Prop)(ps:List (Nat×Nat))(g:Nat×Nat->Nat):Prop where
 mem:∀ q,q∈ps↔∃ k,R q k
 at_:∀ q∈ps,R q (g q)
 top:∀ q k,R q k->k<=g q
section
variable{mb:Bool}{ok ok':Addr->Prop}{A A':SAd}{H H':Hp}{nu:List Int}{n m:Nat}{ds:List Addr}{d:Addr}{P:Pg}{S S':Sea}{D:Wg}
structure zjx(ok:Addr->Prop)(H:Hp)(ts:List V)(Ds:List Wg):Prop where
 len:ts.length=Ds.length
 at_:∀ (i:Nat) x,ts[i]?=some x->∃ t D,x=.ref t/\Ds[i]?=some D/\Xu ok H t D
end
structure PgR(mb:Bool)(ok:Addr->Prop)(H:Hp)(nu:List Int)(n:Nat)(d:Addr)(P:Pg)(S:Sea):Prop where
 pg:zdv ok H d P
 rb:zhg mb P S
 so:SOk nu n S
open Classical in
noncomputable def Sy(ms:List P3):Str:=if 20<ms.length then "TooManyMatches" else if Vv ms then "OutOfRange" else if We ms then "SameClub" else ""
open Classical in
noncomputable def dueW(S:Sea)(D:Wg):Str:=match refS S D with|some r=>r.name|none=>""
inductive Gq(K:Frag)(vs:List V)(H:Hp)(Q:VK)(_:XK):Prop where
 | mk(l:Addr)(ts:List V)(ms:List P3)(_:vs=[.ref l])(_:H l=some (.lst ts))(_:Z0 H ts (ms.map pV))(_:ms.length<=100)(_:∀ H',Same H H'->Q (.str (Sy ms)) H')
theorem Lo(b:Bool):atI [x,y] (if b=true then 1 else 0)=some (if b=true then y else x):=by cases b<;>rfl
theorem D7(h0:¬ S.len<=S.led.length)(h1:¬ S.cur.isSome=true)(hs:S.std.length<100):dueW S (.draw ms)=Sy ms:=by
 unfold dueW Sy;simp only[refS];rw[if_neg h0,if_neg h1];by_cases c1:20<ms.length
 ·rw[if_pos c1,if_pos c1];rfl
 rw[if_neg c1,if_neg c1];by_cases c2:Vv ms
 ·rw[if_pos c2,if_pos c2];rfl
 rw[if_neg c2,if_neg c2];by_cases c3:We ms
 ·rw[if_pos c3,if_pos c3];rfl
 ·rw[if_neg c3,if_neg c3,if_neg ⋯]
theorem Nm(h:refS S D=some r):dueW S D=r.name:=by unfold dueW;rw[h]
theorem zbp(h:refS S D=none):dueW S D="":=by unfold dueW;rw[h]
inductive Gs(K:Frag)(vs:List V)(H:Hp)(Q:VK)(_:XK):Prop where
 | mk(t:Addr)(m:P3)(c:Int)(_:vs=[.ref t,.int c])(_:H t=some (.tup (pV m)))(_:Ua m)(_:∀ (t':Addr) (m':P3) (H':Hp),H' t'=some (.tup (pV m'))->Ua m'->Same H H'->Q (.ref t') H')
def zi2(r o:Int)(dr:Bool)(lp ll:Addr):List (Key×V):=[(.inr "rounds",.int r),(.inr "over",.int o),(.inr "drawn",.bl dr),(.inr "people",.ref lp),(.inr "log",.ref ll)]
structure zjy(H:Hp)(d lp ll:Addr)(S:Sea):Prop where
 dd:H d=some (.dK (zi2 S.len S.led.length S.cur.isSome lp ll))
 pp:∃ pts,H lp=some (.lst pts)/\Z0 H pts (S.ppl.map pV)
 gg:∃ lts,H ll=some (.lst lts)/\Z0 H lts (S.std.map fun x=>Wo x.1)
 ne:lp≠ll
structure I22(S:Sea):Prop where
 out:S.out=[]
 std:∀ x∈S.std,x.2=none/\(x.1.1=("enrol":Str)\/x.1.1=("draw up":Str))
 last:∀ std0 x,S.std=std0++[x]->x.1.1=("enrol":Str)->S.cur=none
theorem Gu{P:Program}{w:World}{H:Hp}{h:Heap}{a:Addr}{o:HO}(x:Ym P w H h a o):∃ ob,h.get? a=some ob:=by
 cases o with
 | lst xs=>obtain⟨_,_,_,_,e⟩:=x;exact⟨_,e⟩
 | tup xs=>obtain⟨_,_,_,ob,e,_⟩:=x;exact⟨_,e⟩
 | dK kvs=>obtain⟨_,_,_,_,o,_,_,e,_⟩:=x;exact⟨_,e⟩
 | dT kvs=>obtain⟨_,_,_,_,o,_,_,e,_⟩:=x;exact⟨_,e⟩
 | set S n=>obtain⟨o,_,_,_,e,_⟩:=x;exact⟨_,e⟩
 | ins C dx fs=>obtain⟨_,_,_,e,_⟩:=x;exact⟨_,e⟩
 | own y=>exact x
 | xd fs=>obtain⟨_,⟨_,_,_,e,_⟩,_⟩:=x;exact⟨_,e⟩
 | rng lo hi=>obtain⟨_,_,_,e⟩:=x;exact⟨_,e⟩
 | frz ob u=>obtain⟨e,_⟩:=x;exact⟨_,e⟩
 | tbl ps=>exact⟨_,x⟩
 | met f y=>exact⟨_,x⟩
 | ext φ=>obtain⟨_,e,_⟩:=x;exact e
def dxs:HO->List Addr
 | .ins _ dx _=>[dx]
 | .frz _ u=>dxs u
 | _=>[]
theorem zd6(x:Ym P w H h a o)(k:∀ b u,(b=a\/b∈dxs o)->h.get? b=some u->h'.get? b=some u)
  (ho:∀ b∈dxs o,H b=some (.own a)->H' b=some (.own a)) (ht:∀ b xs,H b=some (.tup xs)->H' b=some (.tup xs)):Ym P w H' h' a o:=by
 induction o with
 | lst xs=>obtain⟨z,its,n,r,e⟩:=x;exact⟨z,its,n,r,k _ _ (.inl rfl) e⟩
 | tup xs=>obtain⟨z,its,r,ob,e,c⟩:=x;exact⟨z,its,r,ob,k _ _ (.inl rfl) e,c⟩
 | dK kvs=>obtain⟨z,y,vs,r,ob,es,ep,e,c⟩:=x;exact⟨z,y,vs,r,ob,es,ep,k _ _ (.inl rfl) e,c⟩
 | dT kvs =>
   obtain⟨z,y,xs,r,ob,es,ep,e,c⟩:=x;exact⟨z,y,xs,Paired.mapP r fun p q z=>⟨z.1,ht _ _ z.2.1,z.2.2⟩,ob,es,ep,k _ _ (.inl rfl) e,c⟩
 | set S n=>obtain⟨ob,es,ep,t,e,c⟩:=x;exact⟨ob,es,ep,t,k _ _ (.inl rfl) e,c⟩
 | ins C dx fs =>
   obtain⟨d,z,ne,e,mA,⟨od,es,ep,e2,c⟩,r⟩:=x;exact⟨ho _ ztn d,z,ne,k _ _ (.inl rfl) e,mA,⟨od,es,ep,k _ _ (.inr ztn) e2,c⟩,r⟩
 | own y=>obtain⟨ob,e⟩:=x;exact⟨ob,k _ _ (.inl rfl) e⟩
 | xd fs=>obtain⟨mA,⟨od,es,ep,e,c⟩,r⟩:=x;exact⟨mA,⟨od,es,ep,k _ _ (.inl rfl) e,c⟩,r⟩
 | rng lo hi=>obtain⟨t,u,v,e⟩:=x;exact⟨t,u,v,k _ _ (.inl rfl) e⟩
 | frz ob u ih=>obtain⟨e,q⟩:=x;exact⟨k _ _ (.inl rfl) e,ih q k ho⟩
 | tbl ps =>
   have e:h.get? a=some { cls:=.none,data:=.fields ps }:=x;show h'.get? a=some { cls:=.none,data:=.fields ps };exact k a _ (.inl rfl) e
 | met f y =>
   have e:h.get? a=some (PySem.W.methodObj (.ref f) (.ref y)):=x;show h'.get? a=some (PySem.W.methodObj (.ref f) (.ref y));exact k a _ (.inl rfl) e
 | ext φ=>obtain⟨p,⟨o,e⟩,st⟩:=x;exact⟨st _ _ p fun o q=>k _ _ (.inl rfl) q,⟨o,k _ _ (.inl rfl) e⟩,st⟩
open Classical in
noncomputable def hide(B:Addr->Prop)(H:Hp):Hp:=fun b=>if B b then none else H b
open Classical in
noncomputable def X8(B:Addr->Prop)(H H1:Hp):Hp:=fun b=>if B b then H b else H1 b
structure R9(B:Addr->Prop)(H:Hp):Prop where
 th:∀ b,B b->H b≠none
 cl:∀ a o,H a=some o->B a->∀ dx∈dxs o,B dx
 own:∀ a b,H b=some (.own a)->B b->B a
 tup:∀ t xs,B t->H t≠some (.tup xs)
section
variable{B:Addr->Prop}{H H1:Hp}{b:Addr}{o:HO}
theorem V7(h:B b):hide B H b=none:=if_pos h
theorem Yh(h:¬ B b):hide B H b=H b:=if_neg h
theorem W2(h:B b):X8 B H H1 b=H b:=if_pos h
theorem Y0(h:¬ B b):X8 B H H1 b=H1 b:=if_neg h
theorem Sg(B:Addr->Prop)(H:Hp):Same (hide B H) H:=fun b o e=>by
 by_cases h:B b
 ·rw[V7 h] at e;cases e
 ·rw[Yh h] at e;exact e
theorem Uo(h:H b=none):hide B H b=none:=by
 by_cases z:B b
 ·exact V7 z
 ·rw[Yh z];exact h
end
section
variable{P:Program}{w:World}{K:Frag}{mg:Str->Option Value}{base:Heap}{B:Addr->Prop}{H H1:Hp}{s s':Shared}{outer:List Env}{A:Around}
theorem zd7(k:R9 B H)(x:HOk P w H h):HOk P w (hide B H) h:=fun a o e=>by
 by_cases z:B a
 ·rw[V7 z] at e;cases e
 rw[Yh z] at e;refine(x a o e).stay (fun _ _ _ q=>q) (fun b q=>?_) (fun t xs q=>?_)
 ·rw[Yh fun y=>z (k.own a b q y)];exact q
 ·rw[Yh fun y=>k.tup t xs y q];exact q
theorem zd8(k:R9 B H)(e:Mh P w K mg base A outer s H):Mh P w K mg base A outer s (hide B H):=⟨e.frames,e.mod,fun b o q=>⟨(e.bs b o q).1,Uo (e.bs b o q).2⟩,e.bsz,e.funs,fun b q=>Uo (e.frf b q),zd7 k e.hok,e.bare⟩
theorem Gv(k:R9 B H)(e:Mh P w K mg base A outer s H)(u:Un (frs outer) [] (hide B H) H1 s.heap s'.heap):Un (frs outer) [] H (X8 B H H1) s.heap s'.heap:=by
 refine⟨fun b o q n hf hx=>u.keep b o q (Uo n) hf hx,fun b o q n hf hx=>u.slot b o q (Uo n) hf hx,fun b o q n hx=>?_,u.there,fun b xs q=>?_,fun b o x q=>?_,fun b ps q=>?_⟩
 ·rw[Y0 fun z=>k.th b z n];exact u.free b o q (Uo n) hx
 ·by_cases z:B b
  ·rw[W2 z];exact q
  ·rw[Y0 z];exact u.tups b xs (by rw[Yh z];exact q)
 ·by_cases z:B b
  ·rw[W2 z];exact q
  ·rw[Y0 z];exact u.frzs b o x (by rw[Yh z];exact q)
 ·by_cases z:B b
  ·exact⟨#[],by rw[W2 z,q,Array.append_empty]⟩
  ·rw[Y0 z];exact u.tbls b ps (by rw[Yh z];exact q)
theorem Fx(k:R9 B H)(e:Mh P w K mg base A outer s H)(u:Un (frs outer) [] (hide B H) H1 s.heap s'.heap)(z:B b):H1 b=none:=by
 cases q:H b with
 | none=>exact absurd q (k.th b z)
 | some o =>
   obtain⟨ob,hob⟩:=Gu (e.hok b o q);exact u.free b ob hob (V7 z) (by simp)
theorem Ks(k:R9 B H)(e:Mh P w K mg base A outer s H)(u:Un (frs outer) [] (hide B H) H1 s.heap s'.heap)(x:HOk P w H1 s'.heap):HOk P w (X8 B H H1) s'.heap:=fun a o q=>by
 by_cases z:B a
 ·rw[W2 z] at q;refine zd6 (e.hok a o q) (fun b v hb g=>?_) (fun b hb g=>?_) (fun t xs g=>?_)
  ·have zb:B b:=by
    rcases hb with rfl|hb
    ·exact z
    ·exact k.cl a o q z b hb
   refine u.keep b v g (V7 zb) (fun y=>?_) (by simp);exact k.th b zb (e.frf b y)
  ·rw[W2 (k.cl a o q z b hb)];exact g
  ·rw[Y0 fun y=>k.tup t xs y g];exact u.tups t xs (by rw[Yh fun y=>k.tup t xs y g];exact g)
 ·rw[Y0 z] at q;refine(x a o q).stay (fun _ _ _ g=>g) (fun b g=>?_) (fun t xs g=>?_)
  ·rw[Y0 fun y=>by rw[Fx k e u y] at g;cases g];exact g
  ·rw[Y0 fun y=>by rw[Fx k e u y] at g;cases g];exact g
end
theorem D8(h:∀ b,B b->H1 b=none):hide B (X8 B H H1)=H1:=funext fun b=>by
 by_cases z:B b
 ·rw[V7 z,h b z]
 ·rw[Yh z,Y0 z]
inductive spF(sp:Sp)(vs:List V)(H:Hp)(Q:VK)(E:XK):Prop where
 | mk(B:Addr->Prop)(_:R9 B H)(_:sp vs (hide B H) (fun v H1=>(∀ b,B b->H1 b=none)->Q v (X8 B H H1)) (fun c o H1=>E c o (X8 B H H1)))
theorem FnOk.frame{P:Program}{w:World}{K:Frag}{mg:Str->Option Value}{base:Heap}{k:Nat}{f:Addr}{fd:FuncData}{ps:List Str}{sp:Sp}(F:FnOk P w K mg base (CX1 P w) k f fd ps sp):FnOk P w K mg base (CX1 P w) k f fd ps (spF sp):=by
 refine⟨fun vs H Q E ⟨B,_,h⟩=>F.len vs _ _ _ h,fun A outer s H args us vs Q E hr he hb hv ⟨B,ok,h⟩=>?_⟩;refine codeAny_mono (F.run A outer s (hide B H) args us vs _ _ hr (zd8 ok he) hb hv h) fun r s' c=>?_;cases r with
 | ok d =>
   cases d with
   | ret u =>
     obtain⟨v,H',c1,c2,c3,c4,c5,c6⟩:=c;exact⟨v,_,c1,c2,Gv ok he c3,Ks ok he c3 c4,c5,c6 fun b z=>Fx ok he c3 z⟩
   | _=>exact c
 | error e =>
   obtain⟨a,T,cls,H',e1,c1,c2,c3,c4,c5,c6⟩:=c;refine⟨a,T,cls,_,e1,c1,c2,Gv ok he c3,Ks ok he c3 c4,?_,c6⟩;obtain⟨f1,f2,f3,f4,f5⟩:=c5;have nb:∀ {x:Addr},s.heap.get? x=none->H' x=none->X8 B H H' x=none:=fun {x} hx hn=>by
    by_cases z:B x
    ·cases q:H x with
     | none=>exact absurd q (ok.th x z)
     | some o =>
       obtain⟨ob,hob⟩:=Gu (he.hok x o q);rw[hx] at hob;cases hob
    ·rw[Y0 z];exact hn
   exact⟨f1,f2,f3,nb f2 f4,nb f3 f5⟩
inductive zff(nu:List Int)(n:Nat):Sea->Prop where
 | nil {S:Sea} (e:S.std=[]) (o:SOk nu n S):zff nu n S
 | snoc {S0 S:Sea} (h:zff nu n S0) (st:Oq S0 S) (o:SOk nu n S):zff nu n S
theorem Sh(e:Same H H'):Same (hide B H) (hide B H'):=fun b o q=>by
 by_cases h:B b
 ·rw[V7 h] at q;cases q
 ·rw[Yh h] at q ⊢;exact e _ _ q
theorem Br(k:∀ x o,H x=some o->¬ B x->H' x=some o)(hb:∀ x,B' x->B x\/H x=none):Same (hide B H) (hide B' H'):=fun b o q=>by
 by_cases h:B b
 ·rw[V7 h] at q;cases q
 ·rw[Yh h] at q;have:¬ B' b:=fun z=>by
   rcases hb b z with y|y
   ·exact h y
   ·rw[q] at y;cases y
  rw[Yh this];exact k b o q h
theorem Fy(h:∀ b,B b->(∃ xs,H b=some (.lst xs))\/∃ kvs,H b=some (.dK kvs)):R9 B H:=by
 refine⟨fun b z e=>?_,fun a o e z dx hd=>?_,fun a b e z=>?_,fun t xs z e=>?_⟩
 ·rcases h b z with ⟨_,q⟩|⟨_,q⟩
  ·rw[e] at q;cases q
  ·rw[e] at q;cases q
 ·rcases h a z with ⟨_,q⟩|⟨_,q⟩
  ·rw[e] at q;cases q;cases hd
  ·rw[e] at q;cases q;cases hd
 ·rcases h b z with ⟨_,q⟩|⟨_,q⟩
  ·rw[e] at q;cases q
  ·rw[e] at q;cases q
 ·rcases h t z with ⟨_,q⟩|⟨_,q⟩
  ·rw[e] at q;cases q
  ·rw[e] at q;cases q
theorem Zw.keep0(h:Zw ca H A S)(hn:∀ x∈A.fp,∀ o,H x=some o->H' x=some o)(kt:∀ t xs,H t=some (.tup xs)->H' t=some (.tup xs))(ki:∀ x c e f,H x=some (.ins c e f)->H' x=some (.ins c e f))(hc:S.cur=none)(ho:S.old=[])(hs:∀ x∈S.std,x.2=none):Zw ca H' A S:=by
 obtain⟨⟨dx,v,a1,a2⟩,b,c,⟨kvs0,d1,d2⟩,⟨vs,f1,f2⟩,⟨us,g1,g2⟩,nd,np⟩:=h;have hp:A.p∈A.fp:=by simp[SAd.fp]
 have hdr:A.dr∈A.fp:=by simp[SAd.fp]
 have hlr:A.lr∈A.fp:=by simp[SAd.fp]
 have hld:A.ld∈A.fp:=by simp[SAd.fp]
 have hda:A.da∈A.fp:=by simp[SAd.fp]
 have hls:A.ls∈A.fp:=by simp[SAd.fp]
 have hlt:A.lt∈A.fp:=by simp[SAd.fp]
 obtain⟨⟨dxr,kvr,r1,r2,r3⟩,ndr⟩:=b;obtain⟨⟨dxl,l1⟩,l2,l3⟩:=id c;rw[hc] at a2;rw[ho] at f2;refine⟨⟨dx,v,hn _ hp _ a1,by rw[hc];exact a2⟩,⟨⟨dxr,kvr,ki _ _ _ _ r1,hn _ hdr _ r2,r3.mono kt⟩,ndr⟩,c.keep (fun o e=>?_) (hn _ hlr) (hn _ hld) kt,⟨kvs0,hn _ hda _ d1,d2⟩,⟨vs,hn _ hls _ f1,by rw[ho];cases f2;exact .nil⟩,⟨us,hn _ hlt _ g1,KeepI.none kt hs g2⟩,nd,np⟩;rw[l1] at e;cases e;exact ki _ _ _ _ l1
theorem Zw.hide0(h:Zw ca H A S)(hb:∀ b,B b->b∉A.fp/\((∃ xs,H b=some (.lst xs))\/∃ kvs,H b=some (.dK kvs)))(hc:S.cur=none)(ho:S.old=[])(hs:∀ x∈S.std,x.2=none):Zw ca (hide B H) A S:=by
 refine h.keep0 (fun x hx o e=>?_) (fun t xs e=>?_) (fun x c d f e=>?_) hc ho hs
 ·rw[Yh fun z=>(hb x z).1 hx];exact e
 ·refine(Yh fun z=>?_).trans e;rcases(hb t z).2 with ⟨_,q⟩|⟨_,q⟩
  ·rw[e] at q;cases q
  ·rw[e] at q;cases q
 ·refine(Yh fun z=>?_).trans e;rcases(hb x z).2 with ⟨_,q⟩|⟨_,q⟩
  ·rw[e] at q;cases q
  ·rw[e] at q;cases q
structure D22(nu:List Int)(D:Wg):Prop where
 aw:∀ i n,D≠.away i n
 dr:∀ ms,D=.draw ms->ms=[]
 sm:Kr D
 en:∀ k g c,D=.enrol k g c->k∈nu\/badI k g c
section
variable{B:Addr->Prop}{H H' H1 H2:Hp}{b:Addr}{o:HO}
theorem D9(h:Same (hide B H) H2):Same H (X8 B H H2):=fun x o e=>by
 by_cases z:B x
 ·rw[W2 z];exact e
 ·rw[Y0 z];exact h _ _ (by rw[Yh z];exact e)
theorem Gw(g:∀ b,B b->H2 b=none):Same H2 (X8 B H H2):=fun x o e=>by
 by_cases z:B x
 ·rw[g x z] at e;cases e
 ·rw[Y0 z];exact e
end
def B22(d lp ll ln le:Addr):Addr->Prop:=fun x=>x=d\/x=lp\/x=ll\/x=ln\/x=le
structure zkb(ca:CA)(nu:List Int)(d lp ll ln le:Addr)(A:SAd)(S:Sea)(n:Nat)(H:Hp):Prop where
 sea:Zw ca (hide (B22 d lp ll ln le) H) A S
 st:zjy H d lp ll S
 i:I22 S
 hi:zff nu n S
 lv:H ln=some (.lst (nu.map V.int))
 lw:∃ ys,H le=some (.lst ys)
 nl:lp≠ln/\ll≠ln
 ne:lp≠le/\ll≠le
end G
namespace L2
open PySem PySem.Spec PyProof.Rows G
theorem zbq:Wf X (.type "range") (fun xs H Q=>∃ j:Int,xs=[.int j]/\∀ r,H r=none->Q (.ref r) (upd H r (.rng 0 j))):=by
 intro pins s σ H xs us Q I r h;obtain⟨j,rfl,q⟩:=h;obtain⟨u,rfl,rx⟩:=Tg r;obtain⟨t,rfl⟩:=rx;refine call_range_1 ?_;exact⟨.ref s.heap.objs.size,_,I.laid (t':=s.toks+1+1) (fun b o e=>Heap.get?_push_of_some _ e) (ztb _) (show Ym X.prog X.w _ _ _ (.rng 0 j) from⟨_,_,_,Heap.get?_push_size _ rfl⟩),rfl,q _ (I.hok.fresh (ztb _))⟩
def Ca(lo:Int)(n:Nat):List V:=(List.range n).map fun i=>V.int (lo+(i:Nat))
theorem Cb:∀ {n k:Nat} {us:List Value},us.length=n->(∀ (j:Nat) v,us[j]?=some v->RelV (f (k+j)) v)->Vals ((List.range' k n).map f) us
 | 0,k,[],_,_=>.nil
 | n+1,k,u :: us,hl,h=>by
   rw[List.range'_succ,ztf];refine .cons (h 0 u rfl) (Cb (by simpa using hl) fun j v e=>?_);have:=h (j+1) v e;rw[show k+(j+1)=k+1+j by omega] at this;exact this
theorem Jz(hc:X.calm=true):Wf X (.type "list") (fun xs H Q=>∃ (p:Addr) (lo hi:Int),xs=[.ref p]/\H p=some (.rng lo hi)/\(-(2 ^ 62)<=lo/\lo<2 ^ 62/\-(2 ^ 62)<=hi/\hi<2 ^ 62)/\(hi-lo).toNat<=2 ^ 24/\(hi-lo).toNat<=sizeLine/\∀ l,H l=none->Q (.ref l) (upd H l (.lst (Ca lo (hi-lo).toNat)))):=by
 intro pins s σ H xs us Q I r h;obtain⟨p,lo,hi,rfl,hp,⟨h1,h2,h3,h4⟩,h5,h6,q⟩:=h;obtain⟨u,rfl,rx⟩:=Tg r;cases rx;obtain⟨t,u,v,e⟩:=I.hok p _ hp;have e2:Builtin.Range.rangeSize lo hi 1=(((hi-lo).toNat:Nat):Int):=by rw[rangeSize_one];split<;>omega
 refine call_list_range (I.ok.hd hc) (show IsRange s.heap p lo hi 1 t u v from e) (small_one h1 h2 h3 h4) e2 h5 fun h' tk acc' c' hk hS' hacc=>?_;have hv:Vals (Ca lo (hi-lo).toNat) acc'.toList:=by
  unfold Ca;rw[List.range_eq_range'];refine Cb (by rw[Array.length_toList];exact hacc.1) fun j v hj=>?_;obtain⟨tk,rfl⟩:=hacc.2 j v (by simpa using hj);rw[Nat.zero_add,Int.mul_one];exact⟨tk,rfl⟩
 have hz:(Ca lo (hi-lo).toNat).length<=sizeLine:=by unfold Ca;rw[zs3,zt0];exact h6
 exact⟨.ref s.heap.objs.size,_,I.laid (t':=tk) hk (ztb _) (show Ym X.prog X.w _ h' _ (.lst (Ca lo (hi-lo).toNat)) from⟨hz,acc'.toList,c',hv,by simpa using hS'⟩),rfl,q _ (I.hok.fresh (ztb _))⟩
end L2
namespace G
open PySem PySem.Spec PyProof.Rows L2
def DrX(S0 S:Sea):Prop:=∀ d y,S.std=S0.std++[(d,y)]->(d.1=("draw up":Str)/\S0.cur=none)\/(d.1≠("draw up":Str)/\S0.cur.isSome=S.cur.isSome)
inductive zab(E:Sea->Prop)(nu:List Int)(n:Nat):Sea->Prop where
 | nil {S:Sea} (e:S.std=[]) (o:SOk nu n S) (x:E S):zab E nu n S
 | snoc {S0 S:Sea} (h:zab E nu n S0) (st:Oq S0 S) (dr:DrX S0 S) (o:SOk nu n S) (x:E S):zab E nu n S
def zi3(r o:Int)(dr:Bool)(lp lo ll:Addr):List (Key×V):=[(.inr "rounds",.int r),(.inr "over",.int o),(.inr "drawn",.bl dr),(.inr "people",.ref lp),(.inr "out",.ref lo),(.inr "log",.ref ll)]
structure zjz(H:Hp)(d lp lo ll:Addr)(S:Sea):Prop where
 dd:H d=some (.dK (zi3 S.len S.led.length S.cur.isSome lp lo ll))
 pp:H lp=some (.lst ((S.ppl.map (·.1)).map V.int))
 oo:∃ ots,H lo=some (.lst ots)/\Z0 H ots (S.out.map oiV)
 gg:∃ lts,H ll=some (.lst lts)/\Z0 H lts (S.std.map fun x=>Wo x.1)
 n1:lp≠lo
 n2:lp≠ll
 n3:lo≠ll
def B23(d lp lo ll:Addr)(X:Addr->Prop):Addr->Prop:=fun x=>x=d\/x=lp\/x=lo\/x=ll\/X x
structure zkc(ca:CA)(E:Sea->Prop)(nu:List Int)(d lp lo ll:Addr)(X:Addr->Prop)(A:SAd)(S:Sea)(n:Nat)(H:Hp):Prop where
 sea:Zw ca (hide (B23 d lp lo ll X) H) A S
 st:zjz H d lp lo ll S
 hi:zab E nu n S
 xs:∀ x,X x->∃ ys,H x=some (.lst ys)
 nx:∀ x,X x->x≠lp/\x≠lo/\x≠ll
structure D23(nu:List Int)(j:Nat)(D:Wg):Prop where
 dr:∀ ms,D=.draw ms->ms=[]
 sm:Kr D
 en:∀ k g c,D=.enrol k g c->nu[j]?=some k/\1<=g/\g<=9/\1<=c/\c<=99
theorem zi4(h0:0<=j)(h8:j<7):∃ t',atI ((List.replicate (4:Int).toNat [V.ref t]).flatten++[V.ref t1,.ref t2,.ref t3]) j=some (.ref t')/\(t'=t\/t'=t1\/t'=t2\/t'=t3):=by
 obtain⟨k,rfl⟩:∃ k:Nat,j=(k:Int):=⟨j.toNat,by omega⟩
 match k,(show k<7 by omega) with
 | 0,_=>exact⟨_,rfl,.inl rfl⟩
 | 1,_=>exact⟨_,rfl,.inl rfl⟩
 | 2,_=>exact⟨_,rfl,.inl rfl⟩
 | 3,_=>exact⟨_,rfl,.inl rfl⟩
 | 4,_=>exact⟨_,rfl,.inr (.inl rfl)⟩
 | 5,_=>exact⟨_,rfl,.inr (.inr (.inl rfl))⟩
 | 6,_=>exact⟨_,rfl,.inr (.inr (.inr rfl))⟩
inductive Mf(K:Frag)(vs:List V)(H:Hp)(Q:VK)(_:XK):Prop where
 | mk(b:Addr)(ns:List Int)(cell:Int)(most mixed:Nat)(_:vs=[.int cell,.ref b,.int most,.int mixed])(_:H b=some (.lst (ns.map V.int)))(_:2<=ns.length)(_:ns.length<=100)(_:ns.Nodup)(_:(∀ n∈ns,1<=n/\n<=99))(_:most<=100)(_:mixed<=1)(_:∀ l ts ms H',H' l=some (.lst ts)->Z0 H' ts (ms.map pV)->ms.length<=most->zdw ms->Same H H'->H l=none->Q (.ref l) H')
inductive Gx(K:Frag)(vs:List V)(H:Hp)(Q:VK)(_:XK):Prop where
 | mk(b:Addr)(ns:List Int)(cell:Int)(mixed:Nat)(_:vs=[.int cell,.ref b,.int mixed])(_:H b=some (.lst (ns.map V.int)))(_:2<=ns.length)(_:ns.length<=100)(_:ns.Nodup)(_:(∀ n∈ns,1<=n/\n<=99))(_:mixed<=1)(_:∀ t l ts (ms:List P3) H',H' t=some (.tup [.str "draw up",.ref l])->H' l=some (.lst ts)->Z0 H' ts (ms.map pV)->ms.length<=100->(∀ m∈ms,Ua m)->Same H H'->H t=none->H l=none->Q (.ref t) H')
theorem Cc(h:¬ badM m):Ua m:=by
 unfold badM at h;exact⟨Ya ⋯ ⋯,Ya ⋯ ⋯,Ya ⋯ ⋯⟩
structure E24(S:Sea):Prop where
 ppl:S.ppl=[]
 out:S.out=[]
 st:(S.cur=none/\S.std=[])\/∃ s,S.cur=some s/\S.std=[((("draw up":Str),(s.ms.length:Int),atV S),none)]
 gv:∀ s,S.cur=some s\/s∈S.old->s.gv=List.replicate s.ms.length V.non
def zac(D:Wg):Prop:=(∃ ms,D=.draw ms)\/D=.close\/D=.back
theorem Kt(h:S.ppl=[])(ms:List P3):mayS S ms=ms.map fun _=>[]:=by
 unfold mayS;refine zuf fun m _=>?_;unfold Jx;rw[h];rfl
theorem Gy{ms:List P3}{gs:List V}(F:Yl (ms.map fun _=>[]) gs):gs=List.replicate ms.length V.non:=by
 have hl:=F.len;rw[zs3] at hl;rw[<- hl];refine List.eq_replicate_iff.mpr ⟨rfl,fun x hx=>?_⟩;rcases F.one x hx with e|⟨n,e⟩
 ·exact e
 ·subst e;obtain⟨k,hk⟩:=List.mem_iff_getElem?.mp hx;obtain⟨r,hr,hn⟩:=F.may k n hk;rw[zta] at hr;obtain⟨_,_,rfl⟩:=zuc.mp hr;cases hn
theorem E24.after(h:E24 S)(so:SOk [] n S)(g:A7 S D)(af:Ux H' S D S' v)(hd:zac D):E24 S'/\SOk [] (n+1) S':=by
 by_cases hb:D=.back
 ·subst hb;cases af with
  | @back S0 dd t hs ht hst =>
    obtain⟨d',a1,a2,a3,a4,a5,a6⟩:=id hst;rcases h.st with ⟨_,e⟩|⟨s,e1,e2⟩
    ·exact absurd e g
    ·rw[e2] at hs a1;have k1:S'.std=[]/\S'.cur=none/\d'.1=("draw up":Str):=by
      cases hq:S'.std with
      | nil =>
        rw[hq,zu2] at a1;have e:=(List.cons.inj a1).1;exact⟨rfl,(Prod.mk.inj e).2.symm,by rw[<- (Prod.mk.inj e).1]⟩
      | cons x r=>rw[hq] at a1;have:=congrArg List.length a1;simp at this
     obtain⟨k1,k2,k3⟩:=k1;have w1:("draw up":Str)≠"enrol":=by decide +kernel
     have w2:("draw up":Str)≠"away":=by decide +kernel
     have k4:S'.ppl=S.ppl/\S'.out=S.out:=by
      rcases a2 with ⟨x,_⟩|⟨x,_⟩|⟨_,x,y⟩
      ·exact absurd (k3.symm.trans x) w1
      ·exact absurd (k3.symm.trans x) w2
      ·exact⟨x,y⟩
     refine⟨⟨k4.1.trans h.ppl,k4.2.trans h.out,.inl ⟨k2,k1⟩,fun s' hs'=>?_⟩,⟨fun s' hs'=>?_,?_,?_,?_,?_,?_,?_,?_,?_,?_⟩⟩
     ·rcases hs' with z|z
      ·rw[k2] at z;cases z
      ·rw[<- a6] at z;exact h.gv s' (.inr z)
     ·rw[k2] at hs';cases hs'
     ·rw[k4.1];exact so.nd
     ·rw[k4.1];exact so.ppl
     ·rw[k4.1];exact so.few
     ·rw[<- a5,<- a6];exact so.led
     ·rw[<- a6];exact so.old
     ·rw[<- a5,<- a3,<- a4];exact so.len
     ·intro z;exact absurd k2 z
     ·rw[k4.2,k1,h.out];exact⟨ztt _,ztt _⟩
     ·intro s' hs';rcases hs' with z|z
      ·rw[k2] at z;cases z
      ·rw[<- a6] at z;have:=so.gp s' (.inr z);exact⟨by omega,this.2⟩
 ·obtain⟨o',_⟩:=zd0 so g af hb (fun k gr c e=>by subst e;rcases hd with ⟨_,e⟩|e|e<;>cases e);refine⟨?_,o'⟩;cases af with
  | enrol k gr c=>rcases hd with ⟨_,e⟩|e|e<;>cases e
  | awayN hh hl=>rcases hd with ⟨_,e⟩|e|e<;>cases e
  | awayF hh hp hl=>rcases hd with ⟨_,e⟩|e|e<;>cases e
  | awayC hh hp hl tl CR=>rcases hd with ⟨_,e⟩|e|e<;>cases e
  | @draw ms gv l hl F T =>
    have hn:S.cur=none:=g.2.1;have hs:S.std=[]:=by
     rcases h.st with ⟨_,e⟩|⟨s,e,_⟩
     ·exact e
     ·rw[hn] at e;cases e
    refine⟨h.ppl,h.out,.inr ⟨_,rfl,?_⟩,fun s' hs'=>?_⟩
    ·show S.std++[_]=_;rw[hs,hn];rfl
    ·rcases hs' with z|z
     ·cases z;rw[Kt h.ppl] at F;exact Gy F
     ·exact h.gv s' (.inr z)
  | @close s hs =>
    refine⟨h.ppl,h.out,.inl ⟨rfl,rfl⟩,fun s' hs'=>?_⟩;rcases hs' with z|z
    ·cases z
    ·rcases zth.mp z with z|z
     ·exact h.gv s' (.inr z)
     ·rw[zs9.mp z];exact h.gv s (.inl hs)
  | back hh ht hs=>exact absurd rfl hb
theorem E24.step(h:E24 S)(hne:S.std≠[]):∃ S0,Oq S0 S:=by
 rcases h.st with ⟨_,e⟩|⟨s,e1,e2⟩
 ·exact absurd e hne
 ·exact⟨{ S with std:=[],cur:=none },(("draw up":Str),(s.ms.length:Int),atV S),e2,.inr (.inr ⟨rfl,rfl,rfl⟩),rfl,rfl,rfl,rfl⟩
inductive Sz(ok:Addr->Prop)(H:Hp):List V->List Z3->Prop where
 | nil:Sz ok H [] []
 | cons {l:Addr} {ts:List V} {ls:List V} {s:Z3} {ss:List Z3} (h:H l=some (.lst ts)) (q:Z0 H ts (s.ms.map pV)) (o:ok l) (r:Sz ok H ls ss):Sz ok H (.ref l :: ls) (s :: ss)
section
variable{ok ok':Addr->Prop}{H H':Hp}
theorem Sz.keep(k:∀ b o,H b=some o->ok b->H' b=some o/\ok' b)(kt:∀ t xs,H t=some (.tup xs)->H' t=some (.tup xs)):∀ {ls:List V} {ss:List Z3},Sz ok H ls ss->Sz ok' H' ls ss
 | _,_,.nil=>.nil
 | _,_,.cons h q o r=>.cons (k _ _ h o).1 (q.mono kt) (k _ _ h o).2 (Sz.keep k kt r)
theorem Sz.length:∀ {ls:List V} {ss:List Z3},Sz ok H ls ss->ls.length=ss.length
 | _,_,.nil=>rfl
 | _,_,.cons _ _ _ r=>congrArg (·+1) (Sz.length r)
theorem Sz.snoc(h:H l=some (.lst ts))(q:Z0 H ts (s.ms.map pV))(o:ok l):∀ {ls:List V} {ss:List Z3},Sz ok H ls ss->Sz ok H (ls++[.ref l]) (ss++[s])
 | _,_,.nil=>.cons h q o .nil
 | _,_,.cons h' q' o' r=>.cons h' q' o' (Sz.snoc h q o r)
theorem Sz.get:∀ {ls:List V} {ss:List Z3} {i:Nat} {s:Z3},Sz ok H ls ss->ss[i]?=some s->∃ l ts,ls[i]?=some (.ref l)/\H l=some (.lst ts)/\Z0 H ts (s.ms.map pV)/\ok l
 | _,_,_,_,.nil,e=>by cases e
 | _,_,0,_,.cons h q o r,e=>by cases e;exact⟨_,_,rfl,h,q,o⟩
 | _,_,i+1,_,.cons h q o r,e=>Sz.get (i:=i) r e
theorem zbr(k:∀ b o,H b=some o->ok b->H' b=some o/\ok' b)(kt:∀ t xs,H t=some (.tup xs)->H' t=some (.tup xs))(h:zbi ok H v x):zbi ok' H' v x:=by
 cases x with
 | none=>exact h
 | some ms =>
   obtain⟨l,ts,e,a,b,c⟩:=h;exact⟨l,ts,e,(k _ _ a c).1,b.mono kt,(k _ _ a c).2⟩
end
def Si(r:Int)(lv:Addr)(v:V):List (Key×V):=[(.inr "rounds",.int r),(.inr "over",.ref lv),(.inr "listed",v)]
structure Ml(ok:Addr->Prop)(H:Hp)(d lv:Addr)(v:V)(S:Sea):Prop where
 dd:H d=some (.dK (Si S.len lv v))
 vv:∃ ls,H lv=some (.lst ls)/\Sz ok H ls S.old
 li:zbi ok H v (S.cur.map (·.ms))
theorem Ml.keep(h:Ml ok H d lv v S)(hd:∀ o,H d=some o->H' d=some o)(hv:∀ o,H lv=some o->H' lv=some o)(k:∀ b o,H b=some o->ok b->H' b=some o/\ok' b)(kt:∀ t xs,H t=some (.tup xs)->H' t=some (.tup xs)):Ml ok' H' d lv v S:=by
 obtain⟨a,⟨ls,b,c⟩,e⟩:=h;exact⟨hd _ a,⟨ls,hv _ b,c.keep k kt⟩,zbr k kt e⟩
theorem Ml.same(h:Ml ok H d lv v S)(e:Same H H'):Ml ok H' d lv v S:=h.keep (fun _=>e _ _) (fun _=>e _ _) (fun _ _ z o=>⟨e _ _ z,o⟩) (fun _ _=>e _ _)
theorem Cd(h:zbi ok H v x):decide (v=V.non)=!x.isSome:=by
 cases x with
 | none=>exact zs6 h
 | some ms =>
   obtain⟨l,ts,rfl,_⟩:=h;exact ztc nofun
inductive zad(K:Frag)(vs:List V)(H:Hp)(Q:VK)(_:XK):Prop where
 | mk(ok:Addr->Prop)(d lv t:Addr)(v:V)(S:Sea)(D:Wg)(n:Nat)(_:vs=[.ref d,.ref t])(_:Ml ok H d lv v S)(_:Xu (fun _=>True) H t D)(_:zac D)(_:(∀ ms,D=.draw ms->ms.length<=100))(_:E24 S)(_:SOk [] n S)(_:n<=90)(_:∀ H',Same H H'->Q (.str (dueW S D)) H')
inductive Ce(K:Frag)(vs:List V)(H:Hp)(Q:VK)(_:XK):Prop where
 | mk(ok:Addr->Prop)(d lv t:Addr)(v w:V)(S S':Sea)(D:Wg)(n:Nat)(_:vs=[.ref d,.ref t,w])(_:Ml ok H d lv v S)(_:Xu (fun _=>True) H t D)(_:zac D)(_:(∀ ms,D=.draw ms->ms.length<=20))(_:E24 S)(_:SOk [] n S)(_:Ux H S D S' w)(_:∀ H',Same H H'->Q (.bl true) H')
inductive Ku(K:Frag)(ca:CA)(vs:List V)(H:Hp)(Q:VK)(_:XK):Prop where
 | mk(A:SAd)(S:Sea)(ok:Addr->Prop)(d lv:Addr)(v:V)(n:Nat)(_:vs=[.ref A.p,.ref d])(_:Zw ca H A S)(_:Ml ok H d lv v S)(_:E24 S)(_:SOk [] n S)(_:n<=100)(_:∀ H',Same H H'->Q (.bl true) H')
theorem Cf(n:Nat):W9 (List.replicate n V.non)=List.range n:=by
 unfold W9;rw[zuw];refine List.filter_eq_self.mpr fun i hi=>zs6 ?_;rw[List.getElem?_replicate,if_pos (zt7.mp hi)]
theorem zd9(up:ps.Pairwise (· < ·))(lt:∀ p∈ps,p<n)(cnt:ps.length=n):ps=List.range n:=by
 have key:∀ (k:Nat) (ps:List Nat),ps.Pairwise (· < ·)->(∀ p∈ps,k<=p/\p<k+ps.length)->ps=List.range' k ps.length:=by
  intro k ps
  induction ps generalizing k with
  | nil=>intro _ _;rfl
  | cons p ps ih =>
    intro up h;rw[List.pairwise_cons] at up;have hge:∀ (q:Nat) (qs:List Nat),(q :: qs).Pairwise (· < ·)->∀ x,x∈(q :: qs).getLast?->q+qs.length<=x:=by
     intro q qs
     induction qs generalizing q with
     | nil=>intro _ x hx;simp at hx;show q+0<=x;omega
     | cons r rs ih2 =>
       intro hp x hx;rw[List.pairwise_cons] at hp;have h1:=ih2 r hp.2 x (by simpa [List.getLast?_cons_cons] using hx);have h2:=hp.1 r ztn;show q+(rs.length+1)<=x;omega
    have hp0:=(h p ztn).1;have hpk:p=k:=by
     cases hq:(p :: ps).getLast? with
     | none=>simp at hq
     | some x =>
       have h1:=hge p ps (List.pairwise_cons.mpr up) x hq;have h2:=(h x (List.mem_of_getLast? hq)).2;rw[ztk] at h2;omega
    subst hpk;rw[ztk,List.range'_succ]
    congr 1
    refine ih (p+1) up.2 fun q hq=>?_;have h1:=up.1 q hq;have h2:=(h q (ztj _ hq)).2;rw[ztk] at h2;omega
 rw[List.range_eq_range',<- cnt];exact key 0 ps up fun p hp=>⟨ztt _,by have:=lt p hp;omega⟩
theorem Bs{ms:List P3}{ps:List Nat}{rs:List Int}(h:Kh (ms.map fun _=>[]) (List.replicate ms.length V.non) ps rs):ps=List.range ms.length/\rs=[]:=by
 have hr:rs=[]:=by
  cases rs with
  | nil=>rfl
  | cons n rs =>
    obtain⟨p,_,r,hr,hn⟩:=(h.all n).mp ztn;rw[zta] at hr;obtain⟨_,_,rfl⟩:=zuc.mp hr;cases hn
 have hc:=h.cnt;rw[hr,Cf,zt0] at hc;exact⟨zd9 h.up (fun p hp=>by have:=h.lt p hp;rwa [zs3] at this) (by simpa using hc),hr⟩
theorem Bt{ms:List P3}{gs:List V}:Dd (ms.map fun _=>[]) gs:=fun p hp q k w hf=>by
 obtain⟨n,hn⟩:=hf;obtain⟨⟨r,hr,hn⟩,_⟩:=hn;rw[zta] at hr;obtain⟨_,_,rfl⟩:=zuc.mp hr;cases hn
theorem zbs(s:Z3)(h:s.gv=List.replicate s.ms.length V.non):(Xt s).map Qv=s.ms.map fun m=>[.int m.1,.int m.2.1,.int m.2.2,.non]:=by
 unfold Xt;rw[h];have:∀ ms:List P3,(List.zipWith Dq ms (List.replicate ms.length V.non)).map Qv=ms.map fun m=>[.int m.1,.int m.2.1,.int m.2.2,.non]:=by
  intro ms
  induction ms with
  | nil=>rfl
  | cons m ms ih =>
    rw[ztk,zul,List.zipWith_cons_cons,ztf,ih];rfl
 exact this s.ms
theorem zea{K:Frag}{A:SAd}{H:Hp}{b:Addr}{xs:List V}{B:Addr->Prop}(h:Rk K A H b xs)(nb:∀ o,H b=some o->¬ B b):Rk K A (hide B H) b xs:=by
 rcases h with ⟨h|⟨u,h⟩,n⟩|h
 ·exact .inl ⟨.inl ((Yh (nb _ h)).trans h),n⟩
 ·exact .inl ⟨.inr ⟨u,(Yh (nb _ h)).trans h⟩,n⟩
 ·exact .inr h
def B24(d lv lc:Addr):Addr->Prop:=fun x=>x=d\/x=lv\/x=lc
structure Nn(K:Frag)(ca:CA)(d lv lc b:Addr)(cs ns:List Int)(v:V)(A:SAd)(S:Sea)(n:Nat)(H:Hp):Prop where
 sea:Zw ca (hide (B24 d lv lc) H) A S
 st:Ml (fun x=>x∉A.fp/\¬ B24 d lv lc x) H d lv v S
 e:E24 S
 so:SOk [] n S
 cl:H lc=some (.lst (cs.map V.int))
 sc:Rk K A (hide (B24 d lv lc) H) b (ns.map V.int)
section
variable{K:Frag}{ca:CA}{d lv lc b:Addr}{cs ns:List Int}{v:V}{A:SAd}{S:Sea}{n:Nat}{H H':Hp}
theorem Nn.same(h:Nn K ca d lv lc b cs ns v A S n H)(e:Same H H'):Nn K ca d lv lc b cs ns v A S n H' :=
 ⟨h.sea.same (Sh e),h.st.same e,h.e,h.so,e _ _ h.cl,h.sc.fr (.of (Sh e))⟩
theorem Nn.mono(h:Nn K ca d lv lc b cs ns v A S n H)(e:n<=m):Nn K ca d lv lc b cs ns v A S m H:=⟨h.sea,h.st,h.e,h.so.mono e,h.cl,h.sc⟩
theorem Nn.hok(h:Nn K ca d lv lc b cs ns v A S n H):R9 (B24 d lv lc) H:=Fy fun x z=>by
 rcases z with rfl|rfl|rfl
 ·exact .inr ⟨_,h.st.dd⟩
 ·obtain⟨_,y,_⟩:=h.st.vv;exact .inl ⟨_,y⟩
 ·exact .inl ⟨_,h.cl⟩
theorem Nn.out(h:Nn K ca d lv lc b cs ns v A S n H)(z:H x=none):¬ B24 d lv lc x:=fun y=>h.hok.th x y z
end
theorem Cg(c:Int)(hi:i<40)(hj:j<40)(h:Hm c i=Hm c j):i=j:=by
 unfold Hm at h;have hs:Ff c=1\/Ff c=2\/Ff c=5\/Ff c=10\/Ff c=50\/Ff c=97\/Ff c=98:=by
  unfold Ff;have h0:0<=c%7:=by omega
  have h1:c%7<7:=by omega
  generalize c%7=r at h0 h1;obtain⟨k,rfl⟩:∃ k:Nat,r=k:=⟨r.toNat,by omega⟩;rw[ztq];have hk:k<7:=by omega
  match k,hk with
  | 0,_=>simp
  | 1,_=>simp
  | 2,_=>simp
  | 3,_=>simp
  | 4,_=>simp
  | 5,_=>simp
  | 6,_=>simp
 rcases hs with e|e|e|e|e|e|e<;>rw[e] at h<;>omega
theorem J0(c:Int)(hm:m<=40):(Ss c m).Nodup:=by
 unfold Ss;rw[List.nodup_iff_pairwise_ne,List.pairwise_map];refine List.Pairwise.imp_of_mem (fun {i j} hi hj (hne:i≠j) z=>?_) (List.nodup_iff_pairwise_ne.mp List.nodup_range);exact hne (Cg c (by have:=zt7.mp hi;omega) (by have:=zt7.mp hj;omega) z)
end G
namespace K24
open PySem PySem.Spec PyProof.Rows L2 G
def top(i:Nat):Stmt:=PySem.Challenge.pw_whistlebook_k24_draw_up_and_close.main.body.getD i (.Pass ⟨0,0,0,0⟩)
structure Ad where
 zlr:Addr
 zko:Addr
 zks:Addr
 zkl:Addr
 zkn:Addr
 zkm:Addr
 zk8:Addr
 zk0:Addr
 zkq:Addr
 zk4:Addr
 zkz:Addr
 zku:Addr
 zlh:Addr
 zk9:Addr
 zkk:Addr
 zkr:Addr
 zkf:Addr
 zkj:Addr
 zkh:Addr
 zkd:Addr
abbrev ca(a:Ad):CA:=⟨a.zkd,a.zkh,a.zkj,a.zkf,a.zko,a.zks,a.zkl,a.zkn,a.zkm,a.zk8,a.zk0,a.zkq,a.zk4,a.zkz,a.zku,a.zlh,a.zk9,a.zkk,a.zkr⟩
structure Tx(K:Frag)(mg:Str->Option Value)(a:Ad):Prop where
 zlb:Cls K a.zkf
 zma:Xg K a.zkf "rounds"
 zlz:Xg K a.zkf "meetings"
 zla:Cls K a.zkj
 zll:Xg K a.zkj "entries"
 zky:Cls K a.zkh
 zmn:Xg K a.zkh "listed"
 zol:Xg K a.zkh "lists"
 zmc:Xg K a.zkh "given"
 zob:Xg K a.zkh "gaps"
 zke:Cls K a.zkd
 znd:Xg K a.zkd "length"
 zo6:Xg K a.zkd "rest"
 zls:Xg K a.zkd "roster"
 zlt:Xg K a.zkd "ledger"
 zmk:Xg K a.zkd "absent"
 znh:Xg K a.zkd "sheets"
 zlf:Xg K a.zkd "sheet"
 zli:Xg K a.zkd "standing"
 zon:Rw K mg "NoSuchRound" a.zkq
 zqk:Rw K mg "OutOfRange" a.zko
 zpk:Rw K mg "TooManyMatches" a.zkm
 zqv:Rw K mg "SameClub" a.zk8
 zqd:Rw K mg "KnownReferee" a.zks
 zo2:Rw K mg "TooManyReferees" a.zkl
 zo4:Rw K mg "UnknownReferee" a.zkn
 zql:Rw K mg "SeasonOver" a.zkz
 zqy:Rw K mg "DrawnUp" a.zlh
 zpy:Rw K mg "TooManyDeeds" a.zkr
 zp9:Rw K mg "NotDrawn" a.zk9
 zqr:Rw K mg "RoundOver" a.zk4
 zqh:Rw K mg "AwayAlready" a.zku
 zom:Rw K mg "NothingToTakeBack" a.zkk
 zpt:mg "max"=none
 zk5:mg "len"=none
 znn:mg "tuple"=none
 zlx:mg "list"=none
 zmf:mg "enumerate"=none
 zln:mg "range"=none
 zn0:mg "sorted"=none
 zqu:mg "zip"=none
 zki:mg "isinstance"=none
 zo0:mg "int"=none
 zp3:mg "bool"=none
 zqp:mg "str"=none
 zmg:mg "ValueError"=none
 zqs:mg "any"=none
 zqi:mg "min"=none
 zqn:mg "BookError"=some (.ref a.zlr)
 zqg:mg "OutOfRange"=some (.ref a.zko)
 zpv:mg "KnownReferee"=some (.ref a.zks)
 zop:mg "TooManyReferees"=some (.ref a.zkl)
 zox:mg "UnknownReferee"=some (.ref a.zkn)
 zow:mg "TooManyMatches"=some (.ref a.zkm)
 zqt:mg "SameClub"=some (.ref a.zk8)
 zpx:mg "NoSuchMatch"=some (.ref a.zk0)
 zqa:mg "NoSuchRound"=some (.ref a.zkq)
 zqm:mg "RoundOver"=some (.ref a.zk4)
 zqf:mg "SeasonOver"=some (.ref a.zkz)
 zqe:mg "AwayAlready"=some (.ref a.zku)
 zqx:mg "DrawnUp"=some (.ref a.zlh)
 zqq:mg "NotDrawn"=some (.ref a.zk9)
 zoc:mg "NothingToTakeBack"=some (.ref a.zkk)
 zpu:mg "TooManyDeeds"=some (.ref a.zkr)
 gc_Ledger:mg "Ledger"=some (.ref a.zkf)
 gc_Roster:mg "Roster"=some (.ref a.zkj)
 gc_Sheet:mg "Sheet"=some (.ref a.zkh)
 gc_Season:mg "Season"=some (.ref a.zkd)
 zqo:zco K a.zlr
 ei:∀ r:Ref,r≠.noMatch->Fb K (r.cls (ca a))
 mB:∀ r:Ref,r≠.noMatch->PySem.W.mroIn K (r.cls (ca a)) (.ref a.zlr)=some true
 kit:∀ r t:Ref,r≠.noMatch->PySem.W.kitOne K (.ref (r.cls (ca a))) (.ref (t.cls (ca a)))=some (decide (r=t))
 zqz:∀ r:Ref,r≠.noMatch->PySem.W.kitOne K (.ref (r.cls (ca a))) (.type "ValueError")=some true
 zl8:∃ t,mg "MOST_NUMBER"=some (.int 999 t)
 zl1:∃ t,mg "MOST_GRADE"=some (.int 9 t)
 zly:∃ t,mg "MOST_CLUB"=some (.int 99 t)
 zlk:∃ t,mg "MOST_REFEREES"=some (.int 30 t)
 zlq:∃ t,mg "MOST_MATCHES"=some (.int 20 t)
 zl9:∃ t,mg "MOST_ROUNDS"=some (.int 60 t)
 zmx:∃ t,mg "MOST_REST"=some (.int 10 t)
 zl3:∃ t,mg "MOST_DEEDS"=some (.int 100 t)
end K24
set_option maxHeartbeats 64000000
namespace K24
open PySem PySem.Spec PyProof.Rows L2 G
local macro_rules | `(tactic| walk_at "rd")=>`(tactic| repeat (first|(refine⟨_,rfl,?_⟩)|(refine⟨_,_,rfl,rfl,?_⟩)|(refine And.intro (show CMul _ _ from Or.inr (And.intro (by decide) (by decide))) ?_)|(refine And.intro (show CMul _ _ from Or.inl (And.intro (by decide) (by decide))) ?_)|(refine And.intro (show CDiv _ _ from(And.intro (by decide) (by decide))) ?_)|(refine And.intro (show CPow _ _ from(And.intro (by decide) (And.intro (by decide) (by decide)))) ?_)|(refine And.intro (show (0:Int)<_ from(by decide)) ?_)))
local macro_rules | `(tactic| walk_at "if")=>`(tactic| dsimp only[Vb,List.set])
local macro_rules | `(tactic| walk_at "ar")=>`(tactic| (intro _ _ _ _ h;first|(cases h;subst_vars;rfl)|repeat (first|(obtain⟨h1,_⟩:=h;subst h1;rfl)|(obtain⟨_,h⟩:=h))))
section
variable{P:Program}{w:World}{K:Frag}{mg:Str->Option Value}{base:Heap}{a:Ad}{f:Addr}{fd:FuncData}
abbrev S1:Stmt:=top 2
theorem Q7:Zl ["number","club","ledger","rest","rested"] ["number","club","ledger","rest"] (Zj S1):=fnS
theorem J1(F:Fun K "met_lately" "met_lately" S1 f fd)(T:Tx K mg a)(zkt:Zt P w K mg base a.zkf "over" 1 ["self"] (Ng a.zkf))(zn3:Zt P w K mg base a.zkf "met" 1 ["self","number","club"] (zfq a.zkf)):FnOk P w K mg base (CX1 P w) 2 f fd ["number","club","ledger","rest"] (E2 a.zkf):=by
 refine F.okX Q7 ⋯ fun _ _ _ _ H _ Q E hr h=>?_;obtain⟨p,lr,ld,Rs,n,c,rest,rfl,LA,h⟩:=h;refine⟨_,(Zc (pS 4 Q7.nd (Zm (O7 rfl) (by rfl) T.zpt PyProof.Rows.boot_max (Za (Zv Ru (Yb (pv 2) T.zlb zkt (hr.mono ⋯) Zk) (pv 3)) (Za Zh Zb))))
 (Ze (Zn (Ug Ri (Yz (pv 2) T.zlb zn3 (hr.mono ⋯) Zk (Za (pv 0) (Za (pv 1) Zb))) (pv 4) (Zr _))))),?_⟩
 obtain⟨⟨dx,hp⟩,_,_⟩:=id LA;refine⟨_,rfl,p,dx,_,rfl,hp,Mb ⋯ ⋯,p,lr,ld,Rs,rfl,LA,_,rfl,_,_,rfl,rfl,_,_,rfl,?_⟩;refine⟨_,rfl,p,dx,_,rfl,hp,Mb ⋯ ⋯,_,rfl,_,rfl,p,lr,ld,Rs,n,c,rfl,LA,fun H' s'=>⟨_,rfl,_,_,rfl,rfl,h H' s'⟩⟩
abbrev Np:Stmt:=top 3
theorem X9:Zl ["referee","match","out","ledger","rest","number","grade","club","home","guest","asked","told"] ["referee","match","out","ledger","rest"] (Zj Np):=fnS
theorem Bu(F:Fun K "reasons" "reasons" Np f fd)(T:Tx K mg a)(zm5:Z4 P w K mg base "met_lately" 2 ["number","club","ledger","rest"] (E2 a.zkf)):FnOk P w K mg base (CX1 P w) 3 f fd ["referee","match","out","ledger","rest"] (Hr K a.zkf):=by
 refine F.okX X9 ⋯ fun _ _ _ _ H _ Q E hr h=>?_;obtain⟨t1,t2,p,lr,ld,Rs,n,g,c,h,gu,d,rest,o,rfl,h1,h2,LA,hq⟩:=h;refine⟨_,(Zc (pS 5 X9.nd (pI (iU K) (pv 0) Zh))
 (Zc (pS 6 X9.nd (pI (iU K) (pv 0) Zh))
 (Zc (pS 7 X9.nd (pI (iU K) (pv 0) Zh))
 (Zc (pS 8 X9.nd (pI (iU K) (pv 1) Zh))
 (Zc (pS 9 X9.nd (pI (iU K) (pv 1) Zh))
 (Zc (pS 10 X9.nd (pI (iU K) (pv 1) Zh))
 (Zc (pS 11 X9.nd (Z7 Zb))
 (Zc (Zz (Y4 (pv 2))
  (Ze (Xo (pv 11) Zs))
  Zp)
 (Zc (Zz (Zo Ri (pv 10) (pv 6) (Zr _))
  (Ze (Xo (pv 11) Zs))
  Zp)
 (Zc (Zz (PW.pt (Wl (Zo Y8 (pv 7) (pv 8) (Zr _)) (X2 (Zo Y8 (pv 7) (pv 9) (Zr _)))))
  (Ze (Xo (pv 11) Zs))
  Zp)
 (Zc (Zz (PW.pt (Wl (Y4 (pF zm5 hr (Za (pv 5) (Za (pv 8) (Za (pv 3) (Za (pv 4) Zb)))))) (X2 (Y4 (pF zm5 hr (Za (pv 5) (Za (pv 9) (Za (pv 3) (Za (pv 4) Zb)))))))))
  (Ze (Xo (pv 11) Zs))
  Zp)
 (Ze (Zn (pv 11)))))))))))))),?_⟩
 show let y1:TS:=_;let y2:TS:=Z5 _ y1;let y3:TS:=Z5 _ y2;let y4:TS:=Z5 _ y3;let y5:TS:=Z5 _ y4;let y6:TS:=Z5 _ y5;let y7:TS:=Z5 _ y6;let y8:TS:=Z5 _ y7;let y9:TS:=Z5 _ y8;let y10:TS:=Z5 _ y9;let y11:TS:=Z5 _ y10;Z5 _ y11 _ _ _;intro y1 y2 y3 y4 y5 y6 y7 y8 y9 y10 y11;refine⟨_,rfl,t1,_,_,_,rfl,rfl,SqT.of h1,(show atI [V.int n,V.int g,V.int c] 0=some _ from rfl),_,rfl,t1,_,_,_,rfl,rfl,SqT.of h1,(show atI [V.int n,V.int g,V.int c] 1=some _ from rfl),_,rfl,t1,_,_,_,rfl,rfl,SqT.of h1,(show atI [V.int n,V.int g,V.int c] 2=some _ from rfl),?_⟩;refine⟨_,rfl,t2,_,_,_,rfl,rfl,SqT.of h2,(show atI [V.int h,V.int gu,V.int d] 0=some _ from rfl),_,rfl,t2,_,_,_,rfl,rfl,SqT.of h2,(show atI [V.int h,V.int gu,V.int d] 1=some _ from rfl),_,rfl,t2,_,_,_,rfl,rfl,SqT.of h2,(show atI [V.int h,V.int gu,V.int d] 2=some _ from rfl),?_⟩;refine⟨by show 0<=sizeLine;decide,fun l hl=>?_⟩;have s1:=Zf (o:=.lst []) hl;have q1:upd H l (.lst []) l=some (.lst (([]:List Str).map V.str)):=Zd;generalize upd H l (.lst [])=H1 at s1 q1;walk_at "if";have b1:=Be o "away";have b2:=Be (decide (g<d)) "grade";have b3:=Be (decide (c=h)||decide (c=gu)) "club";refine Li (b:=o) (H0:=H) (Fh fun Q q=>⟨_,rfl,_,rfl,q⟩) hl s1 q1 ⋯ rfl (fun H2 s2 q2 _=>?_);rw[zu2] at q2;refine Li (b:=decide (g<d)) (H0:=H) (Fh fun Q q=>⟨_,rfl,_,rfl,_,_,rfl,rfl,_,rfl,q⟩) hl s2 q2 ⋯ rfl (fun H3 s3 q3 _=>?_);refine Li (b:=decide (c=h)||decide (c=gu)) (H0:=H) (Fh (Kb (fun Q q=>⟨_,rfl,_,rfl,rfl,_,rfl,Ka▸q⟩) (fun Q q=>⟨_,rfl,_,rfl,rfl,_,rfl,Ka▸q⟩))) hl s3 q3 (by rw[zs8];omega) rfl (fun H4 s4 q4 _=>?_);refine Li (b:=Ez Rs n h rest||Ez Rs n gu rest) (H0:=H) (zc3 (fun Q q=>⟨_,rfl,_,rfl,_,rfl,_,rfl,p,lr,ld,Rs,n,h,rest,rfl,LA.same s4,fun H5 s5=>⟨_,rfl,q H5 s5⟩⟩) (fun H5 s5 Q q=>⟨_,rfl,_,rfl,_,rfl,_,rfl,p,lr,ld,Rs,n,gu,rest,rfl,LA.same (s4.trans s5),fun H6 s6=>⟨_,rfl,q H6 s6⟩⟩)) hl s4 q4 (by rw[zs8,zs8];omega) rfl (fun H5 s5 q5 _=>?_);refine⟨_,rfl,hq l H5 ?_ s5 hl⟩;unfold Fg;rw[q5,List.append_assoc,List.append_assoc]
abbrev Vg:Stmt:=Zy (top 23) 0
theorem Pw:Zl ["self"] ["self"] (Zj Vg):=fnS
theorem Px(F:Fun K "__init__" "Ledger.__init__" Vg f fd)(T:Tx K mg a):FnOk P w K mg base (CX1 P w) 1 f fd ["self"] (Ao a.zkf):=by
 refine F.okX Pw ⋯ fun _ _ _ _ H _ Q E hr h=>?_;obtain⟨p,dx,rfl,hp,h⟩:=h;refine⟨_,(Zc (Yw (K:=K) rfl (pv 0) (Z7 Zb) rfl)
 (Ze (Yw (K:=K) rfl (pv 0) El rfl))),?_⟩
 refine⟨by show 0<=sizeLine;decide,fun lr hlr=>?_⟩;have np:p≠lr:=Zg hp hlr;refine⟨_,rfl,p,a.zkf,dx,[],rfl,(by rw[Zi np];exact hp),T.zlb,T.zma,⋯,?_⟩;intro ld hld;have n1:ld≠p:=fun z=>by rw[z,Zd] at hld;cases hld
 have n2:ld≠lr:=fun z=>by rw[z,Zi (Ne.symm np),Zd] at hld;cases hld
 have hld0:H ld=none:=by rw[Zi n1,Zi n2] at hld;exact hld
 refine⟨_,rfl,p,a.zkf,dx,[("rounds",.ref lr)],rfl,(by rw[Zi (Ne.symm n1),Zd];rfl),T.zlb,T.zlz,(by show 1<1000;decide),?_⟩;rw[zio];refine h lr ld _ ⟨⟨dx,Zd⟩,⟨[],?_,.nil⟩,⟨[],?_,fun n c=>rfl,ztt _⟩⟩ (fun b o e hb=>?_) hlr hld0 (Ne.symm n2)
 ·rw[Zi (Ne.symm np),Zi (Ne.symm n2),Zi (Ne.symm np),Zd]
 ·rw[Zi n1,Zd]
 ·rw[Zi hb,Zi (Zg e hld0),Zi hb,Zi (Zg e hlr)];exact e
abbrev Uz:Stmt:=Zy (top 23) 1
theorem Xd:Zl ["self","rows","at","home","guest","grade","referee"] ["self","rows"] (Zj Uz):=fnS
theorem Mm(F:Fun K "write" "Ledger.write" Uz f fd)(T:Tx K mg a):FnOk P w K mg base (CX1 P w) 1 f fd ["self","rows"] (Dk a.zkf):=by
 refine F.okX Xd ⋯ fun _ _ _ _ H _ Q E hr h=>?_;obtain⟨p,lr,ld,Rs,b,ts,rs,rfl,LA,hb,nb,tl,hl,hl2,h⟩:=h;have hu:=W8 hr;refine⟨_,(Zc (Xo (Zq (K:=K) rfl (pv 0) rfl) (Yv (L9 (K:=K) rfl) (by rfl) T.znn PyProof.Rows.boot_tuple (Za (pv 1) Zb)))
 (Zc (pS 2 Xd.nd (Zm (cL K) (by rfl) T.zk5 PySem.boot_len (Za (Zq (K:=K) rfl (pv 0) rfl) Zb)))
 (Ze (Xf PassesOwn.leaving rfl (Yr (K:=K) rfl (pv 1)) (Wt (K:=K) (n:=4) rfl rfl (Z1 (pN 3 Xd.nd) (Z1 (pN 4 Xd.nd) (Z1 (pN 5 Xd.nd) (Z1 (pN 6 Xd.nd) Wq)))))
  (Ze (Zz (Zo Ob (pv 6) Yu (Zr _))
   (Zc (Uh hu (Zq (K:=K) rfl (pv 0) rfl) (Yk (Za (pv 6) (Za (pv 3) Zb))) (pv 2) rfl)
   (Ze (Uh hu (Zq (K:=K) rfl (pv 0) rfl) (Yk (Za (pv 6) (Za (pv 4) Zb))) (pv 2) rfl)))
   Zp)))))),?_⟩
 obtain⟨⟨dx,hp⟩,⟨rr,hlr,rl⟩,⟨kvs,hd,mt,kl⟩⟩:=LA;have hlen:ts.length=rs.length:=by rw[tl.length,zs3]
 have nrd:lr≠ld:=Yo hlr hd (by intro z;cases z);have nrp:p≠lr:=Yo hp hlr (by intro z;cases z);have npd:p≠ld:=Yo hp hd (by intro z;cases z);have nbd:b≠ld:=Yo hb hd (by intro z;cases z);refine⟨_,rfl,p,a.zkf,dx,_,_,rfl,hp,T.zlb,T.zma,Sd,lr,rr,rfl,hlr,_,rfl,b,ts,rfl,.inl ⟨SqL.of hb,fun t ht=>⟨rr,(by rw[Zi (Zg hlr ht)];exact hlr),Ul (by rw[rl.length];omega),?_⟩⟩⟩;have ntr:t≠lr:=Ne.symm (Zg hlr ht);have k1:∀ x o,H x=some o->x≠lr->upd (upd H t (.tup ts)) lr (.lst (rr++[.ref t])) x=some o:=fun x o e n=>by rw[Zi n,Zi (Zg e ht)];exact e
 have t1:∀ x xs,H x=some (.tup xs)->upd (upd H t (.tup ts)) lr (.lst (rr++[.ref t])) x=some (.tup xs):=fun x xs e=>k1 x _ e (Yo e hlr (by intro z;cases z));have r1:upd (upd H t (.tup ts)) lr (.lst (rr++[.ref t])) lr=some (.lst (rr++[.ref t])):=Zd;have rl1:Su (upd (upd H t (.tup ts)) lr (.lst (rr++[.ref t]))) (rr++[.ref t]) (Rs++[rs]):=(rl.mono t1).snoc (by rw[Zi ntr,Zd]) (tl.mono t1);have tl1:=tl.mono t1;generalize upd (upd H t (.tup ts)) lr (.lst (rr++[.ref t]))=H1 at k1 t1 r1 rl1 tl1;have hp1:=k1 _ _ hp nrp;have hb1:=k1 _ _ hb nb;have hd1:=k1 _ _ hd (Ne.symm nrd);refine⟨_,rfl,p,a.zkf,dx,_,_,rfl,hp1,T.zlb,T.zma,Sd,lr,_,rfl,.inl (SqL.of r1),?_⟩;have hN:(((rr++[V.ref t]).length:Nat):Int)=((Rs.length+1:Nat):Int):=by rw[zs8,rl.length];rfl
 rw[hN];refine⟨_,rfl,b,rfl,⟨_,SqL.of hb1⟩,Wm (K:=K) (a:=b) (xs:=ts) (fun i σ H'=>(∃ v1 v2 v3 v4,σ=[some (.ref p),some (.ref b),some (.int ((Rs.length+1:Nat):Int)),v1,v2,v3,v4])/\(∀ x o,H1 x=some o->x≠ld->H' x=some o) /\
  ∃ kvs',H' ld=some (.dT kvs')/\Ey kvs' (Nh Rs rs i)/\kvs'.length<=2*(tot Rs+i)) ⟨⟨_,_,_,_,rfl⟩,fun _ _ e _=>e,kvs,hd1,by rw[za3];exact mt,by omega⟩ (fun i σ H' _ ⟨_,k,_⟩=>SqL.of (k _ _ hb1 nbd)) ?_ ?_⟩
 ·rintro i x σ H' hx ⟨⟨v1,v2,v3,v4,rfl⟩,k2,kvs',hd2,mt2,kl2⟩;obtain⟨tr,r,rfl,hr3,htr⟩:=zg5 tl1 hx;have hi:i<rs.length:=(zs5.mp hr3).1;have htr2:=k2 _ _ htr (Yo htr hd1 (by intro z;cases z));refine⟨tr,_,rfl,SqT.of htr2,rfl,_,_,rfl,_,_,rfl,_,_,rfl,_,_,rfl,rfl,?_⟩;refine⟨_,rfl,rfl,_,rfl,?_⟩;cases hw:r.w with
  | none =>
    refine iteF ?_;exact⟨⟨_,_,_,_,rfl⟩,k2,kvs',hd2,by rw[za4 hr3 hw];exact mt2,by omega⟩
  | some w =>
    refine iteT ?_;have hp2:=k2 _ _ hp1 npd;refine⟨_,rfl,_,rfl,p,a.zkf,dx,_,_,rfl,hp2,T.zlb,T.zlz,Ry,_,rfl,_,rfl,sz2,fun t2 ht2=>⟨ld,_,rfl,DPut.t (k:=[inl w,inl r.h]) (by rw[Zi (Zg hd2 ht2)];exact hd2) Zd ((Nat.lt_trans (zuo (show _<=200000 by omega) ⋯) Se)),?_⟩⟩;have k3:∀ x o,H1 x=some o->x≠ld->upd (upd H' t2 (.tup [oV (some w),.int r.h])) ld (.dT (putK kvs' [inl w,inl r.h] (.int ((Rs.length+1:Nat):Int)))) x=some o:=fun x o e n=>by
     have:=k2 x o e n;rw[Zi n,Zi (Zg this ht2)];exact this
    have hd3:upd (upd H' t2 (.tup [oV (some w),.int r.h])) ld (.dT (putK kvs' [inl w,inl r.h] (.int ((Rs.length+1:Nat):Int)))) ld=some (.dT (putK kvs' [inl w,inl r.h] (.int ((Rs.length+1:Nat):Int)))):=Zd;have l3:=X3 kvs' ([inl w,inl r.h]:List Key) (.int ((Rs.length+1:Nat):Int));generalize upd (upd H' t2 (.tup [oV (some w),.int r.h])) ld (.dT (putK kvs' [inl w,inl r.h] (.int ((Rs.length+1:Nat):Int))))=H3 at k3 hd3;have hp3:=k3 _ _ hp1 npd;refine⟨_,rfl,_,rfl,p,a.zkf,dx,_,_,rfl,hp3,T.zlb,T.zlz,Ry,_,rfl,_,rfl,sz2,fun t4 ht4=>⟨ld,_,rfl,DPut.t (k:=[inl w,inl r.g]) (by rw[Zi (Zg hd3 ht4)];exact hd3) Zd ((Nat.lt_trans (zuo (show _<=200000 by omega) ⋯) Se)),?_⟩⟩;refine⟨⟨_,_,_,_,rfl⟩,fun x o e n=>?_,_,Zd,?_,?_⟩
    ·have:=k3 x o e n;rw[Zi n,Zi (Zg this ht4)];exact this
    ·rw[<- za5 hr3 hw];exact(mt2.put w r.h _ (Nat.succ_pos _)).put w r.g _ (Nat.succ_pos _)
    ·have:=X3 (putK kvs' ([inl w,inl r.h]:List Key) (.int ((Rs.length+1:Nat):Int))) ([inl w,inl r.g]:List Key) (.int ((Rs.length+1:Nat):Int));omega
 ·rintro σ H' ⟨⟨v1,v2,v3,v4,rfl⟩,k2,kvs',hd2,mt2,kl2⟩;rw[hlen] at mt2 kl2;rw[zc0] at mt2;refine h H' ⟨⟨dx,k2 _ _ hp1 npd⟩,⟨_,k2 _ _ r1 nrd,rl1.mono fun x xs e=>k2 _ _ e (Yo e hd1 (by intro z;cases z))⟩,kvs',hd2,mt2,by rw[zcz];exact kl2⟩ fun x o e n1 n2=>k2 x o (k1 x o e n1) n2
abbrev Tr:Stmt:=Zy (top 23) 2
theorem Kv:Zl ["self"] ["self"] (Zj Tr):=fnS
theorem Kw(F:Fun K "over" "Ledger.over" Tr f fd)(T:Tx K mg a):FnOk P w K mg base (CX1 P w) 1 f fd ["self"] (Ng a.zkf):=by
 refine F.okX Kv ⋯ fun _ _ _ _ H _ Q E hr h=>?_;obtain⟨p,lr,ld,Rs,rfl,LA,h⟩:=h;refine⟨_,(Ze (Zn (Zm (cL K) (by rfl) T.zk5 PySem.boot_len (Za (Zq (K:=K) rfl (pv 0) rfl) Zb)))),?_⟩;obtain⟨⟨dx,hp⟩,⟨rr,hlr,rl⟩,_⟩:=LA;refine⟨_,rfl,p,a.zkf,dx,_,_,rfl,hp,T.zlb,T.zma,Sd,lr,_,rfl,.inl (SqL.of hlr),?_⟩;rw[rl.length];exact h
abbrev U0:Stmt:=Zy (top 23) 3
theorem Mn:Zl ["self","at"] ["self","at"] (Zj U0):=fnS
theorem Mo(F:Fun K "facts" "Ledger.facts" U0 f fd)(T:Tx K mg a):FnOk P w K mg base (CX1 P w) 1 f fd ["self","at"] (Ap a.zkf a.zkq):=by
 refine F.okX Mn ⋯ fun _ _ _ _ H _ Q E hr h=>?_;obtain⟨p,lr,ld,Rs,i,rfl,LA,si,h1,h2⟩:=h;refine⟨_,(Zc (Zz (PW.pt (Wl (Zo Iw (pv 1) Zh (Zr _)) (X2 (Zo Ri (pv 1) (Zm (cL K) (by rfl) T.zk5 PySem.boot_len (Za (Zq (K:=K) rfl (pv 0) rfl) Zb)) (Zr _)))))
  (Ze (Y3 Y2 rfl T.zon rfl (Za (Ws (Zx (Xb ⋯) (Zx (Wi (pv 1)) (Zx (Xb ⋯) Wr))) ⋯) Zb)))
  Zp)
 (Ze (Zn (Yv (Xh (K:=K) rfl) (by rfl) T.zlx PyProof.Rows.boot_list (Za (pI (iL K) (Zq (K:=K) rfl (pv 0) rfl) (Zv Ru (pv 1) Zh)) Zb))))),?_⟩
 obtain⟨⟨dx,hp⟩,⟨rr,hlr,rl⟩,_⟩:=LA;refine⟨_,rfl,_,_,rfl,rfl,_,rfl,?_⟩;refine itD (fun hc=>?_) (fun hc=>?_)
 ·refine iteT ?_;exact⟨_,rfl,.inl ⟨_,rfl,si⟩,fun z=>⟨sz1,h1 (.inl hc)⟩⟩
 refine⟨_,rfl,_,rfl,p,a.zkf,dx,_,_,rfl,hp,T.zlb,T.zma,Sd,lr,_,rfl,.inl (SqL.of hlr),_,_,rfl,rfl,_,rfl,?_⟩;rw[rl.length];refine itD (fun hc2=>?_) (fun hc2=>?_)
 ·exact⟨_,rfl,.inl ⟨_,rfl,si⟩,fun z=>⟨sz1,h1 (.inr hc2)⟩⟩
 obtain⟨k,rfl⟩:∃ k:Nat,i=(k:Int)+1:=⟨(i-1).toNat,by omega⟩;have hk:k<Rs.length:=by omega
 obtain⟨t,xs,e1,e2,e3⟩:=rl.getR (zs4 hk);refine⟨_,rfl,p,a.zkf,dx,_,_,rfl,hp,T.zlb,T.zma,Sd,_,rfl,_,_,rfl,rfl,lr,_,_,_,rfl,rfl,SqL.of hlr,(show atI rr ((k:Int)+1-1)=some (.ref t) by rw[show (k:Int)+1-1=(k:Int) by omega];exact Ye e1),t,xs,rfl,.inr (SqT.of e2),fun l hl=>h2 k _ rfl (zs4 hk) l xs hl e3⟩
abbrev S4:Stmt:=Zy (top 23) 4
theorem J2:Zl ["self","number","club"] ["self","number","club"] (Zj S4):=fnS
theorem J9(F:Fun K "met" "Ledger.met" S4 f fd)(T:Tx K mg a):FnOk P w K mg base (CX1 P w) 1 f fd ["self","number","club"] (zfq a.zkf):=by
 refine F.okX J2 ⋯ fun _ _ _ _ H _ Q E hr h=>?_;obtain⟨p,lr,ld,Rs,n,c,rfl,LA,h⟩:=h;have hu:=W8 hr;refine⟨_,(Ze (Zn (zcg hu (Zq (K:=K) rfl (pv 0) rfl) (Yk (Za (pv 1) (Za (pv 2) Zb))) Zh ⟨rfl,rfl,rfl,rfl⟩))),?_⟩;obtain⟨⟨dx,hp⟩,_,⟨kvs,hd,mt,kl⟩⟩:=LA;refine⟨_,rfl,p,a.zkf,dx,_,_,rfl,hp,T.zlb,T.zlz,Ry,ld,rfl,.inr ⟨kvs,.inl hd⟩,_,rfl,_,rfl,sz2,fun t ht=>⟨_,DGet.t (k:=[inl n,inl c]) (by rw[Zi (Zg hd ht)];exact hd) Zd,?_⟩⟩;have e:((valV kvs ([inl n,inl c]:List Key)).getD (.int 0))=.int (metS Rs n c:Nat):=by
  rw[mt n c];split
  ·rename_i z;rw[z];rfl
  ·rfl
 rw[e];exact h _ (Zf ht)
abbrev Ts:Stmt:=top 25
theorem Kx:Zl ["value","least","most"] ["value","least","most"] (Zj Ts):=fnS
theorem Ky(F:Fun K "check_range" "check_range" Ts f fd)(T:Tx K mg a):FnOk P w K mg base (CX1 P w) 1 f fd ["value","least","most"] (Ol a.zko):=by
 refine F.okX Kx ⋯ fun _ _ _ _ H _ Q E hr h=>?_;obtain⟨v,lo,m,rfl,s1,s2,s3,h⟩:=h;refine⟨_,(Ze (Zz (PW.pt (Wl (Zo Iw (pv 0) (pv 1) (Zr _)) (X2 (Zo Ri (pv 0) (pv 2) (Zr _)))))
  (Ze (Y3 Y2 rfl T.zqk rfl (Za (Ws (Zx (Wi (pv 0)) (Zx (Xb ⋯) (Zx (Wi (pv 1)) (Zx (Xb ⋯) (Zx (Wi (pv 2)) Wr))))) ⋯) Zb)))
  Zp)),?_⟩
 walk_at "rd";refine itD (fun h1=>?_) (fun h1=>?_)
 ·rw[if_pos (Or.inl h1)] at h;refine iteT ?_;walk_at "rd";refine⟨.inl ⟨_,rfl,s1⟩,_,rfl,.inl ⟨_,rfl,s2⟩,_,rfl,.inl ⟨_,rfl,s3⟩,fun z=>⟨sz1,h⟩⟩
 ·walk_at "rd";refine itD (fun h2=>?_) (fun h2=>?_)
  ·rw[if_pos (Or.inr h2)] at h;walk_at "rd";refine⟨.inl ⟨_,rfl,s1⟩,_,rfl,.inl ⟨_,rfl,s2⟩,_,rfl,.inl ⟨_,rfl,s3⟩,fun z=>⟨sz1,h⟩⟩
  ·rw[if_neg (fun z=>z.elim h1 h2)] at h;exact h
abbrev Tt:Stmt:=top 35
theorem Qa:Zl ["matches","count"] ["matches"] (Zj Tt):=fnS
theorem Kz(F:Fun K "check_count" "check_count" Tt f fd)(T:Tx K mg a):FnOk P w K mg base (CX1 P w) 1 f fd ["matches"] (Dw K (ca a)):=by
 refine F.okX Qa ⋯ fun _ _ _ _ H _ Q E hr h=>?_;obtain⟨b,ts,rfl,hs,hl,h1,h2⟩:=h;refine⟨_,(Zc (pS 1 Qa.nd (Zm (cL K) (by rfl) T.zk5 PySem.boot_len (Za (pv 0) Zb)))
 (Ze (Zz (Zo Ri (pv 1) (Xz rfl T.zlq) (Zr _))
  (Ze (Y3 Y2 rfl T.zpk rfl (Za (Ws (Zx (Wi (pv 1)) (Zx (Xb ⋯) (Zx (Wi (Xz rfl T.zlq)) Wr))) ⋯) Zb)))
  Zp))),?_⟩
 refine⟨_,rfl,b,_,rfl,.inl hs,?_⟩;walk_at "rd";refine itD (fun hc=>?_) (fun hc=>?_)
 ·walk_at "rd";exact⟨.inl ⟨_,rfl,Ya ⋯ ⋯⟩,.inl ⟨_,rfl,Yc ⋯⟩,fun z=>⟨sz1,h1 ⋯⟩⟩
 ·exact h2 ⋯
abbrev U1:Stmt:=top 36
theorem Wu:Zl ["matches","home","guest","grade"] ["matches"] (Zj U1):=fnS
theorem Mp(F:Fun K "check_ranges" "check_ranges" U1 f fd)(T:Tx K mg a)(zkx:Z4 P w K mg base "check_range" 1 ["value","least","most"] (Ol a.zko)):FnOk P w K mg base (CX1 P w) 2 f fd ["matches"] (Gh K (ca a)):=by
 refine F.okX Wu ⋯ fun _ _ _ _ H _ Q E hr h=>?_;obtain⟨b,ts,Ms,rfl,hs,tl,sm,h1,h2⟩:=h;refine⟨_,(Ze (Xf PassesOwn.leaving rfl (Yr (K:=K) rfl (pv 0)) (Wt (K:=K) (n:=3) rfl rfl (Z1 (pN 1 Wu.nd) (Z1 (pN 2 Wu.nd) (Z1 (pN 3 Wu.nd) Wq))))
  (Zc (Z6 (pF zkx hr (Za (pv 1) (Za Zh (Za (Xz rfl T.zly) Zb)))))
  (Zc (Z6 (pF zkx hr (Za (pv 2) (Za Zh (Za (Xz rfl T.zly) Zb)))))
  (Ze (Z6 (pF zkx hr (Za (pv 3) (Za Zh (Za (Xz rfl T.zl1) Zb)))))))))),?_⟩
 have hlen:ts.length=Ms.length:=by rw[tl.length,zs3]
 let jv1:Nat->L2.St->Hp->Prop:=fun i σ H'=>H'=H/\(∃ v1 v2 v3,σ=[some (.ref b),v1,v2,v3])/\∀ m∈Ms.take i,¬ badM m
 refine⟨_,rfl,b,rfl,⟨_,hs⟩,Wm (K:=K) (a:=b) (xs:=ts) jv1 ⟨rfl,⟨_,_,_,rfl⟩,by simp⟩ (fun i σ H' _ ⟨e,_⟩=>e▸hs) ?_ ?_⟩
 ·rintro i x σ H' hx ⟨rfl,⟨v1,v2,v3,rfl⟩,hi⟩;obtain⟨t,m,rfl,hm,ht⟩:=Fi tl hx;have hmem:=ztg hm;obtain⟨s1,s2,s3⟩:=sm m hmem;have bad:badM m->E (.ref a.zko) none H':=fun hb=>h1 ⟨m,hmem,hb⟩;refine⟨t,_,rfl,SqT.of ht,rfl,_,_,rfl,_,_,rfl,_,_,rfl,rfl,?_⟩;refine⟨_,rfl,_,1,99,rfl,s1,Yc ⋯,Yc ⋯,?_⟩;refine Eo (fun b1=>bad (by unfold badM;omega)) (fun b1=>?_);refine⟨_,rfl,_,1,99,rfl,s2,Yc ⋯,Yc ⋯,?_⟩;refine Eo (fun b2=>bad (by unfold badM;omega)) (fun b2=>?_);refine⟨_,rfl,_,1,9,rfl,s3,Yc ⋯,Yc ⋯,?_⟩;refine Eo (fun b3=>bad (by unfold badM;omega)) (fun b3=>?_);exact⟨rfl,⟨_,_,_,rfl⟩,Gg hm hi (by unfold badM;omega)⟩
 ·rintro σ H' ⟨rfl,⟨v1,v2,v3,rfl⟩,hi⟩;rw[hlen,ztp] at hi;exact h2 fun ⟨m,hm,hb⟩=>hi m hm hb
abbrev Tu:Stmt:=top 37
theorem Vh:Zl ["matches","home","guest","grade"] ["matches"] (Zj Tu):=fnS
theorem K0(F:Fun K "check_clubs" "check_clubs" Tu f fd)(T:Tx K mg a):FnOk P w K mg base (CX1 P w) 1 f fd ["matches"] (Dx K (ca a)):=by
 refine F.okX Vh ⋯ fun _ _ _ _ H _ Q E hr h=>?_;obtain⟨b,ts,Ms,rfl,hs,tl,sm,h1,h2⟩:=h;refine⟨_,(Ze (Xf PassesOwn.leaving rfl (Yr (K:=K) rfl (pv 0)) (Wt (K:=K) (n:=3) rfl rfl (Z1 (pN 1 Vh.nd) (Z1 (pN 2 Vh.nd) (Z1 (pN 3 Vh.nd) Wq))))
  (Ze (Zz (Zo Y8 (pv 1) (pv 2) (Zr _))
   (Ze (Y3 Y2 rfl T.zqv rfl (Za (Ws (Zx (Xb ⋯) (Zx (Wi (pv 1)) (Zx (Xb ⋯) Wr))) ⋯) Zb)))
   Zp)))),?_⟩
 have hlen:ts.length=Ms.length:=by rw[tl.length,zs3]
 let jv2:Nat->L2.St->Hp->Prop:=fun i σ H'=>H'=H/\(∃ v1 v2 v3,σ=[some (.ref b),v1,v2,v3])/\∀ m∈Ms.take i,¬ (m.1=m.2.1)
 refine⟨_,rfl,b,rfl,⟨_,hs⟩,Wm (K:=K) (a:=b) (xs:=ts) jv2 ⟨rfl,⟨_,_,_,rfl⟩,by simp⟩ (fun i σ H' _ ⟨e,_⟩=>e▸hs) ?_ ?_⟩
 ·rintro i x σ H' hx ⟨rfl,⟨v1,v2,v3,rfl⟩,hi⟩;obtain⟨t,m,rfl,hm,ht⟩:=Fi tl hx;have hmem:=ztg hm;obtain⟨s1,s2,s3⟩:=sm m hmem;refine⟨t,_,rfl,SqT.of ht,rfl,_,_,rfl,_,_,rfl,_,_,rfl,rfl,?_⟩;refine⟨_,rfl,_,rfl,rfl,_,rfl,?_⟩;refine itV (fun he=>?_) (fun he=>?_)
  ·exact⟨_,rfl,.inl ⟨_,rfl,s1⟩,fun z=>⟨sz1,h1 ⟨m,hmem,he⟩⟩⟩
  ·exact⟨rfl,⟨_,_,_,rfl⟩,Gg (p:=fun m=>m.1=m.2.1) hm hi he⟩
 ·rintro σ H' ⟨rfl,⟨v1,v2,v3,rfl⟩,hi⟩;rw[hlen,ztp] at hi;exact h2 fun ⟨m,hm,hb⟩=>hi m hm hb
abbrev Nq:Stmt:=top 38
theorem Bv:Zl ["matches"] ["matches"] (Zj Nq):=fnS
theorem Bw(F:Fun K "checked" "checked" Nq f fd)(T:Tx K mg a)(znq:Z4 P w K mg base "check_count" 1 ["matches"] (Dw K (ca a)))(zne:Z4 P w K mg base "check_ranges" 2 ["matches"] (Gh K (ca a)))(znz:Z4 P w K mg base "check_clubs" 1 ["matches"] (Dx K (ca a))):FnOk P w K mg base (CX1 P w) 3 f fd ["matches"] (Kl K (ca a)):=by
 refine F.okX Bv ⋯ fun _ _ _ _ H _ Q E hr h=>?_;obtain⟨b,ts,Ms,rfl,hs,tl,sm,hl,h1,h2,h3,h4⟩:=h;refine⟨_,(Zc (Z6 (pF znq hr (Za (pv 0) Zb)))
 (Zc (Z6 (pF zne hr (Za (pv 0) Zb)))
 (Zc (Z6 (pF znz hr (Za (pv 0) Zb)))
 (Ze (Zn (Yv (Xh (K:=K) rfl) (by rfl) T.zlx PyProof.Rows.boot_list (Za (pv 0) Zb))))))),?_⟩
 have hlen:ts.length=Ms.length:=by rw[tl.length,zs3]
 refine⟨_,rfl,b,ts,rfl,hs,by omega,fun hc=>h1 ⋯,fun hc=>?_⟩;refine⟨_,rfl,b,ts,Ms,rfl,hs,tl,sm,fun hb=>h2 ⋯ hb,fun hb=>?_⟩;refine⟨_,rfl,b,ts,Ms,rfl,hs,tl,sm,fun hb2=>h3 ⋯ hb hb2,fun hb2=>?_⟩;exact⟨_,rfl,b,ts,rfl,.inl hs,h4 ⋯ hb hb2⟩
abbrev Vi:Stmt:=Zy (top 40) 0
theorem Py:Zl ["self"] ["self"] (Zj Vi):=fnS
theorem Pz(F:Fun K "__init__" "Roster.__init__" Vi f fd)(T:Tx K mg a):FnOk P w K mg base (CX1 P w) 1 f fd ["self"] (Aw (ca a)):=by
 refine F.okX Py ⋯ fun _ _ _ _ H _ Q E hr h=>?_;obtain⟨p,dx,rfl,hp,h⟩:=h;refine⟨_,(Ze (Yw (K:=K) rfl (pv 0) Oc rfl)),?_⟩;intro d hd;exact⟨_,rfl,p,a.zkj,dx,[],rfl,(by rw[Zi (Zg hp hd)];exact hp),T.zla,T.zll,⋯,h d hd⟩
abbrev W3:Stmt:=Zy (top 40) 1
theorem Qx:Zl ["self","number","grade","club"] ["self","number","grade","club"] (Zj W3):=fnS
theorem Qy(F:Fun K "check_new" "Roster.check_new" W3 f fd)(T:Tx K mg a)(zkx:Z4 P w K mg base "check_range" 1 ["value","least","most"] (Ol a.zko)):FnOk P w K mg base (CX1 P w) 2 f fd ["self","number","grade","club"] (Pl (ca a)):=by
 refine F.okX Qx ⋯ fun _ _ _ _ H _ Q E hr h=>?_;obtain⟨p,d,R,n,g,c,rfl,RA,sm,h⟩:=h;have hu:=W8 hr;refine⟨_,(Zc (Z6 (pF zkx hr (Za (pv 1) (Za Zh (Za (Xz rfl T.zl8) Zb)))))
 (Zc (Z6 (pF zkx hr (Za (pv 2) (Za Zh (Za (Xz rfl T.zl1) Zb)))))
 (Zc (Z6 (pF zkx hr (Za (pv 3) (Za Zh (Za (Xz rfl T.zly) Zb)))))
 (Zc (Zz (Q9 (G4 hu (pv 1) (Zq (K:=K) rfl (pv 0) rfl)))
  (Ze (Y3 Y2 rfl T.zqd rfl (Za (Ws (Zx (Xb ⋯) (Zx (Wi (pv 1)) (Zx (Xb ⋯) Wr))) ⋯) Zb)))
  Zp)
 (Ze (Zz (Zo zfj (Zm zav (by rfl) T.zk5 PySem.boot_len (Za (Zq (K:=K) rfl (pv 0) rfl) Zb)) (Xz rfl T.zlk) (Zr _))
  (Ze (Y3 Y2 rfl T.zo2 rfl (Za (Ws (Zx (Xb ⋯) (Zx (Wi (Xz rfl T.zlk)) (Zx (Xb ⋯) Wr))) ⋯) Zb)))
  Zp)))))),?_⟩
 obtain⟨sn,sg,sc⟩:=sm;obtain⟨⟨dx,kvs,hp,hd,en⟩,nd⟩:=id RA;have bad:∀ {A B:Prop},(badI n g c->(if badI n g c then A else B)->A):=fun hb z=>by rw[if_pos hb] at z;exact z
 refine⟨_,rfl,n,1,999,rfl,sn,Yc ⋯,Yc ⋯,?_⟩;refine Eo (fun b1=>bad (by unfold badI;omega) h) (fun b1=>?_);refine⟨_,rfl,g,1,9,rfl,sg,Yc ⋯,Yc ⋯,?_⟩;refine Eo (fun b2=>bad (by unfold badI;omega) h) (fun b2=>?_);refine⟨_,rfl,c,1,99,rfl,sc,Yc ⋯,Yc ⋯,?_⟩;refine Eo (fun b3=>bad (by unfold badI;omega) h) (fun b3=>?_);rw[if_neg (by unfold badI;omega)] at h;refine⟨_,rfl,_,rfl,p,a.zkj,dx,_,_,rfl,hp,T.zla,T.zll,Wz,d,_,rfl,DGet.k (k:=inl n) hd,_,rfl,?_⟩;rw[en.isSome nd];refine itD (fun hn=>?_) (fun hn=>?_)
 ·rw[if_pos hn] at h;exact⟨_,rfl,.inl ⟨_,rfl,sn⟩,fun z=>⟨sz1,h⟩⟩
 rw[if_neg hn] at h;refine⟨_,rfl,p,a.zkj,dx,_,_,rfl,hp,T.zla,T.zll,Wz,d,_,rfl,hd,_,_,rfl,rfl,_,rfl,?_⟩;rw[en.length];refine itD (fun hz=>?_) (fun hz=>?_)
 ·rw[if_pos ⋯] at h;exact⟨.inl ⟨_,rfl,Yc ⋯⟩,fun z=>⟨sz1,h⟩⟩
 rw[if_neg ⋯] at h;exact h
abbrev Wa:Stmt:=Zy (top 40) 2
theorem Rp:Zl ["self","number"] ["self","number"] (Zj Wa):=fnS
theorem Rq(F:Fun K "check_known" "Roster.check_known" Wa f fd)(T:Tx K mg a):FnOk P w K mg base (CX1 P w) 1 f fd ["self","number"] (Sx (ca a)):=by
 refine F.okX Rp ⋯ fun _ _ _ _ H _ Q E hr h=>?_;obtain⟨p,d,R,n,rfl,RA,sn,h⟩:=h;have hu:=W8 hr;refine⟨_,(Ze (Zz (Q9 (Na hu (pv 1) (Zq (K:=K) rfl (pv 0) rfl)))
  (Ze (Y3 Y2 rfl T.zo4 rfl (Za (Ws (Zx (Xb ⋯) (Zx (Wi (pv 1)) (Zx (Xb ⋯) Wr))) ⋯) Zb)))
  Zp)),?_⟩
 obtain⟨⟨dx,kvs,hp,hd,en⟩,nd⟩:=id RA;refine⟨_,rfl,_,rfl,p,a.zkj,dx,_,_,rfl,hp,T.zla,T.zll,Wz,d,_,rfl,DGet.k (k:=inl n) hd,_,rfl,?_⟩;rw[en.isSome nd];by_cases hn:n∈R.map (·.1)
 ·rw[zs6 hn];rw[if_pos hn] at h;exact iteF h
 ·rw[ztc hn];rw[if_neg hn] at h;exact iteT ⟨_,rfl,.inl ⟨_,rfl,sn⟩,fun z=>⟨sz1,h⟩⟩
abbrev S5:Stmt:=Zy (top 40) 3
theorem Ia:Zl ["self","number","grade","club"] ["self","number","grade","club"] (Zj S5):=fnS
theorem Ib(F:Fun K "add" "Roster.add" S5 f fd)(T:Tx K mg a)(zlc:Zt P w K mg base a.zkj "check_new" 2 ["self","number","grade","club"] (Pl (ca a))):FnOk P w K mg base (CX1 P w) 3 f fd ["self","number","grade","club"] (zdj (ca a)):=by
 refine F.okX Ia ⋯ fun _ _ _ _ H _ Q E hr h=>?_;obtain⟨p,d,R,n,g,c,rfl,RA,sm,hl,h⟩:=h;have hu:=W8 hr;refine⟨_,(Zc (Z6 (Yz (pv 0) T.zla zlc (hr.mono ⋯) Zk (Za (pv 1) (Za (pv 2) (Za (pv 3) Zb)))))
 (Ze (Uh hu (Zq (K:=K) rfl (pv 0) rfl) (pv 1) (Yk (Za (pv 2) (Za (pv 3) Zb))) rfl))),?_⟩
 obtain⟨⟨dx,kvs,hp,hd,en⟩,nd⟩:=id RA;refine⟨_,rfl,p,dx,_,rfl,hp,Y7.no ⋯,_,rfl,_,rfl,_,rfl,p,d,R,n,g,c,rfl,RA,sm,?_⟩;refine it2 h (fun _ z=>z) fun hb h=>it2 h (fun _ z=>z) fun hn h=>it2 h (fun _ z=>z) fun hz h=>?_;refine⟨_,rfl,_,rfl,sz2,fun t ht=>?_⟩;have ntp:p≠t:=Zg hp ht;have ntd:d≠t:=Zg hd ht;have npd:p≠d:=Yo hp hd (by intro z;cases z);refine⟨_,rfl,p,a.zkj,dx,_,_,rfl,(by rw[Zi ntp];exact hp),T.zla,T.zll,Wz,_,rfl,d,_,rfl,DPut.k (k:=inl n) (by rw[Zi ntd];exact hd) (Ul (by rw[en.length];exact hl)),?_⟩;rw[zbd (en.val_none hn)];refine h _ ⟨⟨dx,_,(by rw[Zi npd,Zi ntp];exact hp),Zd,?_⟩,?_⟩ fun b o e hb=>(by rw[Zi hb,Zi (Zg e ht)];exact e)
 ·refine Wy.snoc (by rw[Zi (Ne.symm ntd)];exact Zd) (en.mono fun b xs e=>?_);rw[Zi (Yo e hd (by intro z;cases z)),Zi (Zg e ht)];exact e
 ·rw[ztl];exact G9 nd hn
abbrev Ub:Stmt:=Zy (top 40) 4
theorem Nr:Zl ["self","number"] ["self","number"] (Zj Ub):=fnS
theorem Nt(F:Fun K "strike" "Roster.strike" Ub f fd)(T:Tx K mg a):FnOk P w K mg base (CX1 P w) 1 f fd ["self","number"] (Df (ca a)):=by
 refine F.okX Nr ⋯ fun _ _ _ _ H _ Q E hr h=>?_;obtain⟨p,d,R,n,g,c,rfl,RA,h⟩:=h;refine⟨_,(Ze (Z6 (zch (Zq (K:=K) rfl (pv 0) rfl) (pv 1) ⟨rfl,rfl,rfl,rfl⟩))),?_⟩;obtain⟨⟨dx,kvs,hp,hd,en⟩,nd⟩:=id RA;have npd:p≠d:=Yo hp hd (by intro z;cases z);obtain⟨t,e1,e2⟩:=en.val_some nd (show (n,g,c)∈R++[(n,g,c)] by simp);have hn:n∉R.map (·.1):=by
  rw[ztl,List.nodup_append] at nd;exact fun z=>nd.2.2 n z n (by simp) rfl
 refine⟨_,rfl,p,a.zkj,dx,_,_,rfl,hp,T.zla,T.zll,Wz,d,rfl,.inl ⟨kvs,.inl hd⟩,_,rfl,kvs,inl n,_,hd,rfl,e1,?_⟩;refine h _ ⟨⟨dx,_,(by rw[Zi npd];exact hp),Zd,(en.unsnoc hn).mono fun b xs e=>?_⟩,?_⟩ fun b o e hb=>(by rw[Zi hb];exact e)
 ·rw[Zi (Yo e hd (by intro z;cases z))];exact e
 ·rw[ztl,List.nodup_append] at nd;exact nd.1
abbrev Vw:Stmt:=Zy (top 40) 6
theorem Ot:Zl ["self"] ["self"] (Zj Vw):=fnS
theorem Ou(F:Fun K "numbers" "Roster.numbers" Vw f fd)(T:Tx K mg a):FnOk P w K mg base (CX1 P w) 1 f fd ["self"] (Ki (ca a)):=by
 refine F.okX Ot ⋯ fun _ _ _ _ H _ Q E hr h=>?_;obtain⟨p,d,R,rfl,RA,h⟩:=h;refine⟨_,(Ze (Zn (Yv (Bc rfl) (by rfl) T.zlx PyProof.Rows.boot_list (Za (Zq (K:=K) rfl (pv 0) rfl) Zb)))),?_⟩;obtain⟨⟨dx,kvs,hp,hd,en⟩,nd⟩:=id RA;refine⟨_,rfl,p,a.zkj,dx,_,_,rfl,hp,T.zla,T.zll,Wz,d,kvs,rfl,.inl hd,fun l hl=>?_⟩;rw[en.keys];exact h l hl
abbrev U2:Stmt:=Zy (top 40) 7
theorem Mq:Zl ["self","number"] ["self","number"] (Zj U2):=fnS
theorem Mr(F:Fun K "entry" "Roster.entry" U2 f fd)(T:Tx K mg a)(zk7:Zt P w K mg base a.zkj "check_known" 1 ["self","number"] (Sx (ca a))):FnOk P w K mg base (CX1 P w) 2 f fd ["self","number"] (Dg (ca a)):=by
 refine F.okX Mq ⋯ fun _ _ _ _ H _ Q E hr h=>?_;obtain⟨p,d,R,n,rfl,RA,sn,h1,h2⟩:=h;have hu:=W8 hr;refine⟨_,(Zc (Z6 (Yz (pv 0) T.zla zk7 (hr.mono ⋯) Zk (Za (pv 1) Zb)))
 (Ze (Zn (pD hu (Zq (K:=K) rfl (pv 0) rfl) (pv 1))))),?_⟩
 obtain⟨⟨dx,kvs,hp,hd,en⟩,nd⟩:=id RA;refine⟨_,rfl,p,dx,_,rfl,hp,Y7.no ⋯,_,rfl,p,d,R,n,rfl,RA,sn,?_⟩;refine Eo (fun hn=>?_) (fun hn=>h1 hn);obtain⟨⟨m,g,c⟩,q,rfl⟩:=ztd.mp hn;obtain⟨t,e1,e2⟩:=en.val_some nd q;exact⟨_,rfl,p,a.zkj,dx,_,_,rfl,hp,T.zla,T.zll,Wz,_,rfl,d,_,rfl,(by rw[<- e1];exact DGet.k (k:=inl m) hd),h2 g c t q e2⟩
abbrev Uc:Stmt:=Zy (top 40) 10
theorem Nu:Zl ["self","number"] ["self","number"] (Zj Uc):=fnS
theorem Nv(F:Fun K "person" "Roster.person" Uc f fd)(T:Tx K mg a)(znb:Zt P w K mg base a.zkj "entry" 2 ["self","number"] (Dg (ca a))):FnOk P w K mg base (CX1 P w) 3 f fd ["self","number"] (Dh (ca a)):=by
 refine F.okX Nu ⋯ fun _ _ _ _ H _ Q E hr h=>?_;obtain⟨p,d,R,n,rfl,RA,sn,h1,h2⟩:=h;refine⟨_,(Ze (Zn (Zv (Dj (K:=K) rfl) (Yk (Za (pv 1) Zb)) (Yz (pv 0) T.zla znb (hr.mono ⋯) Zk (Za (pv 1) Zb))))),?_⟩;obtain⟨⟨dx,kvs,hp,hd,en⟩,nd⟩:=id RA;refine⟨_,rfl,sz1,fun t1 ht1=>?_⟩;have s1:=Zf (o:=.tup [.int n]) ht1;have q1:upd H t1 (.tup [.int n]) t1=some (.tup [.int n]):=Zd;generalize upd H t1 (.tup [.int n])=H1 at s1 q1;refine⟨_,rfl,p,dx,_,rfl,s1 _ _ hp,Y7.no ⋯,_,rfl,p,d,R,n,rfl,RA.same s1,sn,fun hn=>h1 hn H1 s1,fun g c t q ht=>?_⟩;refine⟨t1,t,_,_,rfl,rfl,SqT.of q1,SqT.of ht,by simp,by show 1+2<=sizeLine;exact sz3,fun z=>absurd z (by simp),fun _ t2 ht2=>?_⟩;exact h2 g c t2 _ q Zd (s1.trans (Zf ht2)) (s1.free ht2)
abbrev K1:Stmt:=top 4
theorem zbt:Zl ["people","match","out","ledger","rest"] ["people","match","out","ledger","rest"] (Zj K1):=fnS
theorem zbu(F:Fun K "takers" "takers" K1 f fd)(T:Tx K mg a)(zpj:Z4 P w K mg base "reasons" 3 ["referee","match","out","ledger","rest"] (Hr K a.zkf)):FnOk P w K mg base (CX1 P w) 4 f fd ["people","match","out","ledger","rest"] (E3 K a.zkf):=by
 refine F.okX zbt ⋯ fun _ _ _ _ H _ Q E hr h=>?_;obtain⟨lp,lo,tm,p,lr,ld,Rs,ts,Ms,os,h,gu,d,rest,rfl,hp,tl,ho,hoo,ht,LA,hl,hq⟩:=h;refine⟨_,(Ze (Zn (V6 rfl (cT ["match","ledger","rest","out"] [1,3,4,2]) (Yr (K:=K) rfl (pv 0)) (fun _ _ _ _ _=>Lh (Xa (Hl (K:=K) rfl (Ai zpj (hr.mono ⋯) Ah rfl (Za (pv 0) (Za (pv 1) (Za (Ug (L8 (K:=K) rfl) (pI (iU K) (pv 0) Zh) (pv 4) (by with_unfolding_all rfl)) (Za (pv 2) (Za (pv 3) Zb)))))) (fun _=>rfl)))) (fun _ _ _ _ _=>(pI (iU K) (pv 0) Zh))))),?_⟩;have hlen:ts.length=Ms.length:=by rw[tl.length,zs3]
 refine⟨_,rfl,lp,rfl,⟨_,SqL.of hp⟩,?_⟩;refine Um (K:=K) (a:=lp) (xs:=ts) (fun i ys H'=>Same H H'/\ys=((Ms.take i).filter (Rz Rs h gu d os rest)).map fun m=>V.int m.1) ⟨Same.refl _,rfl⟩ (fun i ys H' _ ⟨s,_⟩=>SqL.of (s _ _ hp)) (by rw[hlen];exact szN hl) (fun i ys H' ⟨_,e⟩=>by rw[e,zs3];exact zto (zun _ _) (List.length_take_le _ _)) ?_ ?_
 ·rintro i x ys H' hx ⟨sm,rfl⟩;obtain⟨t,m,rfl,hm,htt⟩:=Fi tl hx;have htt':=sm _ _ htt;refine⟨_,rfl,_,rfl,_,rfl,t,_,_,_,rfl,rfl,SqT.of htt',(show atI (pV m) 0=some _ from rfl),_,rfl,lo,os,rfl,.inl (SqL.of (sm _ _ ho)),rfl,List.all_eq_true.mpr (fun y hy=>zc2 (hoo y hy)),_,rfl,_,rfl,t,tm,p,lr,ld,Rs,m.1,m.2.1,m.2.2,h,gu,d,rest,inV (.int m.1) os,rfl,htt',sm _ _ ht,LA.same sm,fun l H2 hl2 s2 _=>?_⟩;refine⟨_,.inl ⟨_,SqL.of hl2,rfl⟩,?_⟩;have e:((Fg Rs m.1 m.2.1 m.2.2 h gu d (inV (.int m.1) os) rest).map V.str).isEmpty=Rz Rs h gu d os rest m:=by unfold Rz;rw[List.isEmpty_map]
  have hys:∀ ys',((Ms.take (i+1)).filter (Rz Rs h gu d os rest)).map (fun m=>V.int m.1)=((Ms.take i).filter (Rz Rs h gu d os rest)).map (fun m=>V.int m.1)++ys'↔ys'=if Rz Rs h gu d os rest m then [V.int m.1] else []:=fun ys'=>by
   rw[zue,hm,zu4,ztl,List.append_cancel_left_eq];cases q:Rz Rs h gu d os rest m<;>simp[q,eq_comm]
  dsimp only;rw[e];refine itB (fun hb=>?_) (fun hb=>?_)
  ·rw[Bool.not_not] at hb;refine⟨_,rfl,t,_,_,_,rfl,rfl,SqT.of (s2 _ _ htt'),(show atI (pV m) 0=some _ from rfl),sm.trans s2,?_⟩;exact((hys [V.int m.1]).mpr (by rw[hb];rfl)).symm
  ·rw[Bool.not_not] at hb;refine⟨sm.trans s2,?_⟩;have:=(hys []).mpr (by rw[hb];rfl);rw[List.append_nil] at this;exact this.symm
 ·rintro ys H' ⟨sm,rfl⟩ l hl';rw[hlen,ztp];exact hq l _ Zd (sm.trans (Zf hl')) (sm.free hl')
abbrev U3:Stmt:=top 42
theorem Wv:Zl ["given","taken","place","number"] ["given"] (Zj U3):=fnS
theorem Mt(F:Fun K "places_taken" "places_taken" U3 f fd)(T:Tx K mg a):FnOk P w K mg base (CX1 P w) 1 f fd ["given"] (Fn K):=by
 refine F.okX Wv ⋯ fun _ _ _ _ H _ Q E hr h=>?_;obtain⟨b,gs,rfl,hb,ho,hinj,hl,h⟩:=h;have hu:=W8 hr;refine⟨_,(Zc (pS 1 Wv.nd Oc)
 (Zc (Xf PassesOwn.leaving rfl (Aq (K:=K) rfl rfl T.zmf (Za (pv 0) Zb)) (Wt (K:=K) (n:=2) rfl rfl (Z1 (pN 2 Wv.nd) (Z1 (pN 3 Wv.nd) Wq)))
  (Ze (Zz (Zo Ob (pv 3) Yu (Zr _))
   (Ze (Uh hu (pv 1) (pv 3) (pv 2) rfl))
   Zp)))
 (Ze (Zn (pv 1))))),?_⟩
 have line:100<sizeLine:=by rw[sizeLine_eq];decide
 intro d hd
 let jv1:Nat->L2.St->Hp->Prop:=fun i σ' H'=>(∃ u v,σ'=[some (.ref b),some (.ref d),u,v])/\Same H H'/\∃ kvs,H' d=some (.dK kvs)/\kvs.length<=i/\(∀ (n:Int) (j:Nat),j<i->gs[j]?=some (.int n)->valV kvs (inl n:Key)=some (.int (j:Nat)))/\(∀ n:Int,(∀ j:Nat,j<i->gs[j]?≠some (.int n))->valV kvs (inl n:Key)=none)
 refine⟨_,rfl,b,rfl,⟨gs,SqL.of (Zf hd _ _ hb)⟩,zc9 (xs:=gs) jv1
  ⟨⟨none,none,rfl⟩,Zf hd,[],Zd,ztb _,fun n j hj=>absurd hj (zu3 _),fun n _=>rfl⟩ (fun i σ' H' hi p=>SqL.of (p.2.1 _ _ hb)) (fun i x t σ' H' hx p htn=>?_) (fun σ' H' p=>?_)⟩
 ·obtain⟨⟨u,v,rfl⟩,hs,kvs,hk,hkl,h1,h2⟩:=p;have s2:=hs.trans (Zf (o:=.tup [.int (i:Nat),x]) htn);have hk2:=Zf (o:=.tup [.int (i:Nat),x]) htn _ _ hk;refine⟨t,_,rfl,SqT.of Zd,rfl,_,_,rfl,_,_,rfl,rfl,?_⟩;generalize upd H' t (.tup [.int (i:Nat),x])=H2 at s2 hk2;have hi:i<gs.length:=(zs5.mp hx).1;refine X0 (b:=!decide (x=.non)) (fun Q k=>⟨_,rfl,rfl,_,rfl,k⟩) ?_;rcases ho x (ztg hx) with rfl|⟨n,rfl⟩
  ·refine iteF (Zu ⟨⟨_,_,rfl⟩,s2,kvs,hk2,by omega,fun n j hj hg=>?_,fun n hn=>h2 n fun j hj=>hn j ⋯⟩);by_cases e:j=i
   ·subst e;rw[hx] at hg;cases hg
   ·exact h1 n j ⋯ hg
  ·refine iteT ⟨_,rfl,_,rfl,_,rfl,d,_,rfl,DPut.k (k:=inl n) hk2 ⋯,⟨_,_,rfl⟩,?_,_,Zd,?_,fun m j hj hg=>?_,fun m hm=>?_⟩
   ·exact Xc hd s2
   ·exact zto (X3 kvs _ _) ⋯
   ·rw[Sb];by_cases e:j=i
    ·subst e;rw[hx] at hg;cases hg;rw[if_pos rfl]
    ·have hne:¬ ((inl m:Key)=inl n):=fun z=>by
      rw[inl.inj z] at hg;exact e (hinj j i n hg hx)
     rw[if_neg hne];exact h1 m j ⋯ hg
   ·have hne:¬ ((inl m:Key)=inl n):=fun z=>by
     rw[inl.inj z] at hm;exact hm i ⋯ hx
    rw[Sb,if_neg hne];exact h2 m fun j hj=>hm j ⋯
 ·obtain⟨⟨u,v,rfl⟩,hs,kvs,hk,hkl,h1,h2⟩:=p;exact⟨_,rfl,h d kvs H' hk ⟨fun n j hj=>h1 n j (zs5.mp hj).1 hj,fun n hn=>h2 n fun j _=>hn j⟩ hs hd⟩
abbrev S6:Stmt:=top 43
theorem Xj:Zl ["may","taken","start","into","waiting","done","place","number"] ["may","taken","start"] (Zj S6):=fnS
theorem Ie(F:Fun K "steps_into" "steps_into" S6 f fd)(T:Tx K mg a):FnOk P w K mg base (CX1 P w) 1 f fd ["may","taken","start"] (Bj K):=by
 refine F.okX Xj ⋯ fun _ _ _ _ H _ Q E hr h=>?_;obtain⟨l,d,ls,rows,kvs,gs,p,rfl,hl,il,hrl,hd,tk,FP,hp,h⟩:=h;have hu:=W8 hr;refine⟨_,(Zc (pS 3 Xj.nd (Ab (Od (pv 2) Yu Aa) rfl rfl (by simp) ⋯))
 (Zc (pS 4 Xj.nd (Z7 (Za (pv 2) Zb)))
 (Zc (pS 5 Xj.nd Zh)
 (Zc (Eb PassesOwn.leaving (Zo Iw (pv 5) (Zm (cL K) (by rfl) T.zk5 PySem.boot_len (Za (pv 4) Zb)) (Zr _))
  (Zc (pS 6 Xj.nd (pI (iL K) (pv 4) (pv 5)))
  (Zc (pS 5 Xj.nd (Zv Wx (pv 5) Zh))
  (Ze (Xf PassesOwn.leaving rfl (Yr (K:=K) rfl (pI (iL K) (pv 0) (pv 6))) (pN 7 Xj.nd)
   (Ze (Zz (PW.pt (O5 (Q9 (G4 hu (pv 7) (pv 1))) (Qk (Q9 (Na hu (pD hu (pv 1) (pv 7)) (pv 3))))))
    (Zc (Uh hu (pv 3) (pD hu (pv 1) (pv 7)) (Yk (Za (pv 6) (Za (pv 7) Zb))) rfl)
    (Ze (Xo (pv 4) (pD hu (pv 1) (pv 7)))))
    Zp)))))))
 (Ze (Zn (pv 3))))))),?_⟩
 show let y1:TS:=_;let y2:TS:=Z5 _ y1;let y3:TS:=_;let y4:TS:=Z5 (zb3 _ (Z5 _ y2)) y3;let y5:TS:=Z5 _ y4;let y6:TS:=Z5 _ y5;Z5 _ y6 _ _ _;intro y1 y2 y3 y4 y5 y6;have line0:200<sizeLine:=by rw[sizeLine_eq];decide
 intro ld hld;refine⟨_,rfl,Zd,[(inl (p:Int),.non)],rfl,(by show 1<=15;decide),?_⟩;have s0:Same H (upd (upd H ld (.dK [])) ld (.dK (Vr [] [(inl (p:Int),.non)]))):=Xc hld (Zf hld);have q0:upd (upd H ld (.dK [])) ld (.dK (Vr [] [(inl (p:Int),.non)])) ld=some (.dK [((inl (p:Int):Key),V.non)]):=Zd;generalize upd (upd H ld (.dK [])) ld (.dK (Vr [] [(inl (p:Int),.non)]))=H1 at s0 q0;refine⟨_,rfl,sz1,fun ln hln=>?_⟩;have s1:=Zf (o:=.lst [.int p]) hln;have e1:upd H1 ln (.lst [.int p]) ln=some (.lst (Y9 [p])):=Zd;have q1:=s1 _ _ q0;have s01:=s0.trans s1;have nln:ld≠ln:=Zg q0 hln;have fln:H ln=none:=s0.free hln;generalize upd H1 ln (.lst [.int p])=H2 at s1 e1 q1 s01;have hbound:∀ line:List Nat,line.Nodup->(∀ c∈line,c<rows.length)->line.length<=rows.length:=fun line nd hc=>by
  have:=nd.length_le_of_subset (l₂:=List.range rows.length) fun c hcc=>zt7.mpr (hc c hcc);rw[zt0] at this;exact this
 refine⟨fun m σ' H'=>∃ (line:List Nat) (dep:Nat->Nat) (fr:Nat->Option (Nat×Int)) (into:List (Key×V)) (dn:Nat) (v6 v7:Option V),m=rows.length-dn/\dn<=line.length/\σ'=[some (.ref l),some (.ref d),some (.int p),some (.ref ld),some (.ref ln),some (.int (dn:Nat)),v6,v7]/\Same H H'/\H' ld=some (.dK into)/\H' ln=some (.lst (Y9 line))/\Xi H' into line fr/\Bfs rows gs p line dep/\Done rows gs line dep dn/\Ur rows gs p line dep fr/\(∀ q∈line,q<rows.length)/\∀ here,line[dn]?=some here->∀ x∈line,dep x<=dep here+1,
  ⟨_,[p],fun _=>0,fun _=>none,_,0,_,_,rfl,ztt _,rfl,s01,q1,e1,Bl _ _,za7 rows gs p,fun i q hi=>absurd hi (zu3 _),Bm,by simpa using hp,fun here _ x _=>ztt _⟩,?_⟩
 rintro m σ Ha ⟨line,dep,fr,into,dn,v6,v7,rfl,hdn,rfl,sa,hda,hna,io,B,Dn,fo,hlt,near⟩;have hll:=hbound _ B.nodup hlt;have hnl:(Y9 line).length=line.length:=by unfold Y9;rw[zs3]
 refine⟨_,rfl,_,rfl,ln,_,rfl,.inl (SqL.of hna),_,_,rfl,rfl,_,rfl,?_⟩;rw[hnl];by_cases hlt2:dn<line.length
 ·rw[zs6 (show ((dn:Nat):Int)<(line.length:Nat) by omega)];refine iteT ?_;obtain⟨here,hh⟩:∃ here,line[dn]?=some here:=⟨_,zs4 hlt2⟩;have hhm:=ztg hh;have hhere:=hlt here hhm;have hhv:(Y9 line)[dn]?=some (.int (here:Nat)):=by unfold Y9;rw[zta,hh];rfl
  refine⟨fun σ' H'=>∃ (line:List Nat) (dep:Nat->Nat) (fr:Nat->Option (Nat×Int)) (into:List (Key×V)) (v6 v7:Option V),dn+1<=line.length/\σ'=[some (.ref l),some (.ref d),some (.int p),some (.ref ld),some (.ref ln),some (.int ((dn+1:Nat):Int)),v6,v7]/\Same H H'/\H' ld=some (.dK into)/\H' ln=some (.lst (Y9 line))/\Xi H' into line fr/\Bfs rows gs p line dep/\Done rows gs line dep (dn+1)/\Ur rows gs p line dep fr/\(∀ q∈line,q<rows.length)/\∀ here,line[dn+1]?=some here->∀ x∈line,dep x<=dep here+1,
   fun σ' H' ⟨line,dep,fr,into,v6,v7,a1,a2,a3,a4,a5,a6,a7,a8,a9,a10,a11⟩=>⟨rows.length-(dn+1),by omega,line,dep,fr,into,dn+1,v6,v7,rfl,a1,a2,a3,a4,a5,a6,a7,a8,a9,a10,a11⟩,?_⟩
  have hr':rows[here]?=some (rows[here]'hhere):=zs4 hhere;generalize (rows[here]'hhere)=r at hr';obtain⟨lr,e2,e3⟩:=il.getR hr';have hl':(ls.map V.ref)[here]?=some (.ref lr):=by rw[zta,e2];rfl
  refine⟨_,rfl,_,rfl,ln,_,_,_,rfl,rfl,SqL.of hna,Ye hhv,?_⟩;refine⟨_,rfl,_,_,rfl,rfl,?_⟩;refine⟨_,rfl,_,rfl,l,_,_,_,rfl,rfl,SqL.of (sa _ _ hl),Ye hl',lr,rfl,⟨_,SqL.of (sa _ _ e3)⟩,?_⟩
  let jv2:Nat->L2.St->Hp->Prop:=fun j σ' H'=>∃ (line:List Nat) (dep:Nat->Nat) (fr:Nat->Option (Nat×Int)) (into:List (Key×V)) (v7:Option V),σ'=[some (.ref l),some (.ref d),some (.int p),some (.ref ld),some (.ref ln),some (.int ((dn+1:Nat):Int)),some (.int (here:Nat)),v7]/\Same H H'/\H' ld=some (.dK into)/\H' ln=some (.lst (Y9 line))/\Xi H' into line fr/\Bfs rows gs p line dep/\Done rows gs line dep dn/\Ur rows gs p line dep fr/\(∀ q∈line,q<rows.length)/\line[dn]?=some here/\(∀ x∈line,dep x<=dep here+1)/\∀ n∈r.take j,∀ q':Nat,gs[q']?=some (.int n)->q'∈line
  refine Wm (K:=K) (a:=lr) (xs:=r.map V.int) jv2
   ⟨line,dep,fr,into,_,rfl,sa,hda,hna,io,B,Dn,fo,hlt,hh,near here hh,by simp⟩ (fun j σ' H' _ ⟨_,_,_,_,_,_,z,_⟩=>SqL.of (z _ _ e3)) ?_ ?_
  ·rintro j y σ' Hx hy ⟨line,dep,fr,into,w7,rfl,sx,hdx,hnx,io,B,Dn,fo,hlt,hh,near,pr⟩;have hj:j<r.length:=by have:=(zs5.mp hy).1;rw[zs3] at this;exact this
   have hhm:=ztg hh;have hrj:r[j]?=some (r[j]'hj):=zs4 hj;have etk:r.take (j+1)=r.take j++[r[j]'hj]:=zts hj;generalize (r[j]'hj)=n at hrj etk;have ey:y=.int n:=by rw[zta,hrj] at hy;exact(Option.some.inj hy).symm
   subst ey;have hnr:=ztg hrj;have hll:=hbound _ B.nodup hlt;have prev:(∀ q':Nat,gs[q']?=some (.int n)->q'∈line)->∀ m∈r.take (j+1),∀ q':Nat,gs[q']?=some (.int m)->q'∈line:=fun k m hm=>by
    rw[etk] at hm;rcases zth.mp hm with z|z
    ·exact pr m z
    ·rw[zs9.mp z];exact k
   rcases tk.iff n with ⟨q',hq',hv⟩|⟨hno,hv⟩
   ·by_cases hin:q'∈line
    ·refine X0 (b:=false) (fun Q k=>?_) (iteF (Zu ⟨line,dep,fr,into,_,rfl,sx,hdx,hnx,io,B,Dn,fo,hlt,hh,near,prev fun q2 h2=>by rw[FP.inj q2 q' n h2 hq'];exact hin⟩));refine⟨_,rfl,_,rfl,d,_,rfl,DGet.k (k:=inl n) (sx _ _ hd),_,rfl,?_⟩;rw[hv];refine iteT ⟨_,rfl,_,rfl,d,_,rfl,hv▸DGet.k (k:=inl n) (sx _ _ hd),_,rfl,ld,_,rfl,DGet.k (k:=inl (q':Int)) hdx,_,rfl,?_⟩;rw[(io.has q').mpr hin];exact k
    ·have hnin:(valV into (inl (q':Int):Key)).isSome=false:=by
      rw[Bool.eq_false_iff];exact fun z=>hin ((io.has q').mp z)
     have hq'l:q' < rows.length:=by
      have:=(zs5.mp hq').1;rw[FP.len] at this;exact this
     have ha:adjN rows gs here n q':=⟨⟨r,hr',hnr⟩,hq'⟩;obtain⟨B',old,all⟩:=B.app (dn:=dn) hh near ha hin;refine X0 (b:=true) (fun Q k=>?_) (iteT ?_)
     ·refine⟨_,rfl,_,rfl,d,_,rfl,DGet.k (k:=inl n) (sx _ _ hd),_,rfl,?_⟩;rw[hv];refine iteT ⟨_,rfl,_,rfl,d,_,rfl,hv▸DGet.k (k:=inl n) (sx _ _ hd),_,rfl,ld,_,rfl,DGet.k (k:=inl (q':Int)) hdx,_,rfl,?_⟩;rw[hnin];exact k
     ·refine⟨_,rfl,_,rfl,sz2,fun t ht=>?_⟩;have t1:=Zf (o:=.tup [.int (here:Nat),.int n]) ht;have st:=sx.trans t1;have hdt:=t1 _ _ hdx;have hnt:=t1 _ _ hnx;have et:upd Hx t (.tup [.int (here:Nat),.int n]) t=some (.tup [.int (here:Nat),.int n]):=Zd;have iot:=io.same t1;generalize upd Hx t (.tup [.int (here:Nat),.int n])=Ht at t1 st hdt hnt et iot;refine⟨_,rfl,_,rfl,_,rfl,d,_,rfl,hv▸DGet.k (k:=inl n) (st _ _ hd),ld,_,rfl,DPut.k (k:=inl (q':Int)) hdt ?_,?_⟩
      ·have:=io.len;omega
      have sd:Same H (upd Ht ld (.dK (putK into (inl (q':Int)) (.ref t)))):=Xc hld st;have ed:upd Ht ld (.dK (putK into (inl (q':Int)) (.ref t))) ld=some (.dK (putK into (inl (q':Int)) (.ref t))):=Zd;have en:upd Ht ld (.dK (putK into (inl (q':Int)) (.ref t))) ln=some (.lst (Y9 line)):=by rw[Zi (Ne.symm nln)];exact hnt
      have iod:Xi (upd Ht ld (.dK (putK into (inl (q':Int)) (.ref t)))) (putK into (inl (q':Int)) (.ref t)) (line++[q']) (Mc fr q' (here,n)) :=
       (iot.app hin et).mono fun c xs e=>by rw[Zi (Yo e hdt (fun z=>nomatch z))];exact e
      generalize upd Ht ld (.dK (putK into (inl (q':Int)) (.ref t)))=Hd at sd ed en iod;have hsz:(Y9 line).length<sizeLine:=by unfold Y9;rw[zs3];omega
      refine⟨_,rfl,ln,_,rfl,en,_,rfl,_,rfl,d,_,rfl,hv▸DGet.k (k:=inl n) (sd _ _ hd),_,en,hsz,line++[q'],Vc dep q' (dep here+1),Mc fr q' (here,n),putK into (inl (q':Int)) (.ref t),_,rfl,Xc fln sd,?_,?_,?_,B',Dn.app ?_ ⟨_,rfl⟩ old,fo.app hin B.memp hhm ha,?_,?_,?_,?_⟩
      ·rw[Zi nln];exact ed
      ·rw[Zd];unfold Y9;rw[ztl];rfl
      ·exact iod.mono fun c xs e=>by rw[Zi (Yo e en (fun z=>nomatch z))];exact e
      ·have:=(zs5.mp hh).1;omega
      ·intro q hq;rcases zth.mp hq with z|z
       ·exact hlt q z
       ·rw[zs9.mp z];exact hq'l
      ·rw[zt8 (zs5.mp hh).1];exact hh
      ·intro x hx;rw[old here hhm];exact all x hx
      ·intro m hm q2 h2;rw[etk] at hm;rcases zth.mp hm with z|z
       ·exact zty _ (pr m z q2 h2)
       ·rw[zs9.mp z] at h2;rw[FP.inj q2 q' n h2 hq'];exact ztw _ (zs9.mpr rfl)
   ·refine X0 (b:=false) (fun Q k=>?_) (iteF (Zu ⟨line,dep,fr,into,_,rfl,sx,hdx,hnx,io,B,Dn,fo,hlt,hh,near,prev fun q2 h2=>absurd h2 (hno q2)⟩));refine⟨_,rfl,_,rfl,d,_,rfl,DGet.k (k:=inl n) (sx _ _ hd),_,rfl,?_⟩;rw[hv];exact iteF k
  ·rintro σ' Hx ⟨line,dep,fr,into,w7,rfl,sx,hdx,hnx,io,B,Dn,fo,hlt,hh,near,pr⟩;rw[zs3,ztp] at pr;have hlt3:=(zs5.mp hh).1;refine⟨line,dep,fr,into,_,_,by omega,rfl,sx,hdx,hnx,io,B,fun i q hi hq n q' ha=>?_,fo,hlt,fun here2 hh2 x hx=>?_⟩
   ·by_cases e:i=dn
    ·rw[e,hh] at hq;cases hq;obtain⟨⟨r2,h1,h2⟩,h3⟩:=ha;rw[hr'] at h1;cases h1;have hm:=pr n h2 q' h3;exact⟨hm,near q' hm⟩
    ·exact Dn i q ⋯ hq n q' ha
   ·have:=B.sorted dn (dn+1) here here2 ⋯ hh hh2;have:=near x hx;omega
 ·rw[ztc (show ¬ (((dn:Nat):Int)<(line.length:Nat)) by omega)];refine iteF ⟨_,rfl,?_⟩;have e:dn=line.length:=by omega
  subst e;exact h ld into line dep fr Ha hda io B Dn fo hlt sa hld
abbrev U4:Stmt:=top 44
theorem Rl:Zl ["numbers","taken","number"] ["numbers","taken"] (Zj U4):=fnS
theorem Mu(F:Fun K "free_referee" "free_referee" U4 f fd)(T:Tx K mg a):FnOk P w K mg base (CX1 P w) 1 f fd ["numbers","taken"] (Hw K):=by
 refine F.okX Rl ⋯ fun _ _ _ _ H _ Q E hr h=>?_;obtain⟨l,d,r,kvs,rfl,hl,hd,h⟩:=h;have hu:=W8 hr;refine⟨_,(Zc (Xf PassesOwn.leaving rfl (Yr (K:=K) rfl (pv 0)) (pN 2 Rl.nd)
  (Ze (Zz (Q9 (Na hu (pv 2) (pv 1)))
   (Ze (Zn (pv 2)))
   Zp)))
 (Ze (Zn Yu))),?_⟩
 let jv3:Nat->L2.St->Hp->Prop:=fun i σ' H'=>(∃ u,σ'=[some (.ref l),some (.ref d),u])/\H'=H/\∀ n∈r.take i,(valV kvs (inl n:Key)).isSome=true
 refine⟨_,rfl,l,rfl,⟨_,SqL.of hl⟩,Wm (xs:=r.map V.int) jv3
  ⟨⟨none,rfl⟩,rfl,by simp⟩ (fun i σ' H' hi p=>by rw[p.2.1];exact SqL.of hl) (fun i x σ' H' hx p=>?_) (fun σ' H' p=>?_)⟩
 ·obtain⟨⟨u,rfl⟩,rfl,hp⟩:=p;have hi:i<r.length:=by have:=(zs5.mp hx).1;rw[zs3] at this;exact this
  have e:x=.int (r[i]'hi):=by
   rw[zta,zs4 hi] at hx;exact(Option.some.inj hx).symm
  subst e;refine X0 (b:=!(valV kvs (inl (r[i]'hi):Key)).isSome) (fun Q k=>⟨_,rfl,_,rfl,d,_,rfl,DGet.k (k:=inl (r[i]'hi)) hd,_,rfl,k⟩) ?_;cases hv:valV kvs (inl (r[i]'hi):Key) with
  | none=>exact iteT ⟨_,rfl,h (some (r[i]'hi)) (fun n hn=>by cases hn;exact⟨ztz hi,hv⟩) (fun z=>nomatch z)⟩
  | some y =>
    refine iteF (Zu ⟨⟨_,rfl⟩,rfl,fun n hn=>?_⟩);rw[zts hi] at hn;rcases zth.mp hn with z|z
    ·exact hp n z
    ·rw[zs9.mp z,hv];rfl
 ·obtain⟨⟨u,rfl⟩,rfl,hp⟩:=p;rw[zs3,ztp] at hp;exact h none (fun n z=>nomatch z) fun _=>hp
abbrev K2:Stmt:=top 45
theorem Qu:Zl ["into","place","number","steps","step"] ["into","place","number"] (Zj K2):=fnS
theorem zbv(F:Fun K "traced" "traced" K2 f fd)(T:Tx K mg a):FnOk P w K mg base (CX1 P w) 1 f fd ["into","place","number"] (E6 K):=by
 refine F.okX Qu ⋯ fun _ _ _ _ H _ Q E hr h=>?_;obtain⟨t,q,p,w,rows,gs,into,line,dep,fr,rfl,ht,io,fo,d0,hp,hq,hdq,h⟩:=h;have hu:=W8 hr;refine⟨_,(Zc (pS 3 Qu.nd (Z7 (Za (Yk (Za (pv 1) (Za (pv 2) Zb))) Zb)))
 (Zc (pS 4 Qu.nd (pD hu (pv 0) (pv 1)))
 (Zc (Eb PassesOwn.leaving (Zo Ob (pv 4) Yu (Zr _))
  (Zc (Xo (pv 3) (pv 4))
  (Ze (pS 4 Qu.nd (pD hu (pv 0) (pI (iU K) (pv 4) Zh))))))
 (Zc (Z6 (zcj PySem.F.plainAttrs_list PySem.F.slot_list_reverse PySem.F.type_list_reverse C9 (pv 3)))
 (Ze (Zn (pv 3))))))),?_⟩
 have line0:200<sizeLine:=by rw[sizeLine_eq];decide
 have get:∀ {H':Hp},Same H H'->∀ k:Nat,DGet H' t (.int (k:Nat)) (valV into (inl (k:Int):Key)):=fun {H'} hs k=>.inl ⟨into,inl (k:Int),ht.imp (hs _ _) (fun ⟨o,e⟩=>⟨o,hs _ _ e⟩),rfl,rfl⟩;have fr0:∀ c∈line,fr c=none->c=p:=fun c hc hf=>by
  by_cases e:c=p
  ·exact e
  ·obtain⟨par,n,h1,_⟩:=fo.2 c hc e;rw[hf] at h1;cases h1
 have some_of:∀ c∈line,∃ v,valV into (inl (c:Int):Key)=some v:=fun c hc=>zui.mp ((io.has c).mpr hc);refine⟨_,rfl,_,rfl,sz2,fun m hm=>⟨sz1,fun lt hlt=>?_⟩⟩;have s1:=Zf (o:=.tup [.int (q:Nat),oV w]) hm;have e1:upd H m (.tup [.int (q:Nat),oV w]) m=some (.tup (Vp (q,w))):=Zd;generalize upd H m (.tup [.int (q:Nat),oV w])=H1 at s1 e1 hlt;have s2:=Zf (o:=.lst [V.ref m]) hlt;have e2:upd H1 lt (.lst [V.ref m]) lt=some (.lst [V.ref m]):=Zd;have e3:=s2 _ _ e1;have s3:=s1.trans s2;have hltn:H lt=none:=s1.free hlt;generalize upd H1 lt (.lst [V.ref m])=H2 at s2 e2 e3 s3;obtain⟨v0,hv0⟩:=some_of q hq;refine⟨_,rfl,_,rfl,t,v0,rfl,hv0▸get s3 q,?_⟩;refine⟨fun mm σ' H'=>∃ (cur:Nat) (st:List (Nat×Option Int)) (ts:List V) (v:V),mm=dep cur/\cur∈line/\valV into (inl (cur:Int):Key)=some v/\σ'=[some (.ref t),some (.int (q:Nat)),some (oV w),some (.ref lt),some v]/\Same H H'/\H' lt=some (.lst ts)/\Z0 H' ts (st.reverse.map Vp)/\Ch rows gs cur st q w/\st.length+dep cur=dep q+1,
  ⟨_,q,[(q,w)],_,v0,rfl,hq,hv0,rfl,s3,e2,.cons e3 .nil,.one q w,by show 1+dep q=_;omega⟩,?_⟩
 rintro mm σ' Ha ⟨cur,st,ts,v,rfl,hc,hv,rfl,sa,hta,htl,hch,hlen⟩;have htsl:ts.length=st.length:=by have:=htl.length;rw[zs3,List.length_reverse] at this;exact this
 refine⟨_,rfl,rfl,_,rfl,?_⟩;cases hf:fr cur with
 | none =>
   have hcp:=fr0 cur hc hf;subst hcp;have hvn:=io.none cur hc hf;rw[hv] at hvn;cases hvn;refine iteF ?_;refine⟨_,rfl,.inl ⟨rfl,_,SqL.of hta⟩,lt,ts,rfl,rfl,hta,_,rfl,?_⟩;refine h lt ts.reverse st _ Zd ?_ hch ⋯ (Xc hltn sa) hltn;have hr:=htl.reverse;rw[<- List.map_reverse,List.reverse_reverse] at hr;exact hr.mono fun c xs e=>by rw[Zi (Yo e hta (fun z=>nomatch z))];exact e
 | some x =>
   obtain⟨par,n⟩:=x;obtain⟨tt,h1,h2⟩:=io.some cur hc par n hf;rw[hv] at h1;cases h1;have hcp:cur≠p:=fun z=>by rw[z,fo.1] at hf;cases hf
   obtain⟨par',n',h3,h4,h5,h6⟩:=fo.2 cur hc hcp;rw[hf] at h3;cases h3;obtain⟨v',hv'⟩:=some_of par h4;refine iteT ?_;refine⟨fun σ' H'=>∃ (st:List (Nat×Option Int)) (ts:List V),σ'=[some (.ref t),some (.int (q:Nat)),some (oV w),some (.ref lt),some v']/\Same H H'/\H' lt=some (.lst ts)/\Z0 H' ts (st.reverse.map Vp)/\Ch rows gs par st q w/\st.length+dep par=dep q+1,
    fun σ' H' ⟨st,ts,a1,a2,a3,a4,a5,a6⟩=>⟨dep par,by omega,par,st,ts,v',rfl,h4,hv',a1,a2,a3,a4,a5,a6⟩,?_⟩
   have s4:Same H (upd Ha lt (.lst (ts++[V.ref tt]))):=Xc hltn sa;refine⟨_,rfl,lt,_,rfl,hta,_,rfl,_,hta,by omega,?_⟩;refine⟨_,rfl,_,rfl,tt,_,_,_,rfl,rfl,SqT.of (s4 _ _ h2),rfl,t,v',rfl,hv'▸get s4 par,(par,some n) :: st,ts++[V.ref tt],rfl,s4,Zd,?_,.step h5 hch,?_⟩
   ·rw[zuy,ztl];exact(htl.mono fun c xs e=>by rw[Zi (Yo e hta (fun z=>nomatch z))];exact e).snoc (s4 _ _ h2)
   ·rw[ztk];omega
abbrev Fz:Stmt:=top 46
theorem Qb:Zl ["may","given","place","taken","into","reached","number"] ["may","given","place"] (Zj Fz):=fnS
theorem zeb(F:Fun K "chain" "chain" Fz f fd)(T:Tx K mg a)(zlp:Z4 P w K mg base "places_taken" 1 ["given"] (Fn K))(zl6:Z4 P w K mg base "steps_into" 1 ["may","taken","start"] (Bj K))(zni:Z4 P w K mg base "free_referee" 1 ["numbers","taken"] (Hw K))(zo1:Z4 P w K mg base "traced" 1 ["into","place","number"] (E6 K)):FnOk P w K mg base (CX1 P w) 2 f fd ["may","given","place"] (Fl K):=by
 refine F.okX Qb ⋯ fun _ _ _ _ H _ Q E hr h=>?_;obtain⟨l,lg,ls,rows,nu,gs,p,rfl,hl,il,mo,hg,FP,hp,hgp,h⟩:=h;refine⟨_,(Zc (pS 3 Qb.nd (pF zlp hr (Za (pv 1) Zb)))
 (Zc (pS 4 Qb.nd (pF zl6 hr (Za (pv 0) (Za (pv 3) (Za (pv 2) Zb)))))
 (Zc (Xf PassesOwn.leaving rfl (Ar (pv 4)) (pN 5 Qb.nd)
  (Zc (pS 6 Qb.nd (pF zni hr (Za (pI (iL K) (pv 0) (pv 5)) (Za (pv 3) Zb))))
  (Ze (Zz (Zo Ob (pv 6) Yu (Zr _))
   (Ze (Zn (pF zo1 hr (Za (pv 4) (Za (pv 5) (Za (pv 6) Zb))))))
   Zp))))
 (Ze (Zn (pF zo1 hr (Za (pv 4) (Za (Zm (zba rfl) (by rfl) T.zpt PyProof.Rows.boot_max (Za (pv 4) Zb)) (Za Yu Zb))))))))),?_⟩
 have hrl:rows.length<=100:=zto mo.few ⋯;refine⟨_,rfl,lg,gs,rfl,hg,FP.one,FP.inj,by rw[FP.len];exact hrl,fun d kvs H1 hd1 tk s1 hdn=>?_⟩;refine⟨_,rfl,_,rfl,_,rfl,l,d,ls,rows,kvs,gs,p,rfl,s1 _ _ hl,il.same s1,hrl,hd1,tk,FP,hp,fun t into line dep fr H2 ht io B Dn fo hlt s2 htn=>?_⟩;have hbound:line.length<=rows.length:=by
  have:=B.nodup.length_le_of_subset (l₂:=List.range rows.length) fun c hcc=>zt7.mpr (hlt c hcc);rw[zt0] at this;exact this
 have hd2:=s2 _ _ hd1;have s02:=s1.trans s2;have hfree:∀ q n,(∃ r,rows[q]?=some r/\n∈r)->valV kvs (inl n:Key)=none->Pf rows gs q n:=fun q n hr hv=>⟨hr,fun j hj=>by rw[tk.has n j hj] at hv;cases hv⟩
 have hdep:∀ q∈line,dep q<=100:=fun q hq=>by
  obtain⟨pre,hc,hlp⟩:=fo.back B.d0 (dep q) q q none [(q,none)] rfl hq (.one q none);have nd:=hc.nodup fun k hk=>by
   rw[zs8,hlp];have:=(B.full Dn hk).2;show dep q+1<=k+1;omega
  have hlt':=hc.lt FP hp;have:=nd.length_le_of_subset (l₂:=List.range rows.length) fun x hx=>by
   obtain⟨s,hs,rfl⟩:=ztd.mp hx;exact zt7.mpr (hlt' s hs)
  rw[zs3,zt0,zs8,hlp] at this;omega
 have htH:H t=none:=s1.free htn;refine⟨_,rfl,t,into,rfl,ht,fun o=>?_⟩;have e0:upd H2 t (.frz o (.dK into)) t=some (.frz o (.dK into)):=Zd;have s3:Same H (upd H2 t (.frz o (.dK into))):=Xc htH s02;have hd3:upd H2 t (.frz o (.dK into)) d=some (.dK kvs):=by rw[Zi (Zg hd1 htn)];exact hd2
 have io3:Xi (upd H2 t (.frz o (.dK into))) into line fr:=io.mono fun c xs e=>by rw[Zi (Yo e ht (fun z=>nomatch z))];exact e
 generalize upd H2 t (.frz o (.dK into))=H3 at e0 s3 hd3 io3;have hil:into.length=line.length:=io.len;have key:∀ (i:Nat) (k:Key) (v:V),into[i]?=some (k,v)->∃ q:Nat,line[i]?=some q/\k=inl (q:Int):=fun i k v e=>by
  have:=congrArg (·[i]?) io.keys;simp only[zta,e,zt6] at this;cases hq:line[i]? with
  | none=>rw[hq] at this;cases this
  | some q=>rw[hq] at this;exact⟨q,rfl,Option.some.inj this⟩
 let jv4:Nat->L2.St->Hp->Prop:=fun i σ' H'=>(∃ u v,σ'=[some (.ref l),some (.ref lg),some (.int p),some (.ref d),some (.ref t),u,v])/\H'=H3/\∀ (j q:Nat),j<i->line[j]?=some q->¬ V3 rows gs q
 refine E5 (a:=t) (o:=o) (kvs:=into) jv4 ⟨⟨none,none,rfl⟩,rfl,fun j q hj=>absurd hj (zu3 _)⟩ (fun i σ' H' _ p=>by rw[p.2.1];exact e0) (fun i k v σ' H' hk hP=>?_) (fun σ' H' hP=>?_)
 ·obtain⟨⟨u,v',rfl⟩,rfl,hno⟩:=hP;obtain⟨q,hq,rfl⟩:=key i k v hk;have hqm:=ztg hq;have hqr:rows[q]?=some (rows[q]'(hlt q hqm)):=zs4 (hlt q hqm);generalize (rows[q]'(hlt q hqm))=r at hqr;obtain⟨lr,e2,e3⟩:=il.getR hqr;have hl':(ls.map V.ref)[q]?=some (.ref lr):=by rw[zta,e2];rfl
  refine⟨_,rfl,_,rfl,l,_,_,_,rfl,rfl,SqL.of (s3 _ _ hl),Ye hl',_,rfl,lr,d,r,kvs,rfl,s3 _ _ e3,hd3,fun w hw1 hw2=>?_⟩;walk_at "if";refine X0 (b:=!decide (oV w=.non)) (fun Q k=>⟨_,rfl,rfl,_,rfl,k⟩) ?_;cases w with
  | none =>
    refine iteF (Zu ⟨⟨_,_,rfl⟩,rfl,fun j q2 hj hq2=>?_⟩);by_cases e:j=i
    ·rw[e,hq] at hq2;cases hq2;rintro⟨n,⟨r2,h1,h2⟩,h3⟩;rw[hqr] at h1;cases h1;have:=hw2 rfl n h2;rw[tk.not n h3] at this;cases this
    ·exact hno j q2 ⋯ hq2
  | some n =>
    obtain⟨hn1,hn2⟩:=hw1 n rfl;refine iteT ⟨_,rfl,_,rfl,_,rfl,t,q,p,some n,rows,gs,into,line,dep,fr,rfl,.inr ⟨o,e0⟩,io3,fo,B.d0,B.memp,hqm,hdep q hqm,fun lt ts st H4 h1 h2 h3 h4 s4 hltn=>?_⟩;have hf:=hfree q n ⟨r,hqr,hn1⟩ hn2;have Di:Done rows gs line dep i:=fun j x hj=>Dn j x (Nat.lt_trans hj (zs5.mp hq).1);exact h lt ts st q (some n) H4 h1 h2 (Bg B Di hq hno hf h3 h4) (s3.trans s4) (s3.free hltn)
 ·obtain⟨⟨u,v',rfl⟩,rfl,hno⟩:=hP;have hpos:0<line.length:=List.length_pos_of_mem B.memp;refine⟨_,rfl,⟨_,rfl,t,into,line.map fun q:Nat=>(q:Int),rfl,.inr ⟨o,e0⟩,by rw[io.keys,zup];rfl,by rw[zs3];exact hpos,fun M hM hmax=>?_⟩⟩;obtain⟨e,he,rfl⟩:=ztd.mp hM;refine⟨t,e,p,none,rows,gs,into,line,dep,fr,rfl,.inr ⟨o,e0⟩,io3,fo,B.d0,B.memp,he,hdep e he,fun lt ts st H4 h1 h2 h3 h4 s4 hltn=>?_⟩;refine h lt ts st e none H4 h1 h2 (Bh B Dn (fun q hq=>?_) (fun q hq=>?_) h3 h4) (s3.trans s4) (s3.free hltn)
  ·obtain⟨j,hj,e2⟩:=zud hq;exact hno j q ⋯ (by rw[zs4 hj,e2])
  ·have:=hmax _ (ztd.mpr ⟨q,hq,rfl⟩);omega
abbrev Nw:Stmt:=top 47
theorem S7:Zl ["given","steps","behind","place","number"] ["given","steps"] (Zj Nw):=fnS
theorem Bx(F:Fun K "stepped" "stepped" Nw f fd)(T:Tx K mg a):FnOk P w K mg base (CX1 P w) 1 f fd ["given","steps"] (Ni K):=by
 refine F.okX S7 ⋯ fun _ _ _ _ H _ Q E hr h=>?_;obtain⟨b,c,xs,ts,st,rfl,hb,hc,ht,hst,ho,hl,hls,h⟩:=h;refine⟨_,(Zc (pS 2 S7.nd (Yv (Xh (K:=K) rfl) (by rfl) T.zlx PyProof.Rows.boot_list (Za (pv 0) Zb)))
 (Zc (Xf PassesOwn.leaving rfl (Yr (K:=K) rfl (pv 1)) (Wt (K:=K) (n:=2) rfl rfl (Z1 (pN 3 S7.nd) (Z1 (pN 4 S7.nd) Wq)))
  (Ze (Cs (pv 4) (zb2 (pv 2) (pv 3) En))))
 (Ze (Zn (pv 2))))),?_⟩
 have htl:ts.length=st.length:=by have:=ht.length;rw[zs3] at this;exact this
 refine⟨_,rfl,b,_,rfl,.inl (SqL.of hb),fun l hln=>?_⟩
 let jv5:Nat->L2.St->Hp->Prop:=fun i σ' H'=>(∃ u v,σ'=[some (.ref b),some (.ref c),some (.ref l),u,v])/\H' l=some (.lst (Yp (st.take i) xs))/\(∀ a o,H a=some o->H' a=some o)
 refine⟨_,rfl,c,rfl,⟨ts,SqL.of (Zf hln _ _ hc)⟩,Wm (xs:=ts) jv5 ⟨⟨none,none,rfl⟩,Zd,Zf hln⟩ (fun i σ' H' hi p=>SqL.of (p.2.2 _ _ hc)) (fun i x σ' H' hx p=>?_) (fun σ' H' p=>?_)⟩
 ·obtain⟨⟨u,v,rfl⟩,hl2,hs⟩:=p;have hi:i<st.length:=by rw[<- htl];exact(zs5.mp hx).1
  obtain⟨t,e1,e2⟩:=ziq ht (zs4 hi);rw[hx] at e1;cases e1;refine⟨t,_,rfl,SqT.of (hs _ _ e2),rfl,_,_,rfl,_,_,rfl,rfl,?_⟩;have hlen:(Yp (st.take i) xs).length=xs.length:=Xs _ _;have hp:(st[i]'hi).1<xs.length:=hst _ (ztz hi);have e3:Yp (st.take (i+1)) xs=(Yp (st.take i) xs).set (st[i]'hi).1 (oV (st[i]'hi).2):=by
   rw[zts hi,Hv];rfl
  refine⟨_,rfl,_,rfl,_,rfl,l,_,_,(st[i]'hi).1,rfl,rfl,hl2,(show ixN _ (((st[i]'hi).1:Nat):Int)=some _ by unfold ixN;rw[if_pos ⋯,if_pos ⋯,ztq]),⟨_,_,rfl⟩,?_,fun a o q=>?_⟩
  ·rw[e3];exact Zd
  ·rw[Zi (Zg q hln)];exact hs a o q
 ·obtain⟨⟨u,v,rfl⟩,hl2,hs⟩:=p;rw[htl,ztp] at hl2;exact⟨_,rfl,h l H' hl2 hs hln⟩
abbrev By:Stmt:=top 49
theorem Lp:Zl ["may","given","place"] ["may"] (Zj By):=fnS
theorem zfg(F:Fun K "fill" "fill" By f fd)(T:Tx K mg a)(zms:Z4 P w K mg base "stepped" 1 ["given","steps"] (Ni K))(zoj:Z4 P w K mg base "chain" 2 ["may","given","place"] (Fl K)):FnOk P w K mg base (CX1 P w) 3 f fd ["may"] (zc4 K):=by
 refine F.okX Lp ⋯ fun _ _ _ _ H _ Q E hr h=>?_;obtain⟨l,ls,rows,nu,rfl,hl,il,mo,h⟩:=h;refine⟨_,(Zc (D5 (i:=1) Lp.nd rfl rfl rfl (cT [] []) (Yr (K:=K) rfl (pv 0)) (fun _ _ _ _ _=>V2) (fun _ _ _ _ _=>Yu))
 (Zc (Xf PassesOwn.leaving rfl (Wd rfl T.zln (Za (Zm (cL K) (by rfl) T.zk5 PySem.boot_len (Za (pv 0) Zb)) Zb)) (pN 2 Lp.nd)
  (Ze (pS 1 Lp.nd (pF zms hr (Za (pv 1) (Za (pF zoj hr (Za (pv 0) (Za (pv 1) (Za (pv 2) Zb)))) Zb))))))
 (Ze (Zn (pv 1))))),?_⟩
 have hlen:=il.length;have hrl:rows.length<=100:=zto mo.few ⋯;refine⟨_,rfl,l,rfl,⟨_,SqL.of hl⟩,?_⟩;refine Um (K:=K) (a:=l) (xs:=ls.map V.ref) (fun i ys H'=>H'=H/\ys=(rows.take i).map fun _=>V.non) ⟨rfl,by simp⟩ (fun i ys H' _ z=>by rw[z.1];exact SqL.of hl) (szN (by rw[zs3];omega)) (fun i ys H' z=>by rw[z.2,zs3,List.length_take];omega) ?_ ?_
 ·rintro i x ys H' hx ⟨rfl,rfl⟩;have hi:i<rows.length:=by
   have:=(zs5.mp hx).1;rw[zs3] at this;omega
  unfold tYes;dsimp only;rw[if_pos rfl];refine⟨rfl,?_⟩;rw[zts hi,ztl];rfl
 ·rintro ys H' ⟨rfl,rfl⟩ lg hlg;rw[zs3,hlen,ztp];have s1:=Zf (o:=.lst (rows.map fun _=>V.non)) hlg;have e1:upd H' lg (.lst (rows.map fun _=>V.non)) lg=some (.lst (rows.map fun _=>V.non)):=Zd;generalize upd H' lg (.lst (rows.map fun _=>V.non))=H1 at s1 e1;refine⟨_,rfl,l,_,rfl,.inl (SqL.of (s1 _ _ hl)),_,rfl,by omega,by rw[zs3];omega,?_⟩;rw[zs3,hlen,ztq]
  let jv6:Nat->L2.St->Hp->Prop:=fun i σ' Hx=>∃ (lg:Addr) (gs:List V) (v2:Option V),σ'=[some (.ref l),some (.ref lg),v2]/\Same H' Hx/\Hx lg=some (.lst gs)/\Ui rows gs i/\H' lg=none
  refine W7 jv6 ⟨lg,_,_,rfl,s1,e1,Jv rows,hlg⟩ ?_ ?_
  ·rintro i σ' Hx hi ⟨lg,gs,v2,rfl,sx,hgx,F,hn⟩;rw[zuq];refine⟨_,rfl,⟨_,rfl,_,rfl,_,rfl,l,lg,ls,rows,nu,gs,i,rfl,sx _ _ hl,il.same sx,mo,hgx,F.fill,hi,F.non (ztb _) hi,fun lt ts st e w H2 h1 h2 c s2 hltn=>?_⟩⟩;refine⟨lg,lt,gs,ts,st,rfl,s2 _ _ hgx,h1,h2,fun s hs=>?_,F.fill.one,by rw[F.fill.len];omega,?_,fun l' H3 h3 s3 hl'=>?_⟩
   ·rw[F.fill.len];exact c.ch.lt F.fill hi s hs
   ·have:=c.len F.fill hi;omega
   ·exact⟨l',_,_,rfl,(sx.trans s2).trans s3,h3,F.step hi c,(sx.trans s2).free hl'⟩
  ·rintro σ' Hx ⟨lg,gs,v2,rfl,sx,hgx,F,hn⟩;exact⟨_,rfl,h lg gs Hx hgx F.fill F.last sx hn⟩
abbrev U5:Stmt:=top 50
theorem Mv:Zl ["given"] ["given"] (Zj U5):=fnS
theorem Mw(F:Fun K "left_without" "left_without" U5 f fd)(T:Tx K mg a):FnOk P w K mg base (CX1 P w) 1 f fd ["given"] (Bf K):=by
 refine F.okX Mv ⋯ fun _ _ _ _ H _ Q E hr h=>?_;obtain⟨b,xs,rfl,hb,ho,hl,h⟩:=h;refine⟨_,(Ze (Zn (R4 rfl (R1.mk (xo:=["place","number"]) (ys:=[]) (js:=[]) rfl rfl ⋯ ⋯ rfl (by repeat' (first|exact True.intro|apply And.intro|rfl)) (by repeat' (first|exact True.intro|apply And.intro|rfl)) ⋯) (Aq (K:=K) rfl rfl T.zmf (Za (pv 0) Zb)) (fun _ _ _ _ _=>Lh (Zo To (pv 1) Yu (Zr _))) (fun _ _ _ _ _=>(Wt (K:=K) (n:=2) rfl rfl (Z1 (Xy (i:=0) (show List.Nodup [("place":Str),("number":Str)] by decide +kernel) rfl (by first|exact Or.inl rfl|exact Or.inr rfl)) (Z1 (Xy (i:=1) (show List.Nodup [("place":Str),("number":Str)] by decide +kernel) rfl (by first|exact Or.inl rfl|exact Or.inr rfl)) Wq)))) (fun _ _ _ _ _=>(pv 0))))),?_⟩;refine⟨_,rfl,b,rfl,⟨_,SqL.of hb⟩,Bi (fun i=>decide (xs[i]?=some .non)) (fun i=>.int (i:Nat)) ⋯ (SqL.of hb) (fun i x t H' N ys hx hs ht k=>?_) (fun H' l hs hl'=>?_)⟩
 ·refine⟨t,_,rfl,SqT.of Zd,rfl,?_⟩;have k':=k _ (hs.trans (Zf (o:=.tup [.int (i:Nat),x]) ht));refine⟨_,_,rfl,_,_,rfl,rfl,⟨[some (.int (i:Nat)),some x],rfl,rfl⟩,?_⟩;rw[hx] at k';have e2:decide (some x=some V.non)=decide (x=V.non):=by
   by_cases z:x=V.non
   ·rw[zs6 z,zs6 (congrArg some z)]
   ·rw[ztc z,ztc (fun q=>z (Option.some.inj q))]
  rw[e2] at k';refine⟨_,rfl,rfl,_,rfl,?_⟩;by_cases z:x=V.non
  ·rw[zs6 z] at k' ⊢;exact⟨_,rfl,k'⟩
  ·rw[ztc z] at k' ⊢;exact k'
 ·exact h l _ Zd (hs.trans (Zf hl')) (hs.free hl')
abbrev P0:Stmt:=top 51
theorem Ci:Zl ["given","number"] ["given","number"] (Zj P0):=fnS
theorem Cj(F:Fun K "place_of" "place_of" P0 f fd)(T:Tx K mg a):FnOk P w K mg base (CX1 P w) 1 f fd ["given","number"] (Hs K):=by
 refine F.okX Ci ⋯ fun _ _ _ _ H _ Q E hr h=>?_;obtain⟨b,xs,n,rfl,hb,ho,hl,h⟩:=h;refine⟨_,(Ze (Zn (Ea (Zo (L8 (K:=K) rfl) (pv 1) (pv 0) (by with_unfolding_all rfl)) (zck PySem.F.plainAttrs_list PySem.F.slot_list_index PySem.F.type_list_index zc7 (pv 0) (Za (pv 1) Zb)) Yu))),?_⟩;have fl:xs.all Rj=true:=List.all_eq_true.mpr fun x hx=>by rcases ho x hx with rfl|⟨_,rfl⟩<;>rfl
 refine⟨_,rfl,_,rfl,b,xs,rfl,.inl (SqL.of hb),rfl,fl,_,rfl,?_⟩;have key:=@zc8 xs n ho;show if inV (V.int n) xs=true then _ else _
 cases hp:X5 xs n with
 | none =>
   rw[hp] at h;have hno:¬ inV (V.int n) xs=true:=fun z=>by
    obtain⟨j,hj⟩:=key.mp z;have:=List.find?_eq_none.mp hp j (zt7.mpr (zs5.mp hj).1);exact this (zs6 hj)
   rw[if_neg hno];exact h H (Same.refl H)
 | some j =>
   rw[hp] at h;obtain⟨h1,h2,h3⟩:=List.find?_range_eq_some.mp hp;have hj:xs[j]?=some (.int n):=of_decide_eq_true h1;rw[if_pos (key.mpr ⟨j,hj⟩)];refine⟨_,rfl,?_,_,rfl,b,xs,.int n,j,rfl,rfl,hb,rfl,fl,⟨_,hj,(Lj (.inr ⟨_,rfl⟩)).mpr rfl⟩,fun m z hm hz=>?_,h H (Same.refl H)⟩
   ·exact .inl ⟨rfl,xs,SqL.of hb⟩
   ·have:=h3 m hm;have hne:¬ z=.int n:=fun q=>by
     rw[q] at hz;rw[zs6 hz] at this;cases this
    cases hb2:eqV z (.int n) with
    | false=>rfl
    | true=>exact absurd ((Lj (ho z (ztg hz))).mp hb2) hne
abbrev P1:Stmt:=top 53
theorem Wb:Zl ["may","given","taken","places","gap","referees","place","number"] ["may","given"] (Zj P1):=fnS
theorem Ck(F:Fun K "shortage" "shortage" P1 f fd)(T:Tx K mg a)(zlp:Z4 P w K mg base "places_taken" 1 ["given"] (Fn K))(zlo:Z4 P w K mg base "left_without" 1 ["given"] (Bf K))(zl6:Z4 P w K mg base "steps_into" 1 ["may","taken","start"] (Bj K)):FnOk P w K mg base (CX1 P w) 2 f fd ["may","given"] (Av K):=by
 refine F.okX Wb ⋯ fun _ _ _ _ H _ Q E hr h=>?_;obtain⟨l,lg,ls,rows,nu,gs,rfl,hl,il,mo,hg,FP,NA,h⟩:=h;have hu:=W8 hr;refine⟨_,(Zc (pS 2 Wb.nd (pF zlp hr (Za (pv 1) Zb)))
 (Zc (pS 3 Wb.nd Oc)
 (Zc (Xf PassesOwn.leaving rfl (Yr (K:=K) rfl (pF zlo hr (Za (pv 1) Zb))) (pN 4 Wb.nd)
  (Ze (Z6 (zck PySem.F.plainAttrs_dict PySem.F.slot_dict_update PySem.F.type_dict_update zbc (pv 3) (Za (pF zl6 hr (Za (pv 0) (Za (pv 2) (Za (pv 4) Zb)))) Zb)))))
 (Zc (pS 5 Wb.nd Oc)
 (Zc (Xf PassesOwn.leaving rfl (Ar (pv 3)) (pN 6 Wb.nd)
  (Ze (Xf PassesOwn.leaving rfl (Yr (K:=K) rfl (pI (iL K) (pv 0) (pv 6))) (pN 7 Wb.nd)
   (Ze (Uh hu (pv 5) (pv 7) X1 rfl)))))
 (Ze (Zn (Yk (Za (Zm (Oj rfl) (by rfl) T.zn0 PyProof.Rows.boot_sorted (Za (pv 3) Zb)) (Za (Zm (Oj rfl) (by rfl) T.zn0 PyProof.Rows.boot_sorted (Za (pv 5) Zb)) Zb)))))))))),?_⟩
 have hrl:rows.length<=100:=zto mo.few ⋯;have hgl:gs.length<=100:=by rw[FP.len];exact hrl
 have line0:1000<sizeLine:=Ul ⋯;refine⟨_,rfl,lg,gs,rfl,hg,FP.one,FP.inj,hgl,fun d kvs H1 hd1 tk s1 hdn=>?_⟩;intro lp hlp;have s2:=Zf (o:=.dK []) hlp;have e2:upd H1 lp (.dK []) lp=some (.dK []):=Zd;have hlpn:H lp=none:=s1.free hlp;have npd:lp≠d:=Ne.symm (Zg hd1 hlp);have s02:=s1.trans s2;generalize upd H1 lp (.dK [])=H2 at s2 e2 s02;have hd2:=s2 _ _ hd1;have hlft:=@Us gs;refine⟨_,rfl,lg,gs,rfl,s02 _ _ hg,FP.one,hgl,fun ln H3 hln s3 fln=>?_⟩;refine⟨ln,rfl,⟨_,SqL.of hln⟩,?_⟩;have nln:ln≠lp:=Ne.symm (Zg e2 fln);have hbound:∀ line:List Nat,line.Nodup->(∀ c∈line,c<rows.length)->line.length<=rows.length:=fun line nd hc=>by
  have:=nd.length_le_of_subset (l₂:=List.range rows.length) fun c hcc=>zt7.mpr (hc c hcc);rw[zt0] at this;exact this
 have hwlt:∀ g q k,g<rows.length->Walk rows gs g q k->q<rows.length:=fun g q k hg' hw=>by
  cases hw with
  | nil=>exact hg'
  | snoc _ a=>rw[<- FP.len];exact(zs5.mp a.2).1
 refine Wm (K:=K) (a:=ln) (xs:=(W9 gs).map fun i=>V.int (i:Nat)) (fun i σ' H'=>∃ (v4:Option V) (kp:List (Key×V)) (pl:List Nat),σ'=[some (.ref l),some (.ref lg),some (.ref d),some (.ref lp),v4,none,none,none]/\Same H H'/\(∀ b o,H3 b=some o->b≠lp->H' b=some o)/\H' lp=some (.dK kp)/\kp.map (·.1)=pl.map (fun q:Nat=>(inl (q:Int):Key))/\pl.Nodup/\∀ q,q∈pl↔∃ g k,g∈(W9 gs).take i/\Walk rows gs g q k)
  ⟨_,[],[],rfl,s02.trans s3,fun _ _ e _=>e,s3 _ _ e2,rfl,zuv,by simp⟩ (fun i σ' H' _ ⟨_,_,_,_,_,z,_⟩=>SqL.of (z _ _ hln nln)) ?_ ?_
 ·rintro i x σ' Ha hx ⟨v4,kp,pl,rfl,sa,k3,hpa,kk,nd,mem⟩;have hi:i<(W9 gs).length:=by have:=(zs5.mp hx).1;rw[zs3] at this;exact this
  have etk:(W9 gs).take (i+1)=(W9 gs).take i++[(W9 gs)[i]'hi]:=zts hi;have hgm:(W9 gs)[i]'hi∈W9 gs:=ztz hi;have ex:x=.int (((W9 gs)[i]'hi:Nat):Int):=by rw[zta,zs4 hi] at hx;exact(Option.some.inj hx).symm
  generalize ((W9 gs)[i]'hi)=g at etk hgm ex;subst ex;have hgr:g<rows.length:=by rw[<- FP.len];exact(zs5.mp (Us.mp hgm)).1
  have hda:=k3 _ _ (s3 _ _ hd2) (Ne.symm npd);have hkl:kp.length<=100:=by
   have:=congrArg List.length kk;rw[zs3,zs3] at this;rw[this];refine zto (hbound pl nd fun q hq=>?_) hrl;obtain⟨g',k,h1,h2⟩:=(mem q).mp hq;refine hwlt g' q k ?_ h2;rw[<- FP.len];exact(zs5.mp (Us.mp (List.mem_of_mem_take h1))).1
  refine⟨_,rfl,.inr (.inr (.inl ⟨rfl,.inl ⟨_,hpa⟩⟩)),_,rfl,_,rfl,_,rfl,l,d,ls,rows,kvs,gs,g,rfl,sa _ _ hl,il.same sa,hrl,hda,tk,FP,hgr,fun t into line dep fr Hb ht io B Dn fo hlt sb htn=>?_⟩;have hll:=hbound line B.nodup hlt;have hil:=io.len;have hpb:=sb _ _ hpa;refine⟨lp,t,kp,into,rfl,rfl,Zg hpa htn,hpb,ht,by omega,?_⟩;have kb:∀ b o,H3 b=some o->b≠lp->upd Hb lp (.dK (Vr kp into)) b=some o:=fun b o e n=>by rw[Zi n];exact sb _ _ (k3 b o e n)
  refine⟨_,Vr kp into,Ga pl line,rfl,Xc hlpn (sa.trans sb),kb,Zd,Kf zjr kk io.keys,Md nd,fun q=>?_⟩;rw[Gb,mem,etk];constructor
  ·rintro(⟨g',k,h1,h2⟩|hq)
   ·exact⟨g',k,zty _ h1,h2⟩
   ·exact⟨g,dep q,by simp,B.walk q hq⟩
  ·rintro⟨g',k,h1,h2⟩;rcases zth.mp h1 with z|z
   ·exact .inl ⟨g',k,z,h2⟩
   ·rw[zs9.mp z] at h2;exact .inr (B.full Dn h2).1
 ·rintro σ' Ha ⟨v4,kp,pl,rfl,sa,k3,hpa,kk,nd,mem⟩;rw[zs3,ztp] at mem;have mem:∀ q,q∈pl↔∃ g k,gs[g]?=some .non/\Walk rows gs g q k:=fun q=>by
   rw[mem q];exact⟨fun ⟨g,k,a,b⟩=>⟨g,k,Us.mp a,b⟩,fun ⟨g,k,a,b⟩=>⟨g,k,Us.mpr a,b⟩⟩
  have hplt:∀ q∈pl,q<rows.length:=fun q hq=>by
   obtain⟨g,k,h1,h2⟩:=(mem q).mp hq;exact hwlt g q k (by rw[<- FP.len];exact(zs5.mp h1).1) h2
  have hpl20:pl.length<=20:=zto (hbound pl nd hplt) mo.few;intro lr hlr;have e5:upd Ha lr (.dK []) lr=some (.dK []):=Zd;have s5:=sa.trans (Zf (o:=.dK []) hlr);have hp5:=Zf (o:=.dK []) hlr _ _ hpa;have nlr:lr≠lp:=Ne.symm (Zg hpa hlr);have hlrn:H lr=none:=sa.free hlr;generalize upd Ha lr (.dK [])=H5 at e5 s5 hp5;refine⟨_,rfl,lp,kp,rfl,hp5,fun o=>?_⟩;have e6:upd H5 lp (.frz o (.dK kp)) lp=some (.frz o (.dK kp)):=Zd;have r6:upd H5 lp (.frz o (.dK kp)) lr=some (.dK []):=by rw[Zi nlr];exact e5
  have s6:Same H (upd H5 lp (.frz o (.dK kp))):=Xc hlpn s5;generalize upd H5 lp (.frz o (.dK kp))=H6 at e6 r6 s6;have key:∀ (i:Nat) (k:Key) (v:V),kp[i]?=some (k,v)->∃ q:Nat,pl[i]?=some q/\k=inl (q:Int):=fun i k v e=>by
   have:=congrArg (·[i]?) kk;simp only[zta,e,zt6] at this;cases hq:pl[i]? with
   | none=>rw[hq] at this;cases this
   | some q=>rw[hq] at this;exact⟨q,rfl,Option.some.inj this⟩
  have hkpl:kp.length=pl.length:=by have:=congrArg List.length kk;rw[zs3,zs3] at this;exact this
  have rbound:∀ rl:List Int,rl.Nodup->(∀ n∈rl,n∈nu)->rl.length<=30:=fun rl n1 n2=>zto (n1.length_le_of_subset n2) mo.crowd
  let jv7:Nat->L2.St->Hp->Prop:=fun i σ' H'=>∃ (v6 v7:Option V) (kr:List (Key×V)) (rl:List Int),σ'=[some (.ref l),some (.ref lg),some (.ref d),some (.ref lp),v4,some (.ref lr),v6,v7]/\Same H H'/\H' lp=some (.frz o (.dK kp))/\H' lr=some (.dK kr)/\kr.map (·.1)=rl.map (inl:Int->Key)/\rl.Nodup/\∀ n,n∈rl↔∃ p∈pl.take i,∃ r,rows[p]?=some r/\n∈r
  refine E5 (a:=lp) (o:=o) (kvs:=kp) jv7
   ⟨_,_,[],[],rfl,s6,e6,r6,rfl,zuv,by simp⟩ (fun i σ' H' _ ⟨_,_,_,_,_,_,z,_⟩=>z) (fun i k v σ' Hc hk hP=>?_) (fun σ' Hc hP=>?_)
  ·obtain⟨v6,v7,kr,rl,rfl,sc,hpc,hrc,kkr,ndr,memr⟩:=hP;obtain⟨q,hq,rfl⟩:=key i k v hk;have hqm:=ztg hq;have hi:i<pl.length:=(zs5.mp hq).1;have etk:pl.take (i+1)=pl.take i++[q]:=by
    rw[zts hi];rw[zs4 hi] at hq;rw[Option.some.inj hq]
   have hqr:rows[q]?=some (rows[q]'(hplt q hqm)):=zs4 (hplt q hqm);have hrm:rows[q]'(hplt q hqm)∈rows:=ztz _;generalize (rows[q]'(hplt q hqm))=r at hqr hrm;obtain⟨lq,e2',e3⟩:=il.getR hqr;have hl':(ls.map V.ref)[q]?=some (.ref lq):=by rw[zta,e2'];rfl
   refine⟨_,rfl,_,rfl,l,_,_,_,rfl,rfl,SqL.of (sc _ _ hl),Ye hl',lq,rfl,⟨_,SqL.of (sc _ _ e3)⟩,?_⟩
   let jv8:Nat->L2.St->Hp->Prop:=fun j σ' H'=>∃ (v7:Option V) (kr:List (Key×V)) (rl:List Int),σ'=[some (.ref l),some (.ref lg),some (.ref d),some (.ref lp),v4,some (.ref lr),some (.int (q:Nat)),v7]/\Same H H'/\H' lp=some (.frz o (.dK kp))/\H' lr=some (.dK kr)/\kr.map (·.1)=rl.map (inl:Int->Key)/\rl.Nodup/\∀ n,n∈rl↔(∃ p∈pl.take i,∃ r,rows[p]?=some r/\n∈r)\/n∈r.take j
   refine Wm (K:=K) (a:=lq) (xs:=r.map V.int) jv8
    ⟨_,kr,rl,rfl,sc,hpc,hrc,kkr,ndr,fun n=>by rw[memr];simp⟩ (fun j σ' H' _ ⟨_,_,_,_,z,_⟩=>SqL.of (z _ _ e3)) ?_ ?_
   ·rintro j y σ' Hd hy ⟨w7,kr,rl,rfl,sd,hpd,hrd,kkr,ndr,memr⟩;have hj:j<r.length:=by have:=(zs5.mp hy).1;rw[zs3] at this;exact this
    have hrj:r[j]?=some (r[j]'hj):=zs4 hj;have etj:r.take (j+1)=r.take j++[r[j]'hj]:=zts hj;generalize (r[j]'hj)=n at hrj etj;have ey:y=.int n:=by rw[zta,hrj] at hy;exact(Option.some.inj hy).symm
    subst ey;have hsub:∀ m∈rl,m∈nu:=fun m hm=>by
     rcases(memr m).mp hm with ⟨p,_,r',h1,h2⟩|h1
     ·exact(mo.sub r' (ztg h1)).2 m h2
     ·exact(mo.sub r hrm).2 m (List.mem_of_mem_take h1)
    have hkr:kr.length<=30:=by
     have:=congrArg List.length kkr;rw[zs3,zs3] at this;rw[this];exact rbound rl ndr hsub
    refine⟨_,rfl,_,rfl,lr,_,rfl,DPut.k (k:=inl n) hrd ⋯,_,putK kr (inl n) (.bl true),Jw rl n,rfl,Xc hlrn sd,by rw[Zi (Ne.symm nlr)];exact hpd,Zd,E8 zjq kkr n _,Kg ndr,fun m=>?_⟩;rw[E9,memr,etj,zth,zs9,or_assoc]
   ·rintro σ' Hd ⟨w7,kr,rl,rfl,sd,hpd,hrd,kkr,ndr,memr⟩;rw[zs3,ztp] at memr;refine⟨_,_,kr,rl,rfl,sd,hpd,hrd,kkr,ndr,fun n=>?_⟩;rw[memr,etk];constructor
    ·rintro(⟨p,h1,h2⟩|h1)
     ·exact⟨p,zty _ h1,h2⟩
     ·exact⟨q,by simp,r,hqr,h1⟩
    ·rintro⟨p,h1,r',h2,h3⟩;rcases zth.mp h1 with z|z
     ·exact .inl ⟨p,z,r',h2,h3⟩
     ·rw[zs9.mp z,hqr] at h2;cases h2;exact .inr h3
  ·obtain⟨v6,v7,kr,rl,rfl,sc,hpc,hrc,kkr,ndr,memr⟩:=hP;rw[hkpl,ztp] at memr;have hsub:∀ m∈rl,m∈nu:=fun m hm=>by
    obtain⟨p,_,r',h1,h2⟩:=(memr m).mp hm;exact(mo.sub r' (ztg h1)).2 m h2
   have hrl30:=rbound rl ndr hsub;refine⟨_,rfl,lp,kp,pl.map (fun q:Nat=>(q:Int)),rfl,.inr ⟨o,hpc⟩,by rw[kk,zup];rfl,by rw[zs3];omega,fun l1 pi hl1 p1 p2=>?_⟩;have s7:=Zf (o:=.lst (pi.map V.int)) hl1;have q7:upd Hc l1 (.lst (pi.map V.int)) l1=some (.lst (pi.map V.int)):=Zd;have hr7:=s7 _ _ hrc;have sc7:=sc.trans s7;generalize upd Hc l1 (.lst (pi.map V.int))=H7 at s7 q7 hr7 sc7;refine⟨_,rfl,lr,kr,rl,rfl,.inl hr7,kkr,by omega,fun l2 rs hl2 p3 p4=>?_⟩;obtain⟨ps,rfl,SP⟩:=zdh FP NA nd mem ndr memr p1 p2 p3 p4;refine⟨sz2,fun t ht=>?_⟩;have s8:=Zf (o:=.lst (rs.map V.int)) hl2;have q8:upd H7 l2 (.lst (rs.map V.int)) l2=some (.lst (rs.map V.int)):=Zd;have q78:=s8 _ _ q7;generalize upd H7 l2 (.lst (rs.map V.int))=H8 at s8 q8 q78 ht;have s9:=Zf (o:=.tup [.ref l1,.ref l2]) ht;refine h t l1 l2 ps rs _ Zd (s9 _ _ (by rw[q78];unfold Y9;rw[zup];rfl)) (s9 _ _ q8) SP (sc7.trans (s8.trans s9)) ((sc7.trans s8).free ht) (sc.free hl1) (sc7.free hl2) (Zg q7 hl2)
abbrev Vx:Stmt:=Zy (top 55) 0
theorem Ov:Zl ["self","listed","lists","given","gaps"] ["self","listed","lists","given","gaps"] (Zj Vx):=fnS
theorem Ow(F:Fun K "__init__" "Sheet.__init__" Vx f fd)(T:Tx K mg a):FnOk P w K mg base (CX1 P w) 1 f fd ["self","listed","lists","given","gaps"] (Om (ca a)):=by
 refine F.okX Ov ⋯ fun _ _ _ _ H _ Q E hr h=>?_;obtain⟨q,dx,l1,l2,l3,l4,rfl,hq,h⟩:=h;refine⟨_,(Zc (Yw (K:=K) rfl (pv 0) (pv 1) rfl)
 (Zc (Yw (K:=K) rfl (pv 0) (pv 2) rfl)
 (Zc (Yw (K:=K) rfl (pv 0) (pv 3) rfl)
 (Ze (Yw (K:=K) rfl (pv 0) (pv 4) rfl))))),?_⟩
 refine⟨_,rfl,_,rfl,q,a.zkh,dx,[],rfl,hq,T.zky,T.zmn,⋯,?_⟩;refine⟨_,rfl,_,rfl,q,a.zkh,dx,[("listed",.ref l1)],rfl,Zd,T.zky,T.zol,(by show 1<1000;decide),?_⟩;rw[zjs];refine⟨_,rfl,_,rfl,q,a.zkh,dx,_,rfl,Zd,T.zky,T.zmc,(by show 2<1000;decide),?_⟩;rw[zjt];refine⟨_,rfl,_,rfl,q,a.zkh,dx,_,rfl,Zd,T.zky,T.zob,(by show 3<1000;decide),?_⟩;rw[zju];refine h _ ?_;rw[Le,Le,Le];rfl
abbrev U6:Stmt:=Zy (top 55) 1
theorem Mx:Zl ["self","lists"] ["self","lists"] (Zj U6):=fnS
theorem My(F:Fun K "barred" "Sheet.barred" U6 f fd)(T:Tx K mg a)(zm4:Tq P w K mg base "Sheet" a.zkh 1 ["self","listed","lists","given","gaps"] (Om (ca a))):FnOk P w K mg base (CX1 P w) 3 f fd ["self","lists"] (Dl (ca a)):=by
 refine F.okX Mx ⋯ fun _ _ _ _ H _ Q E hr h=>?_;obtain⟨ok,q,l2,ls,rows,s,rfl,SA,hl2,il,ok2,okl,no,h⟩:=h;refine⟨_,(Ze (Zn (Fd zm4 (hr.mono ⋯) Zk rfl (Za (Zq (K:=K) rfl (pv 0) rfl) (Za (pv 1) (Za (Zq (K:=K) rfl (pv 0) rfl) (Za (Zq (K:=K) rfl (pv 0) rfl) Zb))))))),?_⟩;obtain⟨dx,m1,m2,m3,m4,ts,ms,gts,a1,a2,a3,a4,a5,a6,a7,a8,o1,o2,o3,o4,o5,o6⟩:=id SA;refine⟨_,rfl,q,a.zkh,dx,_,_,rfl,a1,T.zky,T.zmn,Qr,_,rfl,_,rfl,q,a.zkh,dx,_,_,rfl,a1,T.zky,T.zmc,Uu,_,rfl,q,a.zkh,dx,_,_,rfl,a1,T.zky,T.zob,Fp,?_⟩;intro q' dx' hq' hdx' ne;refine⟨q',dx',m1,l2,m3,m4,rfl,Zd,fun H' e=>⟨rfl,?_⟩⟩;obtain⟨s1,q1⟩:=Pm (C:=a.zkh) (l1:=m1) (l2:=l2) (l3:=m3) (l4:=m4) hq' hdx' ne;rw[<- e] at s1 q1;exact h q' H' ⟨dx',m1,l2,m3,m4,ts,ls,gts,q1,s1 _ _ a2,a3.same s1,s1 _ _ hl2,il.same s1,s1 _ _ a6,s1 _ _ a7,a8.keep (fun _ _ _ z=>s1 _ _ z) (fun _ _ z=>s1 _ _ z),no _ hq',o2,ok2,o4,o5,okl⟩ s1 hq'
abbrev W4:Stmt:=Zy (top 55) 2
theorem Xl:Zl ["self","number","lists","place","gap","steps"] ["self","number","lists"] (Zj W4):=fnS
theorem Qz(F:Fun K "fallen_out" "Sheet.fallen_out" W4 f fd)(T:Tx K mg a)(zlv:Zt P w K mg base a.zkh "where" 2 ["self","number"] (Nj (ca a)))(zms:Z4 P w K mg base "stepped" 1 ["given","steps"] (Ni K))(zoj:Z4 P w K mg base "chain" 2 ["may","given","place"] (Fl K))(zm4:Tq P w K mg base "Sheet" a.zkh 1 ["self","listed","lists","given","gaps"] (Om (ca a))):FnOk P w K mg base (CX1 P w) 3 f fd ["self","number","lists"] (Dm (ca a)):=by
 refine F.okX Xl ⋯ fun _ _ _ _ H _ Q E hr h=>?_;obtain⟨ok,q,l2,ls,rows,nu,s,n,p,rfl,SA,hl2,il,ok2,okl,no,mo,ho,hgp,hun,FP,hgz,h⟩:=h;refine⟨_,(Zc (pS 3 Xl.nd (Yz (pv 0) T.zky zlv (hr.mono ⋯) Zk (Za (pv 1) Zb)))
 (Zc (pS 4 Xl.nd (pF zms hr (Za (Zq (K:=K) rfl (pv 0) rfl) (Za (Z7 (Za (Yk (Za (pv 3) (Za Yu Zb))) Zb)) Zb))))
 (Zc (pS 5 Xl.nd (pF zoj hr (Za (pv 2) (Za (pv 4) (Za (pv 3) Zb)))))
 (Ze (Zn (Fd zm4 (hr.mono ⋯) Zk rfl (Za (Zq (K:=K) rfl (pv 0) rfl) (Za (pv 2) (Za (pF zms hr (Za (pv 4) (Za (pv 5) Zb))) (Za (Zv Sr (Zq (K:=K) rfl (pv 0) rfl) (Z7 (Za (Yk (Za (pv 1) (Za (pv 5) Zb))) Zb))) Zb)))))))))),?_⟩
 obtain⟨dx,m1,m2,m3,m4,ts,ms,gts,a1,a2,a3,a4,a5,a6,a7,a8,o1,o2,o3,o4,o5,o6⟩:=id SA;have hrl:rows.length<=100:=zto mo.few ⋯;have hgl:s.gv.length<=100:=by have:=FP.len;rw[zuh] at this;omega
 have hpl:p<s.gv.length:=(zs5.mp hgp).1;have hpr:p<rows.length:=by have:=FP.len;rw[zuh] at this;omega
 have hplace:X5 s.gv n=some p:=by
  unfold X5;rw[List.find?_eq_some_iff_getElem];refine⟨zs6 hgp,p,by rw[zt0];exact hpl,by rw[List.getElem_range],fun j hj=>?_⟩;rw[List.getElem_range,Bool.not_eq_true',decide_eq_false_iff_not];exact fun z=>absurd (hun j z) ⋯
 refine⟨_,rfl,q,dx,_,rfl,a1,V9 ⋯ ⋯ ⋯ ⋯,_,rfl,ok,q,s,n,rfl,SA,ho,hgl,fun H1 s1=>?_⟩;rw[hplace,show oN (some p)=V.int (p:Nat) from rfl];have SA1:=SA.same s1;refine⟨_,rfl,q,a.zkh,dx,_,_,rfl,s1 _ _ a1,T.zky,T.zmc,Uu,_,rfl,sz2,fun t1 ht1=>⟨sz1,fun lx hlx=>?_⟩⟩;have s2:=Zf (o:=.tup [.int (p:Nat),.non]) ht1;have q2:upd H1 t1 (.tup [.int (p:Nat),.non]) t1=some (.tup (Vp (p,none))):=Zd;generalize upd H1 t1 (.tup [.int (p:Nat),.non])=H2 at s2 q2 hlx;have s3:=Zf (o:=.lst [V.ref t1]) hlx;have q3:upd H2 lx (.lst [V.ref t1]) lx=some (.lst [V.ref t1]):=Zd;have q23:=s3 _ _ q2;generalize upd H2 lx (.lst [V.ref t1])=H3 at s3 q3 q23;have s13:=s1.trans (s2.trans s3);refine⟨m3,lx,s.gv,[V.ref t1],[(p,none)],rfl,s13 _ _ a6,q3,.cons q23 .nil,fun st hst=>by rw[zs9.mp hst];exact hpl,ho,hgl,by show 1<=100;decide,fun lg H4 hg4 s4 f4=>?_⟩;have s14:=s13.trans s4;have hg4:H4 lg=some (.lst (s.gv.set p .non)):=hg4;refine⟨_,rfl,_,rfl,_,rfl,l2,lg,ls,rows,nu,s.gv.set p .non,p,rfl,s14 _ _ hl2,il.same s14,mo,hg4,FP,hpr,by rw[zt4 hpl],fun lt us st e w H5 hlt tl CR s5 f5=>?_⟩;have s15:=s14.trans s5;have hst100:st.length<=100:=zto (CR.len FP hpr) hrl;refine⟨_,rfl,q,a.zkh,dx,_,_,rfl,s15 _ _ a1,T.zky,T.zmn,Qr,_,rfl,_,rfl,_,rfl,lg,lt,s.gv.set p .non,us,st,rfl,s5 _ _ hg4,hlt,tl,fun x hx=>?_,FP.one,by rw[FP.len];exact hrl,hst100,fun l3 H6 h6 s6 f6=>?_⟩
 ·rw[FP.len];exact CR.ch.lt FP hpr x hx
 have s16:=s15.trans s6;refine⟨_,rfl,q,a.zkh,dx,_,_,rfl,s16 _ _ a1,T.zky,T.zob,Fp,_,rfl,_,rfl,sz2,fun t2 ht2=>⟨sz1,fun ly hly=>?_⟩⟩;have s7:=Zf (o:=.tup [.int n,.ref lt]) ht2;have q7:upd H6 t2 (.tup [.int n,.ref lt]) t2=some (.tup [.int n,.ref lt]):=Zd;generalize upd H6 t2 (.tup [.int n,.ref lt])=H7 at s7 q7 hly;have s8:=Zf (o:=.lst [V.ref t2]) hly;have q8:upd H7 ly (.lst [V.ref t2]) ly=some (.lst [V.ref t2]):=Zd;have q78:=s8 _ _ q7;generalize upd H7 ly (.lst [V.ref t2])=H8 at s8 q8 q78;have s18:=s16.trans (s7.trans s8);refine⟨m4,ly,gts,[V.ref t2],rfl,rfl,s18 _ _ a7,q8,by have:=a8.length;show gts.length+1<=sizeLine;have:=Se;omega,fun l4 hl4=>?_⟩;have s9:=Zf (o:=.lst (gts++[V.ref t2])) hl4;have q9:upd H8 l4 (.lst (gts++[V.ref t2])) l4=some (.lst (gts++[V.ref t2])):=Zd;generalize upd H8 l4 (.lst (gts++[V.ref t2]))=H9 at s9 q9;have s19:=s18.trans s9;intro q' dx' hq' hdx' ne;refine⟨q',dx',m1,l2,l3,l4,rfl,Zd,fun H' e'=>⟨rfl,?_⟩⟩;obtain⟨s10,q10⟩:=Pm (C:=a.zkh) (l1:=m1) (l2:=l2) (l3:=l3) (l4:=l4) hq' hdx' ne;rw[<- e'] at s10 q10;have s:=s19.trans s10;have s6x:=s7.trans (s8.trans (s9.trans s10));have s5x:=s6.trans s6x;refine h q' st e w H' ⟨dx',m1,l2,l3,l4,ts,ls,gts++[V.ref t2],q10,s _ _ a2,a3.same s,s _ _ hl2,il.same s,s6x _ _ h6,s10 _ _ q9,?_,no _ (s19.free hq'),o2,ok2,no _ (s15.free f6),no _ (s18.free hl4),okl⟩ CR s (s19.free hq');exact(a8.keep (fun _ _ _ z=>s _ _ z) (fun _ _ z=>s _ _ z)).snoc ((s9.trans s10) _ _ q78) (s5x _ _ hlt) (tl.same s5x) (no _ (s14.free f5))
abbrev Ud:Stmt:=Zy (top 55) 3
theorem Ny:Zl ["self"] ["self"] (Zj Ud):=fnS
theorem Nz(F:Fun K "matches" "Sheet.matches" Ud f fd)(T:Tx K mg a):FnOk P w K mg base (CX1 P w) 1 f fd ["self"] (R7 (ca a)):=by
 refine F.okX Ny ⋯ fun _ _ _ _ H _ Q E hr h=>?_;obtain⟨ok,q,s,rfl,SA,h⟩:=h;refine⟨_,(Ze (Zn (Yv (Xh (K:=K) rfl) (by rfl) T.zlx PyProof.Rows.boot_list (Za (Zq (K:=K) rfl (pv 0) rfl) Zb)))),?_⟩;obtain⟨dx,m1,m2,m3,m4,ts,ms,gts,a1,a2,a3,a4,a5,a6,a7,a8,o1,o2,o3,o4,o5,o6⟩:=id SA;refine⟨_,rfl,q,a.zkh,dx,_,_,rfl,a1,T.zky,T.zmn,Qr,m1,_,rfl,.inl (SqL.of a2),fun l hl=>?_⟩;exact h l ts _ Zd (a3.same (Zf hl)) (Zf hl) hl
abbrev S8:Stmt:=Zy (top 55) 7
theorem Ig:Zl ["self"] ["self"] (Zj S8):=fnS
theorem Ih(F:Fun K "goes" "Sheet.goes" S8 f fd)(T:Tx K mg a):FnOk P w K mg base (CX1 P w) 1 f fd ["self"] (Kj (ca a)):=by
 refine F.okX Ig ⋯ fun _ _ _ _ H _ Q E hr h=>?_;obtain⟨ok,q,s,rfl,SA,h⟩:=h;refine⟨_,(Ze (Zn (Yv (Xh (K:=K) rfl) (by rfl) T.zlx PyProof.Rows.boot_list (Za (Zq (K:=K) rfl (pv 0) rfl) Zb)))),?_⟩;obtain⟨dx,m1,m2,m3,m4,ts,ms,gts,a1,a2,a3,a4,a5,a6,a7,a8,o1,o2,o3,o4,o5,o6⟩:=id SA;refine⟨_,rfl,q,a.zkh,dx,_,_,rfl,a1,T.zky,T.zmc,Uu,m3,_,rfl,.inl (SqL.of a6),fun l hl=>?_⟩;exact h l _ Zd (Zf hl) hl
abbrev Tv:Stmt:=Zy (top 55) 8
theorem K3:Zl ["self","number"] ["self","number"] (Zj Tv):=fnS
theorem K4(F:Fun K "where" "Sheet.where" Tv f fd)(T:Tx K mg a)(zoo:Z4 P w K mg base "place_of" 1 ["given","number"] (Hs K)):FnOk P w K mg base (CX1 P w) 2 f fd ["self","number"] (Nj (ca a)):=by
 refine F.okX K3 ⋯ fun _ _ _ _ H _ Q E hr h=>?_;obtain⟨ok,q,s,n,rfl,SA,ho,hgl,h⟩:=h;refine⟨_,(Ze (Zn (pF zoo hr (Za (Zq (K:=K) rfl (pv 0) rfl) (Za (pv 1) Zb))))),?_⟩;obtain⟨dx,m1,m2,m3,m4,ts,ms,gts,a1,a2,a3,a4,a5,a6,a7,a8,o1,o2,o3,o4,o5,o6⟩:=id SA;exact⟨_,rfl,q,a.zkh,dx,_,_,rfl,a1,T.zky,T.zmc,Uu,_,rfl,m3,s.gv,n,rfl,a6,ho,hgl,fun H' s'=>h H' s'⟩
abbrev S9:Stmt:=Zy (top 55) 9
theorem Ii:Zl ["self"] ["self"] (Zj S9):=fnS
theorem Ij(F:Fun K "left" "Sheet.left" S9 f fd)(T:Tx K mg a)(zlo:Z4 P w K mg base "left_without" 1 ["given"] (Bf K)):FnOk P w K mg base (CX1 P w) 2 f fd ["self"] (Dp (ca a)):=by
 refine F.okX Ii ⋯ fun _ _ _ _ H _ Q E hr h=>?_;obtain⟨ok,q,s,rfl,SA,ho,hgl,h⟩:=h;refine⟨_,(Ze (Zn (pF zlo hr (Za (Zq (K:=K) rfl (pv 0) rfl) Zb)))),?_⟩;obtain⟨dx,m1,m2,m3,m4,ts,ms,gts,a1,a2,a3,a4,a5,a6,a7,a8,o1,o2,o3,o4,o5,o6⟩:=id SA;exact⟨_,rfl,q,a.zkh,dx,_,_,rfl,a1,T.zky,T.zmc,Uu,m3,s.gv,rfl,a6,ho,hgl,fun l H' h1 s' h2=>h l H' h1 s' h2⟩
abbrev Qc:Stmt:=Zy (top 55) 10
theorem F1:Zl ["self"] ["self"] (Zj Qc):=fnS
theorem F2(F:Fun K "why" "Sheet.why" Qc f fd)(T:Tx K mg a)(zou:Z4 P w K mg base "shortage" 2 ["may","given"] (Av K)):FnOk P w K mg base (CX1 P w) 3 f fd ["self"] (Az (ca a)):=by
 refine F.okX F1 ⋯ fun _ _ _ _ H _ Q E hr h=>?_;obtain⟨ok,q,s,nu,rfl,SA,mo,FP,NA,h⟩:=h;refine⟨_,(Ze (Zn (pF zou hr (Za (Zq (K:=K) rfl (pv 0) rfl) (Za (Zq (K:=K) rfl (pv 0) rfl) Zb))))),?_⟩;obtain⟨dx,m1,m2,m3,m4,ts,ms,gts,a1,a2,a3,a4,a5,a6,a7,a8,o1,o2,o3,o4,o5,o6⟩:=id SA;exact⟨_,rfl,q,a.zkh,dx,_,_,rfl,a1,T.zky,T.zol,zdk,_,rfl,q,a.zkh,dx,_,_,rfl,a1,T.zky,T.zmc,Uu,m2,m3,ms,s.may,nu,s.gv,rfl,a4,a5,mo,a6,FP,NA,fun t lp lr ps rs H'=>h t lp lr ps rs H'⟩
abbrev U7:Stmt:=Zy (top 55) 11
theorem Mz:Zl ["self"] ["self"] (Zj U7):=fnS
theorem M0(F:Fun K "chains" "Sheet.chains" U7 f fd)(T:Tx K mg a):FnOk P w K mg base (CX1 P w) 1 f fd ["self"] (Kk (ca a)):=by
 refine F.okX Mz ⋯ fun _ _ _ _ H _ Q E hr h=>?_;obtain⟨ok,q,s,rfl,SA,hgz,h⟩:=h;refine⟨_,(Ze (Zn (R4 rfl (R1.mk (xo:=["number","steps"]) (ys:=[]) (js:=[]) rfl rfl ⋯ ⋯ rfl (by repeat' (first|exact True.intro|apply And.intro|rfl)) (by repeat' (first|exact True.intro|apply And.intro|rfl)) ⋯) (Yr (K:=K) rfl (Zq (K:=K) rfl (pv 0) rfl)) (fun _ _ _ _ _=>V2) (fun _ _ _ _ _=>(Wt (K:=K) (n:=2) rfl rfl (Z1 (Xy (i:=0) (show List.Nodup [("number":Str),("steps":Str)] by decide +kernel) rfl (by first|exact Or.inl rfl|exact Or.inr rfl)) (Z1 (Xy (i:=1) (show List.Nodup [("number":Str),("steps":Str)] by decide +kernel) rfl (by first|exact Or.inl rfl|exact Or.inr rfl)) Wq)))) (fun _ _ _ _ _=>(Yk (Za (pv 0) (Za (Yv (Xh (K:=K) rfl) (by rfl) T.zlx PyProof.Rows.boot_list (Za (pv 1) Zb)) Zb))))))),?_⟩;obtain⟨dx,m1,m2,m3,m4,ts,ms,gts,a1,a2,a3,a4,a5,a6,a7,a8,o1,o2,o3,o4,o5,o6⟩:=id SA;have hgts:=a8.length;refine⟨_,rfl,q,a.zkh,dx,_,_,rfl,a1,T.zky,T.zob,Fp,m4,rfl,⟨_,SqL.of a7⟩,?_⟩;refine Pn (K:=K) (xs:=gts) (fun i ys H'=>Same H H'/\W0 (fun x=>H x=none) H' ys (s.gaps.take i)/\ys.length=i) ⟨Same.refl _,.nil,rfl⟩ (fun i ys H' _ ⟨s',_⟩=>SqL.of (s' _ _ a7)) (szN ⋯) (fun i ys H' ⟨_,_,e⟩=>by omega) ?_ ?_
 ·rintro i x ys H' hx ⟨s1,gl,hyl⟩;obtain⟨t,l,n,us,st,rfl,hgi,ht,hl,tl,_⟩:=a8.get hx;have ht1:=s1 _ _ ht;have hl1:=s1 _ _ hl;refine⟨t,_,rfl,SqT.of ht1,rfl,_,_,rfl,_,_,rfl,rfl,⟨[some (.int n),some (.ref l)],rfl,rfl⟩,?_⟩;unfold tYes;dsimp only;rw[if_pos rfl];refine⟨_,rfl,_,rfl,l,_,rfl,.inl (SqL.of hl1),fun l2 hl2=>?_⟩;have s2:=Zf (o:=.lst us) hl2;have q2:upd H' l2 (.lst us) l2=some (.lst us):=Zd;have f2:H l2=none:=s1.free hl2;generalize upd H' l2 (.lst us)=H2 at s2 q2;refine⟨sz2,fun t2 ht2=>?_⟩;have s3:=Zf (o:=.tup [.int n,.ref l2]) ht2;have s23:=s2.trans s3;refine⟨s1.trans s23,?_,by rw[zs8,hyl];rfl⟩;have e:s.gaps.take (i+1)=s.gaps.take i++[(n,st)]:=by rw[zue,hgi];rfl
  rw[e];exact(gl.keep (fun _ _ _ z=>s23 _ _ z) (fun _ _ z=>s23 _ _ z)).snoc Zd (s3 _ _ q2) (tl.same (s1.trans s23)) f2
 ·rintro ys H' ⟨s1,gl,hyl⟩ l hl;rw[hgts,ztp] at gl;refine h l ys _ Zd ?_ (s1.trans (Zf hl)) (s1.free hl);exact(gl.imp (ok':=fun x=>H x=none/\x≠l) fun x ⟨o,e⟩ z=>⟨z,Zg e hl⟩).keep (fun _ _ _ z=>Zf hl _ _ z) (fun _ _ z=>Zf hl _ _ z)
abbrev Ra:Stmt:=Zy (top 55) 12
theorem Ik:Zl ["self"] ["self"] (Zj Ra):=fnS
theorem Il(F:Fun K "rows" "Sheet.rows" Ra f fd)(T:Tx K mg a):FnOk P w K mg base (CX1 P w) 1 f fd ["self"] (Dr (ca a)):=by
 refine F.okX Ik ⋯ fun _ _ _ _ H _ Q E hr h=>?_;obtain⟨ok,q,s,rfl,SA,ho,hgl,hml,h⟩:=h;refine⟨_,(Ze (Zn (R4 rfl (R1.mk (xo:=["match","number"]) (ys:=[]) (js:=[]) rfl rfl ⋯ ⋯ rfl (by repeat' (first|exact True.intro|apply And.intro|rfl)) (by repeat' (first|exact True.intro|apply And.intro|rfl)) ⋯) (zg8 (K:=K) rfl rfl T.zqu (Za (Zq (K:=K) rfl (pv 0) rfl) (Za (Zq (K:=K) rfl (pv 0) rfl) Zb))) (fun _ _ _ _ _=>V2) (fun _ _ _ _ _=>(Wt (K:=K) (n:=2) rfl rfl (Z1 (Xy (i:=0) (show List.Nodup [("match":Str),("number":Str)] by decide +kernel) rfl (by first|exact Or.inl rfl|exact Or.inr rfl)) (Z1 (Xy (i:=1) (show List.Nodup [("match":Str),("number":Str)] by decide +kernel) rfl (by first|exact Or.inl rfl|exact Or.inr rfl)) Wq)))) (fun _ _ _ _ _=>(Zv (Dj (K:=K) rfl) (pv 0) (Yk (Za (pv 1) Zb))))))),?_⟩;obtain⟨dx,m1,m2,m3,m4,ts,ms,gts,a1,a2,a3,a4,a5,a6,a7,a8,o1,o2,o3,o4,o5,o6⟩:=id SA;have hts:ts.length=s.ms.length:=by rw[a3.length,zs3]
 refine⟨_,rfl,q,a.zkh,dx,_,_,rfl,a1,T.zky,T.zmn,Qr,_,rfl,q,a.zkh,dx,_,_,rfl,a1,T.zky,T.zmc,Uu,m1,m3,rfl,⟨_,SqL.of a2⟩,⟨_,SqL.of a6⟩,?_⟩;refine zbe (K:=K) (xs:=ts) (zs:=s.gv) (fun i ys H'=>Same H H'/\Z0 H' ys (((Xt s).take i).map Qv)/\ys.length=i) ⟨Same.refl _,.nil,rfl⟩ ⋯ (fun i ys H' _ ⟨s',_⟩=>⟨SqL.of (s' _ _ a2),SqL.of (s' _ _ a6)⟩) (szN ⋯) (fun i ys H' ⟨_,_,e⟩=>by omega) ?_ ?_
 ·rintro i x z t ys H' hx hz ⟨s1,tl,hyl⟩ ht;obtain⟨tm,m,rfl,hm,htm⟩:=Fi a3 hx;have oz:=ho z (ztg hz);have s2:=s1.trans (Zf (o:=.tup [.ref tm,z]) ht);have tl2:=tl.same (Zf (o:=.tup [.ref tm,z]) ht);have q2:upd H' t (.tup [.ref tm,z]) t=some (.tup [.ref tm,z]):=Zd;generalize upd H' t (.tup [.ref tm,z])=H2 at s2 tl2 q2;refine⟨t,_,rfl,SqT.of q2,rfl,_,_,rfl,_,_,rfl,rfl,⟨[some (.ref tm),some z],rfl,rfl⟩,?_⟩;unfold tYes;dsimp only;rw[if_pos rfl];refine⟨_,rfl,_,rfl,sz1,fun t1 ht1=>?_⟩;have s3:=Zf (o:=.tup [z]) ht1;have q3:upd H2 t1 (.tup [z]) t1=some (.tup [z]):=Zd;generalize upd H2 t1 (.tup [z])=H3 at s3 q3;refine⟨tm,t1,_,_,rfl,rfl,SqT.of ((s2.trans s3) _ _ htm),SqT.of q3,by unfold pV;simp,by show 3+1<=sizeLine;exact sz4,fun z=>absurd z (by simp),fun _ t2 ht2=>?_⟩;have s4:=Zf (o:=.tup (pV m++[z])) ht2;refine⟨s2.trans (s3.trans s4),?_,by rw[zs8,hyl];rfl⟩;rw[zbf hm hz,ztl];refine((tl2.same s3).same s4).snoc ?_;rw[Zd,zhd m oz];rfl
 ·rintro ys H' ⟨s1,tl,hyl⟩ l hl;rw[hts,<- Du hgl,ztp] at tl;exact h l ys _ Zd (tl.same (Zf hl)) (s1.trans (Zf hl)) (s1.free hl)
abbrev Tw:Stmt:=top 56
theorem K5:Zl ["listed","lists"] ["listed","lists"] (Zj Tw):=fnS
theorem K6(F:Fun K "drawn_sheet" "drawn_sheet" Tw f fd)(T:Tx K mg a)(zm4:Tq P w K mg base "Sheet" a.zkh 1 ["self","listed","lists","given","gaps"] (Om (ca a)))(zqw:Z4 P w K mg base "fill" 3 ["may"] (zc4 K)):FnOk P w K mg base (CX1 P w) 4 f fd ["listed","lists"] (Ay (ca a)):=by
 refine F.okX K5 ⋯ fun _ _ _ _ H _ Q E hr h=>?_;obtain⟨ok,l1,l2,ts,ls,ms,rows,nu,rfl,hl1,tl,hl2,il,ok1,ok2,okl,no,mo,h⟩:=h;refine⟨_,(Ze (Zn (Fd zm4 (hr.mono ⋯) Zk rfl (Za (pv 0) (Za (pv 1) (Za (pF zqw hr (Za (pv 1) Zb)) (Za (Z7 Zb) Zb))))))),?_⟩;refine⟨_,rfl,_,rfl,_,rfl,l2,ls,rows,nu,rfl,hl2,il,mo,fun l3 gv H1 h3 FP SP s1 f3=>?_⟩;refine⟨by show 0<=sizeLine;decide,fun l4 hl4=>?_⟩;have s2:=Zf (o:=.lst []) hl4;have q2:upd H1 l4 (.lst []) l4=some (.lst []):=Zd;generalize upd H1 l4 (.lst [])=H2 at s2 q2;have s12:=s1.trans s2;intro q dx hq hdx ne;refine⟨q,dx,l1,l2,l3,l4,rfl,Zd,fun H' e=>⟨rfl,?_⟩⟩;obtain⟨s3,q3⟩:=Pm (C:=a.zkh) (l1:=l1) (l2:=l2) (l3:=l3) (l4:=l4) hq hdx ne;rw[<- e] at s3 q3;have s:=s12.trans s3;exact h q gv H' ⟨dx,l1,l2,l3,l4,ts,ls,[],q3,s _ _ hl1,tl.same s,s _ _ hl2,il.same s,s3 _ _ (s2 _ _ h3),s3 _ _ q2,.nil,no _ (s12.free hq),ok1,ok2,no _ f3,no _ (s1.free hl4),okl⟩ FP SP s (s12.free hq)
abbrev Vj:Stmt:=Zy (top 58) 0
theorem P2:Zl ["self","rounds","rest"] ["self","rounds","rest"] (Zj Vj):=fnS
theorem P4(F:Fun K "__init__" "Season.__init__" Vj f fd)(T:Tx K mg a)(zkx:Z4 P w K mg base "check_range" 1 ["value","least","most"] (Ol a.zko))(zp7:Tq P w K mg base "Roster" a.zkj 1 ["self"] (Aw (ca a)))(zqc:Tq P w K mg base "Ledger" a.zkf 1 ["self"] (Ao a.zkf)):FnOk P w K mg base (CX1 P w) 3 f fd ["self","rounds","rest"] (A0 (ca a)):=by
 refine F.okX P2 ⋯ fun _ _ _ _ H _ Q E hr h=>?_;obtain⟨p,dx,r,q,rfl,hp,sr,sq,h⟩:=h;refine⟨_,(Zc (Z6 (pF zkx hr (Za (pv 1) (Za Zh (Za (Xz rfl T.zl9) Zb)))))
 (Zc (Z6 (pF zkx hr (Za (pv 2) (Za Zh (Za (Xz rfl T.zmx) Zb)))))
 (Zc (Yw (K:=K) rfl (pv 0) (pv 1) rfl)
 (Zc (Yw (K:=K) rfl (pv 0) (pv 2) rfl)
 (Zc (Yw (K:=K) rfl (pv 0) (Aj zp7 (hr.mono ⋯) Zk rfl) rfl)
 (Zc (Yw (K:=K) rfl (pv 0) (Aj zqc (hr.mono ⋯) Zk rfl) rfl)
 (Zc (Yw (K:=K) rfl (pv 0) El rfl)
 (Zc (Yw (K:=K) rfl (pv 0) (Z7 Zb) rfl)
 (Zc (Yw (K:=K) rfl (pv 0) Yu rfl)
 (Ze (Yw (K:=K) rfl (pv 0) (Z7 Zb) rfl))))))))))),?_⟩
 show let y1:TS:=_;let y2:TS:=Z5 _ y1;let y3:TS:=Z5 _ y2;let y4:TS:=Z5 _ y3;let y5:TS:=Z5 _ y4;let y6:TS:=Z5 _ y5;let y7:TS:=Z5 _ y6;let y8:TS:=Z5 _ y7;let y9:TS:=Z5 _ y8;Z5 _ y9 _ _ _;intro y1 y2 y3 y4 y5 y6 y7 y8 y9;refine⟨_,rfl,r,0,60,rfl,sr,Yc ⋯,Yc ⋯,?_⟩;refine it2 h (fun _ z=>z) fun h1 h=>?_;refine⟨_,rfl,q,0,10,rfl,sq,Yc ⋯,Yc ⋯,?_⟩;refine it2 h (fun _ z=>z) fun h2 hF=>?_;have er:r=((r.toNat:Nat):Int):=by omega
 have eq':q=((q.toNat:Nat):Int):=by omega
 generalize r.toNat=rn at hF er;generalize q.toNat=qn at hF eq';subst er eq';refine⟨_,rfl,_,rfl,p,a.zkd,dx,_,rfl,hp,T.zke,T.znd,(by show 0<1000;decide),?_⟩;rw[pF1];refine⟨_,rfl,_,rfl,p,a.zkd,dx,_,rfl,Zd,T.zke,T.zo6,(by show 1<1000;decide),?_⟩;rw[pF2,Le];have b1:Vf p H (upd H p (.ins a.zkd dx (sF2 (.int rn) (.int qn)))):=.put;have q1:upd H p (.ins a.zkd dx (sF2 (.int rn) (.int qn))) p=some (.ins a.zkd dx (sF2 (.int rn) (.int qn))):=Zd;generalize upd H p (.ins a.zkd dx (sF2 (.int rn) (.int qn)))=H1 at b1 q1;intro pr dxr hpr hdxr ne;refine⟨pr,dxr,rfl,Zd,fun dr hdr=>⟨rfl,?_⟩⟩;have ndp:dr≠pr:=fun z=>by rw[z,Zd] at hdr;cases hdr
 have ndx:dr≠dxr:=fun z=>by rw[z,Zi ne,Zd] at hdr;cases hdr
 have hdr1:H1 dr=none:=by rw[Zi ndp,Zi ndx] at hdr;exact hdr
 have s2:Same H1 (upd (upd (upd (upd H1 dxr (.own pr)) pr (.ins a.zkj dxr [])) dr (.dK [])) pr (.ins a.zkj dxr [("entries",.ref dr)])):=fun b o e=>by
  rw[Zi (Zg e hpr),Zi (Zg e hdr1),Zi (Zg e hpr),Zi (Zg e hdxr)];exact e
 have R2:Y7 a.zkj (upd (upd (upd (upd H1 dxr (.own pr)) pr (.ins a.zkj dxr [])) dr (.dK [])) pr (.ins a.zkj dxr [("entries",.ref dr)])) pr dr []:=⟨⟨dxr,[],Zd,by rw[Zi ndp,Zd],.nil⟩,zuv⟩;generalize upd (upd (upd (upd H1 dxr (.own pr)) pr (.ins a.zkj dxr [])) dr (.dK [])) pr (.ins a.zkj dxr [("entries",.ref dr)])=H2 at s2 R2;refine⟨_,rfl,p,a.zkd,dx,_,rfl,s2 _ _ q1,T.zke,T.zls,(by show 2<1000;decide),?_⟩;rw[pF3];have np2:pr≠p/\dr≠p:=⟨Ne.symm (Zg q1 hpr),Ne.symm (Zg q1 hdr1)⟩;have b3:Vf p H (upd H2 p (.ins a.zkd dx (sF3 (.int rn) (.int qn) (.ref pr)))):=b1.trans ((Vf.of s2).trans .put);have q3:upd H2 p (.ins a.zkd dx (sF3 (.int rn) (.int qn) (.ref pr))) p=some (.ins a.zkd dx (sF3 (.int rn) (.int qn) (.ref pr))):=Zd;have kt3:∀ t xs,H2 t=some (.tup xs)->upd H2 p (.ins a.zkd dx (sF3 (.int rn) (.int qn) (.ref pr))) t=some (.tup xs):=fun t xs e=>by rw[Zi (Yo e (s2 _ _ q1) (fun z=>nomatch z))];exact e
 have R3:=R2.keep (H':=upd H2 p (.ins a.zkd dx (sF3 (.int rn) (.int qn) (.ref pr)))) (fun o e=>by rw[Zi np2.1];exact e) (fun o e=>by rw[Zi np2.2];exact e) kt3;have fdr:H dr=none:=Vf.free b1 ⟨_,q1⟩ hdr1;have hr2:H2 dr=some (.dK [])/\∃ o,H2 pr=some o:=by
  obtain⟨⟨x,kv,z1,z2,z3⟩,_⟩:=R2;cases z3;exact⟨z2,_,z1⟩
 generalize upd H2 p (.ins a.zkd dx (sF3 (.int rn) (.int qn) (.ref pr)))=H3 at b3 q3 R3;intro pl dxl hpl hdxl nel;refine⟨pl,dxl,rfl,Zd,fun lr ld H4 L0 k0 f0 g0 n0=>⟨rfl,?_⟩⟩;obtain⟨s4,fr0,fd0⟩:=zc1 hpl hdxl nel k0 f0 g0;refine⟨_,rfl,p,a.zkd,dx,_,rfl,s4 _ _ q3,T.zke,T.zlt,(by show 3<1000;decide),?_⟩;rw[pF4];have q4:=s4 _ _ q3;have np4:pl≠p/\lr≠p/\ld≠p:=⟨Ne.symm (Zg q3 hpl),Ne.symm (Zg q3 fr0),Ne.symm (Zg q3 fd0)⟩;have b5:Vf p H (upd H4 p (.ins a.zkd dx (sF4 (.int rn) (.int qn) (.ref pr) (.ref pl)))):=b3.trans ((Vf.of s4).trans .put);have q5:upd H4 p (.ins a.zkd dx (sF4 (.int rn) (.int qn) (.ref pr) (.ref pl))) p=some (.ins a.zkd dx (sF4 (.int rn) (.int qn) (.ref pr) (.ref pl))):=Zd;have kt5:∀ t xs,H4 t=some (.tup xs)->upd H4 p (.ins a.zkd dx (sF4 (.int rn) (.int qn) (.ref pr) (.ref pl))) t=some (.tup xs):=fun t xs e=>by rw[Zi (Yo e q4 (fun z=>nomatch z))];exact e
 have R5:=(R3.same s4).keep (H':=upd H4 p (.ins a.zkd dx (sF4 (.int rn) (.int qn) (.ref pr) (.ref pl)))) (fun o e=>by rw[Zi np2.1];exact e) (fun o e=>by rw[Zi np2.2];exact e) kt5;have L5:=L0.keep (H':=upd H4 p (.ins a.zkd dx (sF4 (.int rn) (.int qn) (.ref pr) (.ref pl)))) (fun o e=>by rw[Zi np4.1];exact e) (fun o e=>by rw[Zi np4.2.1];exact e) (fun o e=>by rw[Zi np4.2.2];exact e) kt5;have flr:H lr=none:=Vf.free b3 ⟨_,q3⟩ fr0;have fld:H ld=none:=Vf.free b3 ⟨_,q3⟩ fd0;have nrp:pr≠pl/\dr≠pl/\pr≠lr/\dr≠lr/\pr≠ld/\dr≠ld:=by
  obtain⟨⟨x,kv,z1,z2,_⟩,_⟩:=R3;exact⟨Zg z1 hpl,Zg z2 hpl,Zg z1 fr0,Zg z2 fr0,Zg z1 fd0,Zg z2 fd0⟩
 generalize upd H4 p (.ins a.zkd dx (sF4 (.int rn) (.int qn) (.ref pr) (.ref pl)))=H5 at b5 q5 R5 L5;intro da hda;have npa:da≠p:=Ne.symm (Zg q5 hda);refine⟨_,rfl,p,a.zkd,dx,_,rfl,Zf (o:=.dT []) hda _ _ q5,T.zke,T.zmk,(by show 4<1000;decide),?_⟩;rw[pF5];have b7:Vf p H5 (upd (upd H5 da (.dT [])) p (.ins a.zkd dx (sF5 (.int rn) (.int qn) (.ref pr) (.ref pl) (.ref da)))):=(Vf.of (Zf hda)).trans .put;have q7:upd (upd H5 da (.dT [])) p (.ins a.zkd dx (sF5 (.int rn) (.int qn) (.ref pr) (.ref pl) (.ref da))) p=some (.ins a.zkd dx (sF5 (.int rn) (.int qn) (.ref pr) (.ref pl) (.ref da))):=Zd;have d7:upd (upd H5 da (.dT [])) p (.ins a.zkd dx (sF5 (.int rn) (.int qn) (.ref pr) (.ref pl) (.ref da))) da=some (.dT []):=by rw[Zi npa,Zd]
 generalize upd (upd H5 da (.dT [])) p (.ins a.zkd dx (sF5 (.int rn) (.int qn) (.ref pr) (.ref pl) (.ref da)))=H7 at b7 q7 d7;refine⟨by show 0<=sizeLine;decide,fun ls hls=>?_⟩;have nps:ls≠p:=Ne.symm (Zg q7 hls);refine⟨_,rfl,p,a.zkd,dx,_,rfl,Zf (o:=.lst []) hls _ _ q7,T.zke,T.znh,(by show 5<1000;decide),?_⟩;rw[pF6];have b9:Vf p H7 (upd (upd H7 ls (.lst [])) p (.ins a.zkd dx (sF6 (.int rn) (.int qn) (.ref pr) (.ref pl) (.ref da) (.ref ls)))):=(Vf.of (Zf hls)).trans .put;have q9:upd (upd H7 ls (.lst [])) p (.ins a.zkd dx (sF6 (.int rn) (.int qn) (.ref pr) (.ref pl) (.ref da) (.ref ls))) p=some (.ins a.zkd dx (sF6 (.int rn) (.int qn) (.ref pr) (.ref pl) (.ref da) (.ref ls))):=Zd;have l9:upd (upd H7 ls (.lst [])) p (.ins a.zkd dx (sF6 (.int rn) (.int qn) (.ref pr) (.ref pl) (.ref da) (.ref ls))) ls=some (.lst []):=by rw[Zi nps,Zd]
 generalize upd (upd H7 ls (.lst [])) p (.ins a.zkd dx (sF6 (.int rn) (.int qn) (.ref pr) (.ref pl) (.ref da) (.ref ls)))=H9 at b9 q9 l9;refine⟨_,rfl,p,a.zkd,dx,_,rfl,q9,T.zke,T.zlf,(by show 6<1000;decide),?_⟩;rw[pF7];have b10:Vf p H9 (upd H9 p (.ins a.zkd dx (sF7 (.int rn) (.int qn) (.ref pr) (.ref pl) (.ref da) (.ref ls) .non))):=.put;have q10:upd H9 p (.ins a.zkd dx (sF7 (.int rn) (.int qn) (.ref pr) (.ref pl) (.ref da) (.ref ls) .non)) p=some (.ins a.zkd dx (sF7 (.int rn) (.int qn) (.ref pr) (.ref pl) (.ref da) (.ref ls) .non)):=Zd;generalize upd H9 p (.ins a.zkd dx (sF7 (.int rn) (.int qn) (.ref pr) (.ref pl) (.ref da) (.ref ls) .non))=H10 at b10 q10;refine⟨by show 0<=sizeLine;decide,fun lt hlt=>?_⟩;have npt:lt≠p:=Ne.symm (Zg q10 hlt);refine⟨_,rfl,p,a.zkd,dx,_,rfl,Zf (o:=.lst []) hlt _ _ q10,T.zke,T.zli,(by show 7<1000;decide),?_⟩;rw[pF8];have b12:Vf p H10 (upd (upd H10 lt (.lst [])) p (.ins a.zkd dx (sF8 (.int rn) (.int qn) (.ref pr) (.ref pl) (.ref da) (.ref ls) .non (.ref lt)))):=(Vf.of (Zf hlt)).trans .put;have q12:upd (upd H10 lt (.lst [])) p (.ins a.zkd dx (sF8 (.int rn) (.int qn) (.ref pr) (.ref pl) (.ref da) (.ref ls) .non (.ref lt))) p=some (.ins a.zkd dx (sF8 (.int rn) (.int qn) (.ref pr) (.ref pl) (.ref da) (.ref ls) .non (.ref lt))):=Zd;have l12:upd (upd H10 lt (.lst [])) p (.ins a.zkd dx (sF8 (.int rn) (.int qn) (.ref pr) (.ref pl) (.ref da) (.ref ls) .non (.ref lt))) lt=some (.lst []):=by rw[Zi npt,Zd]
 generalize upd (upd H10 lt (.lst [])) p (.ins a.zkd dx (sF8 (.int rn) (.int qn) (.ref pr) (.ref pl) (.ref da) (.ref ls) .non (.ref lt)))=H12 at b12 q12 l12;have b912:=b10.trans b12;have b712:=b9.trans b912;have b512:=b7.trans b712;have bb:=b5.trans b512;have kt:∀ t xs,H5 t=some (.tup xs)->H12 t=some (.tup xs):=fun t xs e=>b512 t _ e (Yo e q5 (fun z=>nomatch z));have R12:=R5.keep (fun o e=>b512 _ o e np2.1) (fun o e=>b512 _ o e np2.2) kt;have L12:=L5.keep (fun o e=>b512 _ o e np4.1) (fun o e=>b512 _ o e np4.2.1) (fun o e=>b512 _ o e np4.2.2) kt;have d12:=b712 _ _ d7 npa;have l912:=b912 _ _ l9 nps;have fda:H da=none:=Vf.free b5 ⟨_,q5⟩ hda;have fls:H ls=none:=Vf.free (b5.trans b7) ⟨_,q7⟩ hls;have flt:H lt=none:=Vf.free (b5.trans (b7.trans (b9.trans b10))) ⟨_,q10⟩ hlt;have ex5:(∃ o,H5 pr=some o)/\(∃ o,H5 dr=some o)/\(∃ o,H5 pl=some o)/\(∃ o,H5 lr=some o)/\(∃ o,H5 ld=some o):=by
  obtain⟨⟨x,kv,z1,z2,_⟩,_⟩:=id R5;obtain⟨⟨y,w1⟩,⟨rs,w2,_⟩,⟨ks,w3,_⟩⟩:=id L5;exact⟨⟨_,z1⟩,⟨_,z2⟩,⟨_,w1⟩,⟨_,w2⟩,⟨_,w3⟩⟩
 have n5:∀ {x y:Addr},(∃ o,H5 x=some o)->H5 y=none->x≠y:=fun ⟨o,e⟩ hy=>Zg e hy;have fls5:H5 ls=none:=Vf.free b7 ⟨_,q7⟩ hls;have flt5:H5 lt=none:=Vf.free (b7.trans (b9.trans b10)) ⟨_,q10⟩ hlt;have ndas:da≠ls:=Zg d7 hls;have ndat:da≠lt:=Zg (b10 _ _ (b9 _ _ d7 npa) npa) hlt;have nst:ls≠lt:=Zg (b10 _ _ l9 nps) hlt;obtain⟨e1,e2,e3,e4,e5⟩:=ex5;have nrl:lr≠ld:=n0;refine hF ⟨p,pr,dr,pl,lr,ld,da,ls,lt⟩ H12 rfl ⟨⟨dx,.non,q12,rfl⟩,R12,L12,⟨[],d12,fun i n=>rfl,ztb _⟩,⟨[],l912,.nil⟩,⟨[],l12,.nil⟩,?_,?_⟩ bb ?_
 ·show [p,dr,lr,ld,da,ls,lt].Nodup;simp only[ztx,zs7,zt1,or_false,not_or];exact⟨⟨Ne.symm np2.2,Ne.symm np4.2.1,Ne.symm np4.2.2,Ne.symm npa,Ne.symm nps,Ne.symm npt⟩,⟨nrp.2.2.2.1,nrp.2.2.2.2.2,n5 e2 hda,n5 e2 fls5,n5 e2 flt5⟩,⟨nrl,n5 e4 hda,n5 e4 fls5,n5 e4 flt5⟩,⟨n5 e5 hda,n5 e5 fls5,n5 e5 flt5⟩,⟨ndas,ndat⟩,nst,by simp,zuv⟩
 ·have hpr5:∃ x fs,H5 pr=some (.ins a.zkj x fs):=by obtain⟨⟨x,kv,z1,_⟩,_⟩:=R5;exact⟨_,_,z1⟩
  have hdr5:∃ kv,H5 dr=some (.dK kv):=by obtain⟨⟨x,kv,_,z2,_⟩,_⟩:=R5;exact⟨_,z2⟩
  have hpl5:∃ x fs,H5 pl=some (.ins a.zkf x fs):=by obtain⟨⟨y,w1⟩,_⟩:=L5;exact⟨_,_,w1⟩
  obtain⟨x1,y1,z1⟩:=hpr5;obtain⟨y2,z2⟩:=hdr5;obtain⟨x3,y3,z3⟩:=hpl5;obtain⟨_,⟨rs,w2,_⟩,⟨ks,w3,_⟩⟩:=id L5;have nm:∀ m,m∈([p,dr,lr,ld,da,ls,lt]:List Addr)↔m=p\/m=dr\/m=lr\/m=ld\/m=da\/m=ls\/m=lt:=fun m=>by simp
  refine⟨fun hm=>?_,fun hm=>?_⟩
  ·rcases(nm _).mp hm with q|q|q|q|q|q|q
   ·exact np2.1 q
   ·exact Yo z1 z2 (fun z=>nomatch z) q
   ·exact nrp.2.2.1 q
   ·exact nrp.2.2.2.2.1 q
   ·exact n5 e1 hda q
   ·exact n5 e1 fls5 q
   ·exact n5 e1 flt5 q
  ·rcases(nm _).mp hm with q|q|q|q|q|q|q
   ·exact np4.1 q
   ·exact nrp.2.1 q.symm
   ·exact Yo z3 w2 (fun z=>nomatch z) q
   ·exact Yo z3 w3 (fun z=>nomatch z) q
   ·exact n5 e3 hda q
   ·exact n5 e3 fls5 q
   ·exact n5 e3 flt5 q
 ·intro x hx hxp;simp only[SAd.fp,zs7,zt1,or_false] at hx;rcases hx with q|q|q|q|q|q|q
  ·exact absurd q hxp
  ·rw[q];exact fdr
  ·rw[q];exact flr
  ·rw[q];exact fld
  ·rw[q];exact fda
  ·rw[q];exact fls
  ·rw[q];exact flt
abbrev Xp:Stmt:=Zy (top 58) 1
theorem Tz:Zl ["self"] ["self"] (Zj Xp):=fnS
theorem T1(F:Fun K "check_not_over" "Season.check_not_over" Xp f fd)(T:Tx K mg a)(zkg:Zt P w K mg base a.zkd "at_hand" 2 ["self"] (Vd (ca a))):FnOk P w K mg base (CX1 P w) 3 f fd ["self"] (Nk (ca a)):=by
 refine F.okX Tz ⋯ fun _ _ _ _ H _ Q E hr h=>?_;obtain⟨A',S,rfl,SA,h⟩:=h;refine⟨_,(Ze (Zz (Zo Ri (Yb (pv 0) T.zke zkg (hr.mono ⋯) Zk) (Zq (K:=K) rfl (pv 0) rfl) (Zr _))
  (Ze (Y3 Y2 rfl T.zql rfl (Za Zs Zb)))
  Zp)),?_⟩
 obtain⟨⟨dx,v,a1,a2⟩,b,c,_⟩:=id SA;refine⟨_,rfl,A'.p,dx,_,rfl,a1,Z8 ⋯,A',S,rfl,SA,_,rfl,A'.p,a.zkd,dx,_,_,rfl,a1,T.zke,T.znd,Ge,_,_,rfl,rfl,_,rfl,?_⟩;refine itD (fun hc=>?_) (fun hc=>?_)
 ·rw[if_pos (by unfold atV at hc;omega)] at h;exact⟨sz1,h⟩
 ·rw[if_neg (by unfold atV at hc;omega)] at h;exact h
abbrev Xv:Stmt:=Zy (top 58) 2
theorem Sj:Zl ["self"] ["self"] (Zj Xv):=fnS
theorem Sk(F:Fun K "check_undrawn" "Season.check_undrawn" Xv f fd)(T:Tx K mg a)(zk1:Zt P w K mg base a.zkd "check_not_over" 3 ["self"] (Nk (ca a))):FnOk P w K mg base (CX1 P w) 4 f fd ["self"] (Nl (ca a)):=by
 refine F.okX Sj ⋯ fun _ _ _ _ H _ Q E hr h=>?_;obtain⟨A',S,rfl,SA,h⟩:=h;refine⟨_,(Zc (Z6 (Yb (pv 0) T.zke zk1 (hr.mono ⋯) Zk))
 (Ze (Zz (Zo Ob (Zq (K:=K) rfl (pv 0) rfl) Yu (Zr _))
  (Ze (Y3 Y2 rfl T.zqy rfl (Za Zs Zb)))
  Zp))),?_⟩
 obtain⟨⟨dx,v,a1,a2⟩,b,c,_⟩:=id SA;refine⟨_,rfl,A'.p,dx,_,rfl,a1,Z8 ⋯,A',S,rfl,SA,?_⟩;refine it2 h (fun _ z=>z) fun hn h=>?_;refine⟨_,rfl,A'.p,a.zkd,dx,_,_,rfl,a1,T.zke,T.zlf,X7,rfl,_,rfl,?_⟩;cases hc:S.cur with
 | none =>
   rw[hc] at a2 h;have a2:v=.non:=a2;rw[a2];exact iteF h
 | some s =>
   rw[hc] at a2 h;obtain⟨q,rfl,_⟩:=a2;exact iteT ⟨sz1,h⟩
abbrev Wc:Stmt:=Zy (top 58) 3
theorem Rr:Zl ["self","at"] ["self","at"] (Zj Wc):=fnS
theorem Rt(F:Fun K "check_round" "Season.check_round" Wc f fd)(T:Tx K mg a):FnOk P w K mg base (CX1 P w) 1 f fd ["self","at"] (Fq (ca a)):=by
 refine F.okX Rr ⋯ fun _ _ _ _ H _ Q E hr h=>?_;obtain⟨A',S,i,rfl,SA,si,h⟩:=h;refine⟨_,(Ze (Zz (PW.pt (Wl (Zo Iw (pv 1) Zh (Zr _)) (X2 (Zo Ri (pv 1) (Zq (K:=K) rfl (pv 0) rfl) (Zr _)))))
  (Ze (Y3 Y2 rfl T.zon rfl (Za (Ws (Zx (Wi (pv 1)) (Zx (Xb ⋯) Wr)) ⋯) Zb)))
  Zp)),?_⟩
 obtain⟨⟨dx,v,a1,a2⟩,b,c,_⟩:=id SA;refine⟨_,rfl,_,_,rfl,rfl,_,rfl,?_⟩;refine itD (fun hc=>?_) (fun hc=>?_)
 ·rw[if_pos (.inl hc)] at h;refine iteT ?_;exact⟨_,rfl,.inl ⟨_,rfl,si⟩,fun z=>⟨sz1,h⟩⟩
 refine⟨_,rfl,_,rfl,A'.p,a.zkd,dx,_,_,rfl,a1,T.zke,T.znd,Ge,_,_,rfl,rfl,_,rfl,?_⟩;refine itD (fun hc2=>?_) (fun hc2=>?_)
 ·rw[if_pos (.inr hc2)] at h;exact⟨_,rfl,.inl ⟨_,rfl,si⟩,fun z=>⟨sz1,h⟩⟩
 ·rw[if_neg (fun z=>z.elim hc hc2)] at h;exact h
abbrev Wj:Stmt:=Zy (top 58) 4
theorem Qd:Zl ["self"] ["self"] (Zj Wj):=fnS
theorem Qe(F:Fun K "check_room" "Season.check_room" Wj f fd)(T:Tx K mg a):FnOk P w K mg base (CX1 P w) 1 f fd ["self"] (Fs (ca a)):=by
 refine F.okX Qd ⋯ fun _ _ _ _ H _ Q E hr h=>?_;obtain⟨A',S,rfl,SA,h⟩:=h;refine⟨_,(Ze (Zz (Zo zfj (Zm (cL K) (by rfl) T.zk5 PySem.boot_len (Za (Zq (K:=K) rfl (pv 0) rfl) Zb)) (Xz rfl T.zl3) (Zr _))
  (Ze (Y3 Y2 rfl T.zpy rfl (Za (Ws (Zx (Wi (Xz rfl T.zl3)) (Zx (Xb ⋯) Wr)) ⋯) Zb)))
  Zp)),?_⟩
 obtain⟨⟨dx,v,a1,a2⟩,b,c,d,f,⟨us,g1,g2⟩,nd,np⟩:=id SA;refine⟨_,rfl,A'.p,a.zkd,dx,_,_,rfl,a1,T.zke,T.zli,V5,A'.lt,_,rfl,.inl (SqL.of g1),_,_,rfl,rfl,_,rfl,?_⟩;rw[g2.length];refine itD (fun hc=>?_) (fun hc=>?_)
 ·rw[if_pos ⋯] at h;exact⟨.inl ⟨_,rfl,Yc ⋯⟩,fun z=>⟨sz1,h⟩⟩
 ·rw[if_neg ⋯] at h;exact h
abbrev T2:Stmt:=Zy (top 58) 5
theorem K7:Zl ["self","word","number","at"] ["self","word","number","at"] (Zj T2):=fnS
theorem K8(F:Fun K "note" "Season.note" T2 f fd)(T:Tx K mg a):FnOk P w K mg base (CX1 P w) 1 f fd ["self","word","number","at"] (Ft (ca a)):=by
 refine F.okX K7 ⋯ fun _ _ _ _ H _ Q E hr h=>?_;obtain⟨A',S,w',n,i,rfl,SA,hz,h⟩:=h;refine⟨_,(Ze (Xo (Zq (K:=K) rfl (pv 0) rfl) (Yk (Za (Yk (Za (pv 1) (Za (pv 2) (Za (pv 3) Zb)))) (Za (Zq (K:=K) rfl (pv 0) rfl) Zb))))),?_⟩;obtain⟨⟨dx,v,a1,a2⟩,b,c,⟨kvs,d1,d2⟩,⟨vs,f1,f2⟩,⟨us,g1,g2⟩,nd,np⟩:=id SA;refine⟨_,rfl,A'.p,a.zkd,dx,_,_,rfl,a1,T.zke,T.zli,V5,A'.lt,us,rfl,g1,?_⟩;refine⟨_,rfl,_,rfl,_,rfl,sz3,fun t1 ht1=>?_⟩;have s1:=Zf (o:=.tup [.str w',.int n,.int i]) ht1;have q1:upd H t1 (.tup [.str w',.int n,.int i]) t1=some (.tup (Wo (w',n,i))):=Zd;generalize upd H t1 (.tup [.str w',.int n,.int i])=H1 at s1 q1;refine⟨_,rfl,A'.p,a.zkd,dx,_,_,rfl,s1 _ _ a1,T.zke,T.zlf,X7,sz2,fun t2 ht2=>?_⟩;have s2:=Zf (o:=.tup [.ref t1,v]) ht2;have q2:upd H1 t2 (.tup [.ref t1,v]) t2=some (.tup [.ref t1,v]):=Zd;have q12:=s2 _ _ q1;have s12:=s1.trans s2;generalize upd H1 t2 (.tup [.ref t1,v])=H2 at s2 q2 q12 s12;refine⟨us,s12 _ _ g1,by have:=g2.length;have:=Se;omega,?_⟩;have fr:FrS A' H (upd H2 A'.lt (.lst (us++[.ref t2]))):=fun b o e hb=>by
  rw[Zi (fun z=>hb (by rw[z];simp[SAd.fp]))];exact s12 _ _ e
 have kt:=SA.tups fr;have kp:∀ x o,x≠A'.lt->H x=some o->upd H2 A'.lt (.lst (us++[.ref t2])) x=some o:=fun x o hx e=>by rw[Zi hx];exact s12 _ _ e
 have kt2:∀ t xs,H2 t=some (.tup xs)->upd H2 A'.lt (.lst (us++[.ref t2])) t=some (.tup xs):=fun t xs e=>by
  rw[Zi (Yo e (s12 _ _ g1) (fun z=>nomatch z))];exact e
 have ko:∀ x o,x∉A'.fp->H x=some o->upd H2 A'.lt (.lst (us++[.ref t2])) x=some o:=fun x o hx e=>fr x o e hx;have nd':=nd;simp only[SAd.fp,ztx,zs7,zt1,or_false,not_or] at nd';obtain⟨⟨n1,n2,n3,n4,n5,n6⟩,⟨n7,n8,n9,n10,n11⟩,⟨n12,n13,n14,n15⟩,⟨n16,n17,n18⟩,⟨n19,n20⟩,n21,_⟩:=nd';have npt:A'.pr≠A'.lt/\A'.pl≠A'.lt:=⟨fun z=>np.1 (by rw[z];simp[SAd.fp]),fun z=>np.2 (by rw[z];simp[SAd.fp])⟩;refine h _ ⟨⟨dx,v,kp _ _ n6 a1,a2.keep ko kt⟩,b.keep (fun o e=>kp _ o npt.1 e) (fun o e=>kp _ o n11 e) kt,c.keep (fun o e=>kp _ o npt.2 e) (fun o e=>kp _ o n15 e) (fun o e=>kp _ o n18 e) kt,⟨kvs,kp _ _ n20 d1,d2⟩,⟨vs,kp _ _ n21 f1,f2.keep ko kt⟩,⟨us++[.ref t2],Zd,?_⟩,nd,np⟩ fr;exact(g2.keep ko kt).snoc (kt2 _ _ q2) (kt2 _ _ q12) (a2.keep ko kt)
abbrev Xw:Stmt:=Zy (top 58) 6
theorem Sl:Zl ["self"] ["self"] (Zj Xw):=fnS
theorem Sm(F:Fun K "sheet_at_hand" "Season.sheet_at_hand" Xw f fd)(T:Tx K mg a):FnOk P w K mg base (CX1 P w) 1 f fd ["self"] (Po (ca a)):=by
 refine F.okX Sl ⋯ fun _ _ _ _ H _ Q E hr h=>?_;obtain⟨A',S,rfl,SA,h1,h2⟩:=h;refine⟨_,(Zc (Zz (Zo To (Zq (K:=K) rfl (pv 0) rfl) Yu (Zr _))
  (Ze (Y3 Y2 rfl T.zp9 rfl (Za Zs Zb)))
  Zp)
 (Ze (Zn (Zq (K:=K) rfl (pv 0) rfl)))),?_⟩
 obtain⟨⟨dx,v,a1,a2⟩,b,c,_⟩:=id SA;refine⟨_,rfl,A'.p,a.zkd,dx,_,_,rfl,a1,T.zke,T.zlf,X7,rfl,_,rfl,?_⟩;cases hc:S.cur with
 | none =>
   rw[hc] at a2;have a2:v=.non:=a2;rw[a2];exact iteT ⟨sz1,h1 hc⟩
 | some s =>
   rw[hc] at a2;obtain⟨q,rfl,hs⟩:=a2;refine iteF ?_;exact⟨_,rfl,A'.p,a.zkd,dx,_,_,rfl,a1,T.zke,T.zlf,X7,h2 s q hc hs⟩
abbrev Vk:Stmt:=Zy (top 58) 7
theorem P5:Zl ["self","at"] ["self","at"] (Zj Vk):=fnS
theorem P6(F:Fun K "sheet_of" "Season.sheet_of" Vk f fd)(T:Tx K mg a)(zk6:Zt P w K mg base a.zkd "check_round" 1 ["self","at"] (Fq (ca a)))(zkt:Zt P w K mg base a.zkf "over" 1 ["self"] (Ng a.zkf))(zkg:Zt P w K mg base a.zkd "at_hand" 2 ["self"] (Vd (ca a)))(zk2:Zt P w K mg base a.zkd "sheet_at_hand" 1 ["self"] (Po (ca a))):FnOk P w K mg base (CX1 P w) 3 f fd ["self","at"] (Sf (ca a)):=by
 refine F.okX P5 ⋯ fun _ _ _ _ H _ Q E hr h=>?_;obtain⟨A',S,i,rfl,SA,si,hol,h⟩:=h;refine⟨_,(Zc (Z6 (Yz (pv 0) T.zke zk6 (hr.mono ⋯) Zk (Za (pv 1) Zb)))
 (Zc (Zz (Zo zfi (pv 1) (Yb (Zq (K:=K) rfl (pv 0) rfl) T.zlb zkt (hr.mono ⋯) Zk) (Zr _))
  (Ze (Zn (pI (iL K) (Zq (K:=K) rfl (pv 0) rfl) (Zv Ru (pv 1) Zh))))
  Zp)
 (Zc (Zz (Zo Ri (pv 1) (Yb (pv 0) T.zke zkg (hr.mono ⋯) Zk) (Zr _))
  (Ze (Y3 Y2 rfl T.zp9 rfl (Za (Ws (Zx (Xb ⋯) (Zx (Wi (pv 1)) (Zx (Xb ⋯) Wr))) ⋯) Zb)))
  Zp)
 (Ze (Zn (Yb (pv 0) T.zke zk2 (hr.mono ⋯) Zk)))))),?_⟩
 obtain⟨⟨dx,v,a1,a2⟩,b,c,d,⟨vs,f1,f2⟩,_⟩:=id SA;obtain⟨⟨dxl,hpl⟩,_⟩:=id c;refine⟨_,rfl,A'.p,dx,_,rfl,a1,Z8 ⋯,_,rfl,A',S,i,rfl,SA,si,?_⟩;refine it2 h (fun _ z=>z) fun hn h=>?_;refine⟨_,rfl,_,rfl,A'.p,a.zkd,dx,_,_,rfl,a1,T.zke,T.zlt,Vu,A'.pl,dxl,_,rfl,hpl,Mb ⋯ ⋯,A'.pl,A'.lr,A'.ld,S.led,rfl,c,_,_,rfl,rfl,_,rfl,?_⟩;refine itD (fun hc=>?_) (fun hc=>?_)
 ·have hk:(i-1).toNat<S.old.length:=by omega
  have hs:Ve S i=some (S.old[(i-1).toNat]'hk):=by unfold Ve;rw[if_pos hc];exact zs4 hk
  obtain⟨q,e1,e2⟩:=f2.getR (zs4 hk);exact⟨_,rfl,A'.p,a.zkd,dx,_,_,rfl,a1,T.zke,T.znh,Gf,_,rfl,_,_,rfl,rfl,A'.ls,_,_,_,rfl,rfl,SqL.of f1,(show atI vs (i-1)=some (.ref q) by rw[show i-1=(((i-1).toNat:Nat):Int) by omega];exact Ye e1),h.2 _ q hs e2⟩
 ·refine Zu ?_;refine⟨_,rfl,_,rfl,A'.p,dx,_,rfl,a1,Z8 ⋯,A',S,rfl,SA,_,_,rfl,rfl,_,rfl,?_⟩;refine itD (fun hc2=>?_) (fun hc2=>?_)
  ·exact⟨_,rfl,.inl ⟨_,rfl,si⟩,fun z=>⟨sz1,h.1 (by unfold Ve;rw[if_neg hc,if_pos (by unfold atV at hc2;omega)])⟩⟩
  ·have hs:Ve S i=S.cur:=by unfold Ve;rw[if_neg hc,if_neg (by unfold atV at hc2;omega)]
   exact⟨_,rfl,A'.p,dx,_,rfl,a1,Z8 ⋯,A',S,rfl,SA,fun hz=>h.1 (by rw[hs];exact hz),fun s q hz hq=>h.2 s q (by rw[hs];exact hz) hq⟩
abbrev W5:Stmt:=Zy (top 58) 8
theorem Xm:Zl ["self","listed","people","at","out"] ["self","listed"] (Zj W5):=fnS
theorem Q0(F:Fun K "takers_of" "Season.takers_of" W5 f fd)(T:Tx K mg a)(zl2:Zt P w K mg base a.zkj "numbers" 1 ["self"] (Ki (ca a)))(zmz:Zt P w K mg base a.zkj "person" 3 ["self","number"] (Dh (ca a)))(zkg:Zt P w K mg base a.zkd "at_hand" 2 ["self"] (Vd (ca a)))(zp0:Z4 P w K mg base "takers" 4 ["people","match","out","ledger","rest"] (E3 K a.zkf)):FnOk P w K mg base (CX1 P w) 5 f fd ["self","listed"] (Pp (ca a)):=by
 refine F.okX Xm ⋯ fun _ _ _ _ H _ Q E hr h=>?_;obtain⟨A',S,l,ts,ms,rfl,SA,hl,tl,hml,hpl,hsm,h⟩:=h;have hu:=W8 hr;refine⟨_,(Zc (pS 2 Xm.nd (V6 rfl (cT ["self"] [0]) (Yr (K:=K) rfl (Yb (Zq (K:=K) rfl (pv 0) rfl) T.zla zl2 (hr.mono ⋯) Zk)) (fun _ _ _ _ _=>V2) (fun _ _ _ _ _=>(Yz (Zq (K:=K) rfl (pv 1) rfl) T.zla zmz (hr.mono ⋯) Ah (Za (pv 0) Zb)))))
 (Zc (pS 3 Xm.nd (Yb (pv 0) T.zke zkg (hr.mono ⋯) Zk))
 (Zc (pS 4 Xm.nd (V6 rfl (cT ["at","self"] [3,0]) (Yr (K:=K) rfl (Yb (Zq (K:=K) rfl (pv 0) rfl) T.zla zl2 (hr.mono ⋯) Zk)) (fun _ _ _ _ _=>Lh (Q9 (G4 hu (Yk (Za (pv 1) (Za (pv 0) Zb))) (Zq (K:=K) rfl (pv 2) rfl)))) (fun _ _ _ _ _=>(pv 0))))
 (Ze (Zn (V6 rfl (cT ["people","out","self"] [2,4,0]) (Yr (K:=K) rfl (pv 1)) (fun _ _ _ _ _=>V2) (fun _ _ _ _ _=>(Ai zp0 (hr.mono ⋯) Ah rfl (Za (pv 1) (Za (pv 0) (Za (pv 2) (Za (Zq (K:=K) rfl (pv 3) rfl) (Za (Zq (K:=K) rfl (pv 3) rfl) Zb))))))))))))),?_⟩
 obtain⟨⟨dx,v,a1,a2⟩,b,c,⟨kvs,d1,d2⟩,_⟩:=id SA;obtain⟨⟨dxr,kvr,hpr,hdr,en⟩,ndr⟩:=id b;refine⟨_,rfl,A'.p,a.zkd,dx,_,_,rfl,a1,T.zke,T.zls,Vt,A'.pr,dxr,_,rfl,hpr,Y7.no ⋯,A'.pr,A'.dr,S.ppl,rfl,b,fun ln hln=>?_⟩;have s1:=Zf (o:=.lst (S.ppl.map fun x=>V.int x.1)) hln;have q1:upd H ln (.lst (S.ppl.map fun x=>V.int x.1)) ln=some (.lst (S.ppl.map fun x=>V.int x.1)):=Zd;generalize upd H ln (.lst (S.ppl.map fun x=>V.int x.1))=H1 at s1 q1;have hnl:(S.ppl.map fun x=>V.int x.1).length=S.ppl.length:=by rw[zs3]
 refine⟨ln,rfl,⟨_,SqL.of q1⟩,Um (K:=K) (xs:=S.ppl.map fun x=>V.int x.1) (fun i ys H'=>Same H H'/\Same H1 H'/\Z0 H' ys ((S.ppl.take i).map pV)/\ys.length=i) ⟨s1,Same.refl _,.nil,rfl⟩ (fun i ys H' _ ⟨_,z,_⟩=>SqL.of (z _ _ q1)) (szN ⋯) (fun i ys H' ⟨_,_,_,e⟩=>by omega) ?_ ?_⟩
 ·rintro i x ys H' hx ⟨sh,s1',tl',hyl⟩;have hi:i<S.ppl.length:=by have:=(zs5.mp hx).1;omega
  have hpi:S.ppl[i]?=some (S.ppl[i]'hi):=zs4 hi;have etk:S.ppl.take (i+1)=S.ppl.take i++[S.ppl[i]'hi]:=zts hi;have hmem:S.ppl[i]'hi∈S.ppl:=ztz hi;have ex:x=.int (S.ppl[i]'hi).1:=by rw[zta,hpi] at hx;exact(Option.some.inj hx).symm
  generalize (S.ppl[i]'hi)=pp at hpi etk hmem ex;subst ex;unfold tYes;dsimp only;rw[if_pos rfl];refine⟨_,rfl,A'.p,a.zkd,dx,_,_,rfl,sh _ _ a1,T.zke,T.zls,Vt,A'.pr,dxr,_,rfl,sh _ _ hpr,Y7.no ⋯,_,rfl,A'.pr,A'.dr,S.ppl,pp.1,rfl,b.same sh,hsm pp hmem,fun z=>absurd (ztd.mpr ⟨pp,hmem,rfl⟩) z,fun g c' t H2 hm ht s2 _=>?_⟩;have epp:=zfa b.nd hm hmem rfl;rw[epp] at ht;refine⟨sh.trans s2,s1'.trans s2,?_,by rw[zs8,hyl];rfl⟩;rw[etk,ztl];exact(tl'.same s2).snoc ht
 rintro ys H2 ⟨sh2,s12,tl2,hyl⟩ lp hlp;rw[hnl,ztp] at tl2;have s3:=sh2.trans (Zf (o:=.lst ys) hlp);have q3:upd H2 lp (.lst ys) lp=some (.lst ys):=Zd;have tl3:=tl2.same (Zf (o:=.lst ys) hlp);generalize upd H2 lp (.lst ys)=H3 at s3 q3 tl3;have SA3:=SA.same s3;refine⟨_,rfl,A'.p,dx,_,rfl,s3 _ _ a1,Z8 ⋯,A',S,rfl,SA3,?_⟩;refine⟨_,rfl,A'.p,a.zkd,dx,_,_,rfl,s3 _ _ a1,T.zke,T.zls,Vt,A'.pr,dxr,_,rfl,s3 _ _ hpr,Y7.no ⋯,A'.pr,A'.dr,S.ppl,rfl,b.same s3,fun ln4 hln4=>?_⟩;have s4:=Zf (o:=.lst (S.ppl.map fun x=>V.int x.1)) hln4;have q4:upd H3 ln4 (.lst (S.ppl.map fun x=>V.int x.1)) ln4=some (.lst (S.ppl.map fun x=>V.int x.1)):=Zd;generalize upd H3 ln4 (.lst (S.ppl.map fun x=>V.int x.1))=H4 at s4 q4;refine⟨ln4,rfl,⟨_,SqL.of q4⟩,Um (K:=K) (xs:=S.ppl.map fun x=>V.int x.1) (fun i ys H'=>Same H4 H'/\ys=((S.ppl.take i).filter (pIn S.out (atV S))).map fun x=>V.int x.1) ⟨Same.refl _,rfl⟩ (fun i ys H' _ ⟨z,_⟩=>SqL.of (z _ _ q4)) (szN ⋯) (fun i ys H' ⟨_,e⟩=>by rw[e,zs3];exact zto (zun _ _) (List.length_take_le _ _)) ?_ ?_⟩
 ·rintro i x zs H' hx ⟨s4',rfl⟩;have hi:i<S.ppl.length:=by have:=(zs5.mp hx).1;omega
  have hpi:S.ppl[i]?=some (S.ppl[i]'hi):=zs4 hi;have etk:S.ppl.take (i+1)=S.ppl.take i++[S.ppl[i]'hi]:=zts hi;have ex:x=.int (S.ppl[i]'hi).1:=by rw[zta,hpi] at hx;exact(Option.some.inj hx).symm
  generalize (S.ppl[i]'hi)=pp at hpi etk ex;subst ex;refine⟨_,rfl,_,rfl,sz2,fun t ht=>?_⟩;have s5:=Zf (o:=.tup [.int (atV S),.int pp.1]) ht;have q5:upd H' t (.tup [.int (atV S),.int pp.1]) t=some (.tup (([inl (atV S),inl pp.1]:List Key).map kV)):=Zd;generalize upd H' t (.tup [.int (atV S),.int pp.1])=H5 at s5 q5;have sh5:=s3.trans (s4.trans (s4'.trans s5));refine⟨_,rfl,A'.p,a.zkd,dx,_,_,rfl,sh5 _ _ a1,T.zke,T.zmk,Qs,A'.da,_,rfl,DGet.t (k:=[inl (atV S),inl pp.1]) (sh5 _ _ d1) q5,_,rfl,?_⟩;rw[d2.isSome];have e2:∀ ws,((S.ppl.take (i+1)).filter (pIn S.out (atV S))).map (fun x=>V.int x.1)=((S.ppl.take i).filter (pIn S.out (atV S))).map (fun x=>V.int x.1)++ws↔ws=if pIn S.out (atV S) pp then [V.int pp.1] else []:=fun ws=>by
   rw[etk,zu4,ztl,List.append_cancel_left_eq];cases q:pIn S.out (atV S) pp<;>simp[q,eq_comm]
  refine itB (fun hb=>?_) (fun hb=>?_)
  ·exact⟨_,rfl,s4'.trans s5,((e2 [V.int pp.1]).mpr (by rw[show pIn S.out (atV S) pp=true from hb];rfl)).symm⟩
  ·refine⟨s4'.trans s5,?_⟩;have:=(e2 []).mpr (by rw[show pIn S.out (atV S) pp=false from hb];rfl);rw[List.append_nil] at this;exact this.symm
 rintro zs H5 ⟨s45,rfl⟩ lo hlo;rw[hnl,ztp];have s6:=s45.trans (Zf (o:=.lst (outV S)) hlo);have q6:upd H5 lo (.lst (outV S)) lo=some (.lst (outV S)):=Zd;show Vb 4 (V.ref lo) _ (upd H5 lo (.lst (outV S))) _;generalize upd H5 lo (.lst (outV S))=H6 at s6 q6;have s36:=s4.trans s6;have s06:=s3.trans s36;have hl6:=s06 _ _ hl;have hts:ts.length=ms.length:=by rw[tl.length,zs3]
 refine⟨_,rfl,l,rfl,⟨_,SqL.of hl6⟩,Um (K:=K) (xs:=ts) (fun i ys H'=>Same H6 H'/\∃ ls,ys=ls.map V.ref/\ILs H' ls ((mayS S ms).take i)/\ls.length=i/\∀ x∈ls,H x=none) ⟨Same.refl _,[],rfl,.nil,rfl,by simp⟩ (fun i ys H' _ ⟨z,_⟩=>SqL.of (z _ _ hl6)) (szN ⋯) (fun i ys H' ⟨_,ls,e1,_,e2,_⟩=>by rw[e1,zs3];omega) ?_ ?_⟩
 ·rintro i x ys' H' hx ⟨s6',ls,rfl,il,hll,hfr⟩;obtain⟨tm,m,rfl,hm,htm⟩:=Fi tl hx;have s0:=s06.trans s6';unfold tYes;dsimp only;rw[if_pos rfl];refine⟨_,rfl,_,rfl,_,rfl,_,rfl,A'.p,a.zkd,dx,_,_,rfl,s0 _ _ a1,T.zke,T.zlt,Vu,_,rfl,A'.p,a.zkd,dx,_,_,rfl,s0 _ _ a1,T.zke,T.zo6,ze9,lp,lo,tm,A'.pl,A'.lr,A'.ld,S.led,ys,S.ppl,outV S,m.1,m.2.1,m.2.2,S.rest,rfl,(s36.trans s6') _ _ q3,tl3.same (s36.trans s6'),s6' _ _ q6,zdl S,s0 _ _ htm,c.same s0,by omega,fun l2 H2 hl2 s2 f2=>?_⟩;rw[zhe] at hl2;refine⟨s6'.trans s2,ls++[l2],by rw[ztl];rfl,?_,by rw[zs8,hll];rfl,fun y hy=>?_⟩
  ·have e:(mayS S ms).take (i+1)=(mayS S ms).take i++[Jx S m]:=by
    unfold mayS;rw[zue,zta,hm];rfl
   rw[e];exact(il.same s2).snoc hl2
  ·rcases zth.mp hy with z|z
   ·exact hfr y z
   ·rw[zs9.mp z];exact s0.free f2
 ·rintro ys' H' ⟨s6',ls,rfl,il,hll,hfr⟩ l' hl';have hmy:(mayS S ms).length=ms.length:=by unfold mayS;rw[zs3]
  rw[hts,<- hmy,ztp] at il;have s0:=s06.trans s6';exact h l' ls _ Zd (il.same (Zf hl')) (s0.trans (Zf hl')) (s0.free hl') hfr
abbrev U8:Stmt:=Zy (top 58) 9
theorem M3:Zl ["self","number","grade","club"] ["self","number","grade","club"] (Zj U8):=fnS
theorem M4(F:Fun K "enrol" "Season.enrol" U8 f fd)(T:Tx K mg a)(zk3:Zt P w K mg base a.zkd "check_undrawn" 4 ["self"] (Nl (ca a)))(zlc:Zt P w K mg base a.zkj "check_new" 2 ["self","number","grade","club"] (Pl (ca a)))(zkv:Zt P w K mg base a.zkd "check_room" 1 ["self"] (Fs (ca a)))(zle:Zt P w K mg base a.zkd "note" 1 ["self","word","number","at"] (Ft (ca a)))(zkg:Zt P w K mg base a.zkd "at_hand" 2 ["self"] (Vd (ca a)))(zn4:Zt P w K mg base a.zkj "add" 3 ["self","number","grade","club"] (zdj (ca a))):FnOk P w K mg base (CX1 P w) 5 f fd ["self","number","grade","club"] (A4 (ca a)):=by
 refine F.okX M3 ⋯ fun _ _ _ _ H _ Q E hr h=>?_;obtain⟨A',S,n,g,c0,rfl,SA,sm,hz,hz2,h⟩:=h;refine⟨_,(Zc (Z6 (Yb (pv 0) T.zke zk3 (hr.mono ⋯) Zk))
 (Zc (Z6 (Yz (Zq (K:=K) rfl (pv 0) rfl) T.zla zlc (hr.mono ⋯) Zk (Za (pv 1) (Za (pv 2) (Za (pv 3) Zb)))))
 (Zc (Z6 (Yb (pv 0) T.zke zkv (hr.mono ⋯) Zk))
 (Zc (Z6 (Yz (pv 0) T.zke zle (hr.mono ⋯) Zk (Za Zs (Za (pv 1) (Za (Yb (pv 0) T.zke zkg (hr.mono ⋯) Zk) Zb)))))
 (Ze (Z6 (Yz (Zq (K:=K) rfl (pv 0) rfl) T.zla zn4 (hr.mono ⋯) Zk (Za (pv 1) (Za (pv 2) (Za (pv 3) Zb)))))))))),?_⟩
 obtain⟨⟨dx,v,a1,a2⟩,b,c,_⟩:=id SA;obtain⟨⟨dxr,kvr,hpr,hdr,en⟩,ndr⟩:=id b;refine⟨_,rfl,A'.p,dx,_,rfl,a1,Z8 ⋯,A',S,rfl,SA,?_⟩;refine it2 h (fun _ z=>z) fun h1 h=>it2 h (fun _ z=>z) fun h2 h=>?_;refine⟨_,rfl,A'.p,a.zkd,dx,_,_,rfl,a1,T.zke,T.zls,Vt,A'.pr,dxr,_,rfl,hpr,Y7.no ⋯,_,rfl,_,rfl,_,rfl,A'.pr,A'.dr,S.ppl,n,g,c0,rfl,b,sm,?_⟩;refine it2 h (fun _ z=>z) fun h3 h=>it2 h (fun _ z=>z) fun h4 h=>it2 h (fun _ z=>z) fun h5 h=>?_;refine⟨_,rfl,A'.p,dx,_,rfl,a1,Z8 ⋯,A',S,rfl,SA,?_⟩;refine it2 h (fun _ z=>z) fun h6 h=>?_;refine⟨_,rfl,A'.p,dx,_,rfl,a1,Z8 ⋯,_,rfl,_,rfl,A'.p,dx,_,rfl,a1,Z8 ⋯,A',S,rfl,SA,A',S,"enrol",n,atV S,rfl,SA,hz,fun H1 SA1 f1=>?_⟩;obtain⟨⟨dx1,v1,a11,a12⟩,b1,c1,_⟩:=id SA1;obtain⟨⟨dxr1,kvr1,hpr1,hdr1,en1⟩,ndr1⟩:=id b1;refine⟨_,rfl,A'.p,a.zkd,dx1,_,_,rfl,a11,T.zke,T.zls,Vt,A'.pr,dxr1,_,rfl,hpr1,Y7.no ⋯,_,rfl,_,rfl,_,rfl,A'.pr,A'.dr,S.ppl,n,g,c0,rfl,b1,sm,hz2,?_⟩;rw[if_neg h3,if_neg h4,if_neg h5];intro H2 R2 k2;obtain⟨SA2,f2⟩:=SA1.setRos R2 k2;exact h H2 SA2 (f1.trans f2)
abbrev Vy:Stmt:=Zy (top 58) 10
theorem Tn:Zl ["self","matches","listed"] ["self","matches"] (Zj Vy):=fnS
theorem Ox(F:Fun K "draw_up" "Season.draw_up" Vy f fd)(T:Tx K mg a)(zk3:Zt P w K mg base a.zkd "check_undrawn" 4 ["self"] (Nl (ca a)))(zo7:Z4 P w K mg base "checked" 3 ["matches"] (Kl K (ca a)))(zkv:Zt P w K mg base a.zkd "check_room" 1 ["self"] (Fs (ca a)))(zle:Zt P w K mg base a.zkd "note" 1 ["self","word","number","at"] (Ft (ca a)))(zkg:Zt P w K mg base a.zkd "at_hand" 2 ["self"] (Vd (ca a)))(znx:Z4 P w K mg base "drawn_sheet" 4 ["listed","lists"] (Ay (ca a)))(zld:Zt P w K mg base a.zkd "takers_of" 5 ["self","listed"] (Pp (ca a)))(zl5:Zt P w K mg base a.zkh "goes" 1 ["self"] (Kj (ca a))):FnOk P w K mg base (CX1 P w) 6 f fd ["self","matches"] (Dy K (ca a)):=by
 refine F.okX Tn ⋯ fun _ _ _ _ H _ Q E hr h=>?_;obtain⟨A',S,b,ts,ms,rfl,SA,hs,tl,sm,hml,hz,po,h⟩:=h;refine⟨_,(Zc (Z6 (Yb (pv 0) T.zke zk3 (hr.mono ⋯) Zk))
 (Zc (pS 2 Tn.nd (pF zo7 hr (Za (pv 1) Zb)))
 (Zc (Z6 (Yb (pv 0) T.zke zkv (hr.mono ⋯) Zk))
 (Zc (Z6 (Yz (pv 0) T.zke zle (hr.mono ⋯) Zk (Za Zs (Za (Zm (cL K) (by rfl) T.zk5 PySem.boot_len (Za (pv 2) Zb)) (Za (Yb (pv 0) T.zke zkg (hr.mono ⋯) Zk) Zb)))))
 (Zc (Yw (K:=K) rfl (pv 0) (pF znx hr (Za (pv 2) (Za (Yz (pv 0) T.zke zld (hr.mono ⋯) Zk (Za (pv 2) Zb)) Zb))) rfl)
 (Ze (Zn (Yb (Zq (K:=K) rfl (pv 0) rfl) T.zky zl5 (hr.mono ⋯) Zk)))))))),?_⟩
 obtain⟨⟨dx,v,a1,a2⟩,br,cl,_⟩:=id SA;have hts:ts.length=ms.length:=by rw[tl.length,zs3]
 refine⟨_,rfl,A'.p,dx,_,rfl,a1,Z8 ⋯,A',S,rfl,SA,?_⟩;refine it2 h (fun _ z=>z) fun h1 h=>it2 h (fun _ z=>z) fun h2 h=>?_;refine⟨_,rfl,b,ts,ms,rfl,hs,tl,sm,hml,h.1,h.2.1,h.2.2.1,fun g1 g2 g3 l1 hl1=>?_⟩;have h4:=h.2.2.2 g1 g2 g3;have s1:=Zf (o:=.lst ts) hl1;have q1:upd H l1 (.lst ts) l1=some (.lst ts):=Zd;generalize upd H l1 (.lst ts)=H1 at s1 q1;have SA1:=SA.same s1;have a11:=s1 _ _ a1;refine⟨_,rfl,A'.p,dx,_,rfl,a11,Z8 ⋯,A',S,rfl,SA1,?_⟩;refine Eo (fun z=>h4.1 z H1 s1) (fun hroom=>?_);refine⟨_,rfl,A'.p,dx,_,rfl,a11,Z8 ⋯,_,rfl,l1,_,rfl,.inl (SqL.of q1),_,rfl,A'.p,dx,_,rfl,a11,Z8 ⋯,A',S,rfl,SA1,A',S,"draw up",(ts.length:Nat),atV S,rfl,SA1,hz,fun H2 SA2 f2=>?_⟩;rw[hts] at SA2;have ok1:l1∉A'.fp:=SA.newOk l1 hl1;have q12:=f2 _ _ q1 ok1;have tl2:=(tl.same s1).mono (SA1.tups f2);obtain⟨⟨dx2,v2,a21,a22⟩,br2,_⟩:=id SA2;refine⟨_,rfl,_,rfl,A'.p,dx2,_,rfl,a21,Z8 ⋯,_,rfl,A',_,l1,ts,ms,rfl,SA2,q12,tl2,by omega,zto po.2 ⋯,po.small,fun l2 ls H3 h3 il3 s3 f3 fl3=>?_⟩;have SA3:=SA2.same s3;have mo:R0 (mayS S ms) (S.ppl.map (·.1)):=po.may br2.nd g1;refine⟨(·∉A'.fp),l1,l2,ts,ls,ms,mayS S ms,_,rfl,s3 _ _ q12,tl2.same s3,h3,il3,ok1,SA2.newOk l2 f3,fun x hx=>SA2.newOk x (fl3 x hx),SA3.newOk,mo,fun q gv H4 ShA FP SP s4 fq=>?_⟩;have SA4:=SA3.same s4;obtain⟨⟨dx4,v4,a41,a42⟩,_⟩:=id SA4;refine⟨_,rfl,A'.p,a.zkd,dx4,_,rfl,a41,T.zke,T.zlf,(by show 8<1000;decide),?_⟩;obtain⟨SA5,f5,Sh5⟩:=SA4.newSheet a41 ShA;generalize upd H4 A'.p (.ins a.zkd dx4 (putF "sheet" (.ref q) (seaF A' S.len S.rest v4)))=H5 at SA5 f5 Sh5;obtain⟨⟨dx5,v5,a51,a52⟩,_⟩:=id SA5;obtain⟨q',rfl,Sq⟩:=a52;obtain⟨dxq,m1,m2,m3,m4,hq'⟩:=ShAt.ins Sq;refine⟨_,rfl,A'.p,a.zkd,dx5,_,_,rfl,a51,T.zke,T.zlf,X7,q',dxq,_,rfl,hq',V9 ⋯ ⋯ ⋯ ⋯,(·∉A'.fp),q',_,rfl,Sq,fun l H6 hl s6 fl=>?_⟩;have fr5:FrS A' H H5:=(FrS.of A' s1).trans (f2.trans ((FrS.of A' (s3.trans s4)).trans f5));exact h4.2 ⋯ l gv H6 hl (SA5.same s6) FP SP (fr5.trans (FrS.of A' s6)) (fr5.free SA5 fl)
abbrev T3:Stmt:=Zy (top 58) 11
theorem K9:Zl ["self","at","number"] ["self","at","number"] (Zj T3):=fnS
theorem Ja(F:Fun K "away" "Season.away" T3 f fd)(T:Tx K mg a)(zk6:Zt P w K mg base a.zkd "check_round" 1 ["self","at"] (Fq (ca a)))(zkt:Zt P w K mg base a.zkf "over" 1 ["self"] (Ng a.zkf))(zk7:Zt P w K mg base a.zkj "check_known" 1 ["self","number"] (Sx (ca a)))(zkv:Zt P w K mg base a.zkd "check_room" 1 ["self"] (Fs (ca a)))(zle:Zt P w K mg base a.zkd "note" 1 ["self","word","number","at"] (Ft (ca a)))(zkg:Zt P w K mg base a.zkd "at_hand" 2 ["self"] (Vd (ca a)))(zmt:Zt P w K mg base a.zkd "step_in" 6 ["self","number"] (Dz (ca a))):FnOk P w K mg base (CX1 P w) 7 f fd ["self","at","number"] (zdo (ca a)):=by
 refine F.okX K9 ⋯ fun _ _ _ _ H _ Q E hr h=>?_;obtain⟨A',S,i,n,rfl,SA,si,sn,hz,hoz,po,hcur,h⟩:=h;have hu:=W8 hr;refine⟨_,(Zc (Z6 (Yz (pv 0) T.zke zk6 (hr.mono ⋯) Zk (Za (pv 1) Zb)))
 (Zc (Zz (Zo zfi (pv 1) (Yb (Zq (K:=K) rfl (pv 0) rfl) T.zlb zkt (hr.mono ⋯) Zk) (Zr _))
  (Ze (Y3 Y2 rfl T.zqr rfl (Za (Ws (Zx (Xb ⋯) (Zx (Wi (pv 1)) (Zx (Xb ⋯) Wr))) ⋯) Zb)))
  Zp)
 (Zc (Z6 (Yz (Zq (K:=K) rfl (pv 0) rfl) T.zla zk7 (hr.mono ⋯) Zk (Za (pv 2) Zb)))
 (Zc (Zz (Q9 (G4 hu (Yk (Za (pv 1) (Za (pv 2) Zb))) (Zq (K:=K) rfl (pv 0) rfl)))
  (Ze (Y3 Y2 rfl T.zqh rfl (Za (Ws (Zx (Xb ⋯) (Zx (Wi (pv 2)) (Zx (Xb ⋯) (Zx (Wi (pv 1)) (Zx (Xb ⋯) Wr))))) ⋯) Zb)))
  Zp)
 (Zc (Z6 (Yb (pv 0) T.zke zkv (hr.mono ⋯) Zk))
 (Zc (Z6 (Yz (pv 0) T.zke zle (hr.mono ⋯) Zk (Za Zs (Za (pv 2) (Za (pv 1) Zb)))))
 (Zc (Uh hu (Zq (K:=K) rfl (pv 0) rfl) (Yk (Za (pv 1) (Za (pv 2) Zb))) X1 rfl)
 (Zc (Zz (PW.pt (Wl (Zo Ri (pv 1) (Yb (pv 0) T.zke zkg (hr.mono ⋯) Zk) (Zr _)) (X2 (Zo To (Zq (K:=K) rfl (pv 0) rfl) Yu (Zr _)))))
  (Ze (Zn (Z7 Zb)))
  Zp)
 (Ze (Zn (Yz (pv 0) T.zke zmt (hr.mono ⋯) Zk (Za (pv 2) Zb)))))))))))),?_⟩
 show let y1:TS:=_;let y2:TS:=Z5 _ y1;let y3:TS:=Z5 _ y2;let y4:TS:=Z5 _ y3;let y5:TS:=Z5 _ y4;let y6:TS:=Z5 _ y5;let y7:TS:=Z5 _ y6;let y8:TS:=Z5 _ y7;Z5 _ y8 _ _ _;intro y1 y2 y3 y4 y5 y6 y7 y8;obtain⟨⟨dx,v,a1,a2⟩,br,cl,⟨kvs,d1,d2⟩,_⟩:=id SA;obtain⟨⟨dxl,hpl⟩,_⟩:=id cl;obtain⟨⟨dxr,kvr,hpr,hdr,en⟩,ndr⟩:=id br;refine⟨_,rfl,A'.p,dx,_,rfl,a1,Z8 ⋯,_,rfl,A',S,i,rfl,SA,si,?_⟩;refine it2 h (fun _ z=>z) fun h1 h=>?_;refine⟨_,rfl,_,rfl,A'.p,a.zkd,dx,_,_,rfl,a1,T.zke,T.zlt,Vu,A'.pl,dxl,_,rfl,hpl,Mb ⋯ ⋯,A'.pl,A'.lr,A'.ld,S.led,rfl,cl,_,_,rfl,rfl,_,rfl,?_⟩;refine itD (fun hc=>?_) (fun hc=>?_)
 ·rw[if_pos hc] at h;exact⟨_,rfl,.inl ⟨_,rfl,si⟩,fun z=>⟨sz1,h⟩⟩
 rw[if_neg hc] at h;refine Zu ?_;refine⟨_,rfl,A'.p,a.zkd,dx,_,_,rfl,a1,T.zke,T.zls,Vt,A'.pr,dxr,_,rfl,hpr,Y7.no ⋯,_,rfl,A'.pr,A'.dr,S.ppl,n,rfl,br,sn,?_⟩;refine it2 h (fun hk h=>?_) (fun _ z=>z);refine⟨_,rfl,_,rfl,sz2,fun t ht=>?_⟩;have s1:=Zf (o:=.tup [.int i,.int n]) ht;have q1:upd H t (.tup [.int i,.int n]) t=some (.tup (([inl i,inl n]:List Key).map kV)):=Zd;generalize upd H t (.tup [.int i,.int n])=H1 at s1 q1;have SA1:=SA.same s1;have a11:=s1 _ _ a1;refine⟨_,rfl,A'.p,a.zkd,dx,_,_,rfl,a11,T.zke,T.zmk,Qs,A'.da,_,rfl,DGet.t (k:=[inl i,inl n]) (s1 _ _ d1) q1,_,rfl,?_⟩;rw[d2.isSome];refine itD (fun hm=>?_) (fun hm=>?_)
 ·rw[if_pos hm] at h;exact⟨_,rfl,.inl ⟨_,rfl,sn⟩,_,rfl,.inl ⟨_,rfl,si⟩,fun z=>⟨sz1,h H1 s1⟩⟩
 rw[if_neg hm] at h;refine Zu ?_;refine⟨_,rfl,A'.p,dx,_,rfl,a11,Z8 ⋯,A',S,rfl,SA1,?_⟩;refine it2 h (fun _ z=>z H1 s1) fun h6 h=>?_;refine⟨_,rfl,A'.p,dx,_,rfl,a11,Z8 ⋯,_,rfl,_,rfl,A',S,"away",n,i,rfl,SA1,hz,fun H2 SA2 f2=>?_⟩;obtain⟨⟨dx2,v2,a21,a22⟩,br2,cl2,⟨kvs2,d21,d22⟩,_⟩:=id SA2;refine⟨_,rfl,A'.p,a.zkd,dx2,_,_,rfl,a21,T.zke,T.zmk,Qs,_,rfl,_,rfl,sz2,fun t2 ht2=>?_⟩;have s3:=Zf (o:=.tup [.int i,.int n]) ht2;have q3:upd H2 t2 (.tup [.int i,.int n]) t2=some (.tup (([inl i,inl n]:List Key).map kV)):=Zd;generalize upd H2 t2 (.tup [.int i,.int n])=H3 at s3 q3;have SA3:=SA2.same s3;refine⟨A'.da,_,rfl,DPut.t (k:=[inl i,inl n]) (s3 _ _ d21) q3 (by have:=d22.2;have h9:kvs2.length<=S.out.length:=this;have:=Se;omega),?_⟩;obtain⟨SA4,f4⟩:=SA3.setOut (out:=S.out++[(i,n)]) Zd (d22.put i n) (fun b o e hb=>by rw[Zi hb];exact e);generalize upd H3 A'.da (.dT (putK kvs2 [inl i,inl n] (.bl true)))=H4 at SA4 f4;have SA4:Zw (ca a) H4 A' (Xe S i n):=SA4;have fr4:FrS A' H H4:=(FrS.of A' s1).trans (f2.trans ((FrS.of A' s3).trans f4));obtain⟨⟨dx4,v4,a41,a42⟩,br4,_⟩:=id SA4;have empty:(S.cur=none\/atV S<i)->∀ l,H4 l=none->Q (.ref l) (upd H4 l (.lst [])):=fun hz l hl=>h.1 hz l _ Zd (SA4.same (Zf hl)) (fr4.trans (FrS.of A' (Zf hl))) (fr4.free SA4 hl);refine⟨_,rfl,_,rfl,A'.p,dx4,_,rfl,a41,Z8 ⋯,A',_,rfl,SA4,_,_,rfl,rfl,_,rfl,?_⟩;refine itD (fun hgt=>?_) (fun hle=>?_)
 ·refine iteT ?_;exact⟨by show 0<=sizeLine;decide,fun l hl=>empty (.inr hgt) l hl⟩
 have hat:i=atV S:=by
  have hle:¬ (atV S<i):=hle;unfold atV at hle ⊢;omega
 refine⟨_,rfl,A'.p,a.zkd,dx4,_,_,rfl,a41,T.zke,T.zlf,X7,rfl,_,rfl,?_⟩;cases hc4:S.cur with
 | none =>
   have e4:v4=.non:=by
    have:ShO a.zkh (·∉A'.fp) H4 v4 S.cur:=a42;rw[hc4] at this;exact this
   rw[e4];refine iteT ?_;exact⟨by show 0<=sizeLine;decide,fun l hl=>empty (.inl hc4) l hl⟩
 | some s =>
   have e4:∃ q,v4=.ref q:=by
    have:ShO a.zkh (·∉A'.fp) H4 v4 S.cur:=a42;rw[hc4] at this;obtain⟨q,e,_⟩:=this;exact⟨q,e⟩
   obtain⟨q4,rfl⟩:=e4;refine iteF (Zu ?_);obtain⟨hm20,FP,emay,hgz⟩:=hcur s hc4;have po4:R8 (Xe S i n):=po;have hgl:s.gv.length<=100:=by rw[FP.len,emay];unfold mayS;rw[zs3];omega
   refine⟨_,rfl,A'.p,dx4,_,rfl,a41,Z8 ⋯,_,rfl,A',Xe S i n,n,s,(Xe S i n).ppl.map (·.1),rfl,SA4,hc4,po4,hm20,FP.one,hgl,hgz,po4.may br4.nd hm20,fun hp l H5 hl SA5 f5 fl=>?_,fun p hp=>?_⟩
   ·exact h.2.1 s hat hc4 hp l H5 hl SA5 (fr4.trans f5) (fr4.free SA4 fl)
   ·have hgp:=Pr hp;refine⟨hgp,fun j hj=>FP.inj j p n hj hgp,?_,fun l us st e w' H5 hl tl CR SA5 f5 fl=>?_⟩
    ·rw[hat,Uv,<- emay];exact Uj FP hgp
    ·exact h.2.2 s p hat hc4 hp l us st e w' H5 hl tl CR SA5 (fr4.trans f5) (fr4.free SA4 fl)
abbrev Vz:Stmt:=Zy (top 58) 12
theorem Vl:Zl ["self","number","lists","fallen"] ["self","number"] (Zj Vz):=fnS
theorem Oy(F:Fun K "step_in" "Season.step_in" Vz f fd)(T:Tx K mg a)(zld:Zt P w K mg base a.zkd "takers_of" 5 ["self","listed"] (Pp (ca a)))(zlj:Zt P w K mg base a.zkh "matches" 1 ["self"] (R7 (ca a)))(zlv:Zt P w K mg base a.zkh "where" 2 ["self","number"] (Nj (ca a)))(zm7:Zt P w K mg base a.zkh "barred" 3 ["self","lists"] (Dl (ca a)))(zme:Zt P w K mg base a.zkh "fallen_out" 3 ["self","number","lists"] (Dm (ca a)))(zm9:Zt P w K mg base a.zkh "chains" 1 ["self"] (Kk (ca a))):FnOk P w K mg base (CX1 P w) 6 f fd ["self","number"] (Dz (ca a)):=by
 refine F.okX Vl ⋯ fun _ _ _ _ H _ Q E hr h=>?_;obtain⟨A',S,n,s,nu,rfl,SA,hc,po,hml,ho,hgl,hgz,mo,h1,h2⟩:=h;refine⟨_,(Zc (pS 2 Vl.nd (Yz (pv 0) T.zke zld (hr.mono ⋯) Zk (Za (Yb (Zq (K:=K) rfl (pv 0) rfl) T.zky zlj (hr.mono ⋯) Zk) Zb)))
 (Zc (Zz (Zo To (Yz (Zq (K:=K) rfl (pv 0) rfl) T.zky zlv (hr.mono ⋯) Zk (Za (pv 1) Zb)) Yu (Zr _))
  (Zc (Yw (K:=K) rfl (pv 0) (Yz (Zq (K:=K) rfl (pv 0) rfl) T.zky zm7 (hr.mono ⋯) Zk (Za (pv 2) Zb)) rfl)
  (Ze (Zn (Z7 Zb))))
  Zp)
 (Zc (Yw (K:=K) rfl (pv 0) (Yz (Zq (K:=K) rfl (pv 0) rfl) T.zky zme (hr.mono ⋯) Zk (Za (pv 1) (Za (pv 2) Zb))) rfl)
 (Zc (pS 3 Vl.nd (Yb (Zq (K:=K) rfl (pv 0) rfl) T.zky zm9 (hr.mono ⋯) Zk))
 (Ze (Zn (pI (iU K) (pI (iL K) (pv 3) (B3 G2 Zh)) Zh))))))),?_⟩
 obtain⟨⟨dx,v,a1,a2⟩,br,cl,_⟩:=id SA;rw[hc] at a2;obtain⟨q,rfl,Sq⟩:=a2;obtain⟨dxq,m1,m2,m3,m4,hq⟩:=ShAt.ins Sq;refine⟨_,rfl,A'.p,dx,_,rfl,a1,Z8 ⋯,_,rfl,A'.p,a.zkd,dx,_,_,rfl,a1,T.zke,T.zlf,X7,q,dxq,_,rfl,hq,V9 ⋯ ⋯ ⋯ ⋯,(·∉A'.fp),q,s,rfl,Sq,fun l1 ts H1 hl1 tl s1 f1=>?_⟩;have SA1:=SA.same s1;refine⟨A',S,l1,ts,s.ms,rfl,SA1,hl1,tl,by omega,zto po.2 ⋯,po.small,fun l2 ls H2 h3 il3 s2 f3 fl3=>?_⟩;have s12:=s1.trans s2;have SA2:=SA1.same s2;have Sq2:=Sq.same s12;refine⟨_,rfl,A'.p,a.zkd,dx,_,_,rfl,s12 _ _ a1,T.zke,T.zlf,X7,q,dxq,_,rfl,s12 _ _ hq,V9 ⋯ ⋯ ⋯ ⋯,_,rfl,(·∉A'.fp),q,s,n,rfl,Sq2,ho,hgl,fun H3 s3=>?_⟩;have s13:=s12.trans s3;have SA3:=SA2.same s3;have Sq3:=Sq2.same s3;have il4:=il3.same s3;refine⟨rfl,_,rfl,?_⟩;cases hp:X5 s.gv n with
 | none =>
   refine iteT ?_;refine⟨_,rfl,A'.p,a.zkd,dx,_,_,rfl,s13 _ _ a1,T.zke,T.zlf,X7,q,dxq,_,rfl,s13 _ _ hq,V9 ⋯ ⋯ ⋯ ⋯,_,rfl,(·∉A'.fp),q,l2,ls,mayS S s.ms,s,rfl,Sq3,s3 _ _ h3,il4,SA1.newOk l2 f3,fun x hx=>SA1.newOk x (fl3 x hx),SA3.newOk,fun q' H4 ShA s4 fq=>?_⟩;have SA4:=SA3.same s4;obtain⟨⟨dx4,v4,a41,a42⟩,_⟩:=id SA4;refine⟨_,rfl,A'.p,a.zkd,dx4,_,rfl,a41,T.zke,T.zlf,(by show 8<1000;decide),?_⟩;obtain⟨SA5,f5,Sh5⟩:=SA4.newSheet a41 ShA;generalize upd H4 A'.p (.ins a.zkd dx4 (putF "sheet" (.ref q') (seaF A' S.len S.rest v4)))=H5 at SA5 f5 Sh5;have fr5:FrS A' H H5:=(FrS.of A' (s13.trans s4)).trans f5;refine⟨by show 0<=sizeLine;decide,fun l hl=>?_⟩;exact h1 hp l _ Zd (SA5.same (Zf hl)) (fr5.trans (FrS.of A' (Zf hl))) (fr5.free SA5 hl)
 | some p =>
   refine iteF (Zu ?_);obtain⟨hgp,hun,FP,h3'⟩:=h2 p hp;refine⟨_,rfl,A'.p,a.zkd,dx,_,_,rfl,s13 _ _ a1,T.zke,T.zlf,X7,q,dxq,_,rfl,s13 _ _ hq,V9 ⋯ ⋯ ⋯ ⋯,_,rfl,_,rfl,(·∉A'.fp),q,l2,ls,mayS S s.ms,nu,s,n,p,rfl,Sq3,s3 _ _ h3,il4,SA1.newOk l2 f3,fun x hx=>SA1.newOk x (fl3 x hx),SA3.newOk,mo,ho,hgp,hun,FP,by omega,fun q' st e w' H4 ShA CR s4 fq=>?_⟩;have SA4:=SA3.same s4;obtain⟨⟨dx4,v4,a41,a42⟩,_⟩:=id SA4;refine⟨_,rfl,A'.p,a.zkd,dx4,_,rfl,a41,T.zke,T.zlf,(by show 8<1000;decide),?_⟩;obtain⟨SA5,f5,Sh5⟩:=SA4.newSheet a41 ShA;generalize upd H4 A'.p (.ins a.zkd dx4 (putF "sheet" (.ref q') (seaF A' S.len S.rest v4)))=H5 at SA5 f5 Sh5;have fr5:FrS A' H H5:=(FrS.of A' (s13.trans s4)).trans f5;obtain⟨⟨dx5,v5,a51,a52⟩,_⟩:=id SA5;obtain⟨q5,rfl,Sq5⟩:=a52;obtain⟨dxq5,m51,m52,m53,m54,hq5⟩:=ShAt.ins Sq5;refine⟨_,rfl,A'.p,a.zkd,dx5,_,_,rfl,a51,T.zke,T.zlf,X7,q5,dxq5,_,rfl,hq5,V9 ⋯ ⋯ ⋯ ⋯,(·∉A'.fp),q5,_,rfl,Sq5,by show (s.gaps++[(n,st)]).length<=1000;rw[zs8];show s.gaps.length+1<=1000;omega,fun l us H6 hl gl s6 fl=>?_⟩;obtain⟨vs',t,l',us',rfl,ht,hl',tl',ok',_⟩:=W0.unsnoc gl;refine⟨_,rfl,_,rfl,l,_,_,_,rfl,rfl,SqL.of hl,zdm,t,_,_,_,rfl,rfl,SqT.of ht,rfl,?_⟩;exact h3' l' us' st e w' H6 hl' tl' CR (SA5.same s6) (fr5.trans (FrS.of A' s6)) (fr5.free SA5 ok')
abbrev U9:Stmt:=Zy (top 58) 13
theorem Rm:Zl ["self","sheet"] ["self"] (Zj U9):=fnS
theorem M5(F:Fun K "close" "Season.close" U9 f fd)(T:Tx K mg a)(zk1:Zt P w K mg base a.zkd "check_not_over" 3 ["self"] (Nk (ca a)))(zk2:Zt P w K mg base a.zkd "sheet_at_hand" 1 ["self"] (Po (ca a)))(znj:Zt P w K mg base a.zkf "write" 1 ["self","rows"] (Dk a.zkf))(zn7:Zt P w K mg base a.zkh "rows" 1 ["self"] (Dr (ca a)))(zkt:Zt P w K mg base a.zkf "over" 1 ["self"] (Ng a.zkf)):FnOk P w K mg base (CX1 P w) 4 f fd ["self"] (A5 (ca a)):=by
 refine F.okX Rm ⋯ fun _ _ _ _ H _ Q E hr h=>?_;obtain⟨A',S,rfl,SA,ht,hl,hol,hcur,h⟩:=h;refine⟨_,(Zc (Z6 (Yb (pv 0) T.zke zk1 (hr.mono ⋯) Zk))
 (Zc (pS 1 Rm.nd (Yb (pv 0) T.zke zk2 (hr.mono ⋯) Zk))
 (Zc (Z6 (Yz (Zq (K:=K) rfl (pv 0) rfl) T.zlb znj (hr.mono ⋯) Zk (Za (Yb (pv 1) T.zky zn7 (hr.mono ⋯) Zk) Zb)))
 (Zc (Xo (Zq (K:=K) rfl (pv 0) rfl) (pv 1))
 (Zc (Yw (K:=K) rfl (pv 0) Yu rfl)
 (Zc (Yw (K:=K) rfl (pv 0) (Z7 Zb) rfl)
 (Ze (Zn (Yb (Zq (K:=K) rfl (pv 0) rfl) T.zlb zkt (hr.mono ⋯) Zk))))))))),?_⟩
 obtain⟨⟨dx,v,a1,a2⟩,br,cl,_⟩:=id SA;obtain⟨⟨dxl,hpl⟩,_⟩:=id cl;refine⟨_,rfl,A'.p,dx,_,rfl,a1,Z8 ⋯,A',S,rfl,SA,?_⟩;refine it2 h (fun _ z=>z) fun h1 h=>?_;refine⟨_,rfl,A'.p,dx,_,rfl,a1,Z8 ⋯,A',S,rfl,SA,h.1,fun s q hc Sq=>?_⟩;obtain⟨ho,hgl,hml⟩:=hcur s hc;obtain⟨dxq,m1,m2,m3,m4,hq⟩:=ShAt.ins Sq;refine⟨_,rfl,A'.p,a.zkd,dx,_,_,rfl,a1,T.zke,T.zlt,Vu,A'.pl,dxl,_,rfl,hpl,Mb ⋯ ⋯,_,rfl,q,dxq,_,rfl,hq,V9 ⋯ ⋯ ⋯ ⋯,(·∉A'.fp),q,s,rfl,Sq,ho,hgl,hml,fun l1 ts H1 hl1 tl s1 f1=>?_⟩;have SA1:=SA.same s1;have ok1:l1∉A'.fp:=SA.newOk l1 f1;refine⟨A'.pl,A'.lr,A'.ld,S.led,l1,ts,Xt s,rfl,SA1.led,hl1,fun z=>ok1 (by rw[z];simp[SAd.fp]),tl,by rw[Du hgl];omega,hl,fun H2 L2' k2=>?_⟩;obtain⟨SA2,f2⟩:=SA1.setLed L2' k2;obtain⟨⟨dx2,v2,a21,a22⟩,br2,cl2,d2,⟨vs,f21,f22⟩,_⟩:=id SA2;have Sq2:=(Sq.same s1).keep (fun x o hx e=>f2 x o e hx) (SA1.tups f2);refine⟨_,rfl,A'.p,a.zkd,dx2,_,_,rfl,a21,T.zke,T.znh,Gf,A'.ls,vs,rfl,f21,_,rfl,vs,f21,by have:=f22.length;have h9:vs.length=S.old.length:=this;have:=Se;omega,?_⟩;have k3:∀ b o,H2 b=some o->b≠A'.ls->upd H2 A'.ls (.lst (vs++[.ref q])) b=some o:=fun b o e hb=>by rw[Zi hb];exact e
 have kt3:∀ t xs,H2 t=some (.tup xs)->upd H2 A'.ls (.lst (vs++[.ref q])) t=some (.tup xs):=fun t xs e=>k3 t _ e (Yo e f21 (fun z=>nomatch z));have ko3:∀ x o,x∉A'.fp->H2 x=some o->upd H2 A'.ls (.lst (vs++[.ref q])) x=some o:=fun x o hx e=>k3 x o e fun z=>hx (by rw[z];simp[SAd.fp]);obtain⟨SA3,f3⟩:=SA2.setOld (old:=S.old++[s]) Zd ((f22.keep ko3 kt3).snoc (Sq2.keep ko3 kt3)) k3;generalize upd H2 A'.ls (.lst (vs++[.ref q]))=H3 at SA3 f3;obtain⟨⟨dx3,v3,a31,a32⟩,_⟩:=id SA3;refine⟨_,rfl,A'.p,a.zkd,dx3,_,rfl,a31,T.zke,T.zlf,(by show 8<1000;decide),?_⟩;obtain⟨SA4,f4⟩:=SA3.setCur (H':=upd H3 A'.p (.ins a.zkd dx3 (putF "sheet" .non (seaF A' S.len S.rest v3)))) (cur:=none) (v:=.non) ⟨dx3,by rw[Zd];exact congrArg (fun x=>some (HO.ins a.zkd dx3 x)) Pq⟩ rfl (fun b o e hb=>by rw[Zi hb];exact e);generalize upd H3 A'.p (.ins a.zkd dx3 (putF "sheet" .non (seaF A' S.len S.rest v3)))=H4 at SA4 f4;obtain⟨⟨dx4,v4,a41,a42⟩,_⟩:=id SA4;refine⟨by show 0<=sizeLine;decide,fun x hx=>?_⟩;have npx:A'.p≠x:=Zg a41 hx;refine⟨_,rfl,A'.p,a.zkd,dx4,_,rfl,(by rw[Zi npx];exact a41),T.zke,T.zli,(by show 8<1000;decide),?_⟩;obtain⟨SA5,f5⟩:=SA4.freshStd hx a41 a42 rfl;have fr4:FrS A' H H4:=(FrS.of A' s1).trans (f2.trans (f3.trans f4));have fx:H x=none:=fr4.free SA4 hx;generalize upd (upd H4 x (.lst [])) A'.p (.ins a.zkd dx4 (putF "standing" (.ref x) (seaF A' S.len S.rest v4)))=H5 at SA5 f5;have SA5:Zw (ca a) H5 { A' with lt:=x } (Ln S s):=SA5;obtain⟨⟨dx5,v5,a51,a52⟩,br5,cl5,_⟩:=id SA5;obtain⟨⟨dxl5,hpl5⟩,_⟩:=id cl5;refine⟨_,rfl,A'.p,a.zkd,dx5,_,_,rfl,a51,T.zke,T.zlt,Vu,A'.pl,dxl5,_,rfl,hpl5,Mb ⋯ ⋯,A'.pl,A'.lr,A'.ld,S.led++[Xt s],rfl,cl5,?_⟩;have hfin:=h.2 s x H5 hc SA5 (fr4.trans f5) fx;have e:(((S.led++[Xt s]).length:Nat):Int)=atV S:=by rw[zs8];rfl
 rw[e];exact hfin
abbrev W6:Stmt:=Zy (top 58) 14
theorem Wk:Zl ["self","last","deed"] ["self"] (Zj W6):=fnS
theorem Q3(F:Fun K "take_back" "Season.take_back" W6 f fd)(T:Tx K mg a)(zmy:Zt P w K mg base a.zkj "strike" 1 ["self","number"] (Df (ca a))):FnOk P w K mg base (CX1 P w) 2 f fd ["self"] (Kn (ca a)):=by
 refine F.okX Wk ⋯ fun _ _ _ _ H _ Q E hr h=>?_;obtain⟨A',S,rfl,SA,h1,h2⟩:=h;have hu:=W8 hr;refine⟨_,(Zc (Zz (Xa (Hl (K:=K) rfl (Zq (K:=K) rfl (pv 0) rfl) (fun _=>rfl)))
  (Ze (Y3 Y2 rfl T.zom rfl (Za Zs Zb)))
  Zp)
 (Zc (pS 1 Wk.nd (zcj PySem.F.plainAttrs_list PySem.F.slot_list_pop PySem.F.type_list_pop zgq (Zq (K:=K) rfl (pv 0) rfl)))
 (Zc (pS 2 Wk.nd (pI (iU K) (pv 1) Zh))
 (Zc (Yw (K:=K) rfl (pv 0) (pI (iU K) (pv 1) Zh) rfl)
 (Zc (Zz (Zo Y8 (pI (iU K) (pv 2) Zh) Zs (Zr _))
  (Ze (Z6 (Yz (Zq (K:=K) rfl (pv 0) rfl) T.zla zmy (hr.mono ⋯) Zk (Za (pI (iU K) (pv 2) Zh) Zb))))
  Zp)
 (Zc (Zz (Zo Y8 (pI (iU K) (pv 2) Zh) Zs (Zr _))
  (Ze (Z6 (zdi hu (Zq (K:=K) rfl (pv 0) rfl) (Yk (Za (pI (iU K) (pv 2) Zh) (Za (pI (iU K) (pv 2) Zh) Zb))) ⟨rfl,rfl,rfl,rfl⟩)))
  Zp)
 (Ze (Zn (pv 2))))))))),?_⟩
 show let y1:TS:=_;let y2:TS:=Z5 _ y1;let y3:TS:=Z5 _ y2;let y4:TS:=Z5 _ y3;let y5:TS:=Z5 _ y4;let y6:TS:=Z5 _ y5;Z5 _ y6 _ _ _;intro y1 y2 y3 y4 y5 y6;obtain⟨⟨dx,v,a1,a2⟩,br,cl,d0,f0,⟨us,g1,g2⟩,_⟩:=id SA;refine⟨_,rfl,A'.p,a.zkd,dx,_,_,rfl,a1,T.zke,T.zli,V5,_,.inl ⟨_,SqL.of g1,rfl⟩,?_⟩;have hul:=g2.length;rcases List.eq_nil_or_concat S.std with hn|⟨std',⟨d,s⟩,he⟩
 ·rw[hn] at hul;have hu0:us=[]:=List.length_eq_zero_iff.mp hul;rw[hu0];exact iteT ⟨sz1,h1 hn⟩
 have he:S.std=std'++[(d,s)]:=by rw[he,List.concat_eq_append]
 rw[he] at g2;obtain⟨vs',t,u,v',rfl,ht,hu',hs,g3⟩:=V4.unsnoc g2;have hne:(vs'++[V.ref t]).isEmpty=false:=by cases vs'<;>rfl
 rw[hne];refine iteF (Zu ?_);obtain⟨ppl,out,hbk,hfin⟩:=h2 std' d s he;refine⟨_,rfl,A'.p,a.zkd,dx,_,_,rfl,a1,T.zke,T.zli,V5,.inl ⟨rfl,_,SqL.of g1⟩,A'.lt,_,V.ref t,rfl,rfl,g1,by simp,?_⟩;rw[List.dropLast_concat];have k1:∀ b o,H b=some o->b≠A'.lt->upd H A'.lt (.lst vs') b=some o:=fun b o e hb=>by rw[Zi hb];exact e
 have kt1:∀ t xs,H t=some (.tup xs)->upd H A'.lt (.lst vs') t=some (.tup xs):=fun t xs e=>k1 t _ e (Yo e g1 (fun z=>nomatch z));have ko1:∀ x o,x∉A'.fp->H x=some o->upd H A'.lt (.lst vs') x=some o:=fun x o hx e=>k1 x o e fun z=>hx (by rw[z];simp[SAd.fp]);obtain⟨SA1,f1⟩:=SA.setStd (std:=std') Zd (g3.keep ko1 kt1) k1;have ht1:=kt1 _ _ ht;have hu1:=kt1 _ _ hu';have hs1:=hs.keep ko1 kt1;generalize upd H A'.lt (.lst vs')=H1 at SA1 f1 ht1 hu1 hs1;refine⟨_,rfl,t,_,_,_,rfl,rfl,SqT.of ht1,rfl,?_⟩;obtain⟨⟨dx1,v1,a11,a12⟩,_⟩:=id SA1;refine⟨_,rfl,t,_,_,_,rfl,rfl,SqT.of ht1,rfl,_,rfl,A'.p,a.zkd,dx1,_,rfl,a11,T.zke,T.zlf,(by show 8<1000;decide),?_⟩;have k2:∀ b o,H1 b=some o->b≠A'.p->upd H1 A'.p (.ins a.zkd dx1 (putF "sheet" v' (seaF A' S.len S.rest v1))) b=some o:=fun b o e hb=>by rw[Zi hb];exact e
 have kt2:∀ t xs,H1 t=some (.tup xs)->upd H1 A'.p (.ins a.zkd dx1 (putF "sheet" v' (seaF A' S.len S.rest v1))) t=some (.tup xs):=fun t xs e=>k2 t _ e (Yo e a11 (fun z=>nomatch z));obtain⟨SA2,f2⟩:=SA1.setCur (cur:=s) (v:=v') ⟨dx1,by rw[Zd];exact congrArg (fun x=>some (HO.ins a.zkd dx1 x)) Pq⟩ (hs1.keep (fun x o hx e=>k2 x o e fun z=>hx (by rw[z];simp[SAd.fp])) kt2) k2;have hu2:=kt2 _ _ hu1;generalize upd H1 A'.p (.ins a.zkd dx1 (putF "sheet" v' (seaF A' S.len S.rest v1)))=H2 at SA2 f2 hu2;have fr2:=f1.trans f2;have d0:atI (Wo d) 0=some (.str d.1):=rfl;have d1:atI (Wo d) 1=some (.int d.2.1):=rfl;have d2:atI (Wo d) 2=some (.int d.2.2):=rfl;have es:∀ w:Str,decide (V.str d.1=V.str w)=decide (d.1=w):=fun w=>by
  by_cases z:d.1=w
  ·rw[zs6 z,zs6 (congrArg V.str z)]
  ·rw[ztc z,ztc (fun q=>z (V.str.inj q))]
 walk_at "if";refine Ys ?_;refine⟨_,rfl,u,_,_,_,rfl,rfl,SqT.of hu2,d0,rfl,_,rfl,?_⟩;rw[es];obtain⟨⟨dx2,v2,a21,a22⟩,br2,cl2,⟨kvs2,e21,e22⟩,_⟩:=id SA2;have n1:¬ (("enrol":Str)="away"):=by decide +kernel
 have n2:¬ (("draw up":Str)="away"):=by decide +kernel
 have n3:¬ (("draw up":Str)="enrol"):=by decide +kernel
 have n4:¬ (("away":Str)="enrol"):=by decide +kernel
 rcases hbk with ⟨hd,⟨g,c0,hp⟩,ho⟩|⟨hd,hp,ho,hno⟩|⟨hd,hp,ho⟩
 ·rw[zs6 hd];refine iteT ?_;obtain⟨⟨dxr,kvr,hpr,hdr,en⟩,ndr⟩:=id br2;refine⟨_,rfl,A'.p,a.zkd,dx2,_,_,rfl,a21,T.zke,T.zls,Vt,A'.pr,dxr,_,rfl,hpr,Y7.no ⋯,_,rfl,u,_,_,_,rfl,rfl,SqT.of hu2,d1,A'.pr,A'.dr,ppl,d.2.1,g,c0,rfl,(show Y7 a.zkj H2 A'.pr A'.dr (ppl++[(d.2.1,g,c0)]) by have:Y7 a.zkj H2 A'.pr A'.dr S.ppl:=br2;rw[hp] at this;exact this),fun H3 R3 k3=>?_⟩;obtain⟨SA3,f3⟩:=SA2.setRos R3 k3;have hu3:=SA2.tups f3 _ _ hu2;refine⟨_,rfl,u,_,_,_,rfl,rfl,SqT.of hu3,d0,rfl,_,rfl,?_⟩;rw[es,ztc (by rw[hd];exact n1)];refine iteF (Zu ⟨_,rfl,?_⟩);refine hfin u H3 hu3 ?_ (fr2.trans f3);rw[ho];exact SA3
 ·rw[ztc (by rw[hd];exact n4)];refine iteF (Zu ?_);refine⟨_,rfl,u,_,_,_,rfl,rfl,SqT.of hu2,d0,rfl,_,rfl,?_⟩;rw[es,zs6 hd];refine iteT ?_;refine⟨_,rfl,A'.p,a.zkd,dx2,_,_,rfl,a21,T.zke,T.zmk,Qs,A'.da,rfl,.inr ⟨kvs2,.inl e21⟩,_,rfl,u,_,_,_,rfl,rfl,SqT.of hu2,d2,_,rfl,u,_,_,_,rfl,rfl,SqT.of hu2,d1,sz2,fun tk htk=>?_⟩;have s3:=Zf (o:=.tup [.int d.2.2,.int d.2.1]) htk;have q3:upd H2 tk (.tup [.int d.2.2,.int d.2.1]) tk=some (.tup (([inl d.2.2,inl d.2.1]:List Key).map kV)):=Zd;generalize upd H2 tk (.tup [.int d.2.2,.int d.2.1])=H3 at s3 q3;have SA3:=SA2.same s3;have e22:R6 kvs2 S.out:=e22;rw[ho] at e22;have hv:∃ vv,valV kvs2 [inl d.2.2,inl d.2.1]=some vv:=zui.mp (by rw[e22.1,zs6 (by simp)]);obtain⟨vv,hv⟩:=hv;refine⟨kvs2,[inl d.2.2,inl d.2.1],tk,vv,s3 _ _ e21,rfl,q3,hv,?_⟩;obtain⟨SA4,f4⟩:=SA3.setOut (out:=out) Zd (e22.drop hno) (fun b o e hb=>by rw[Zi hb];exact e);have hu4:=SA3.tups f4 _ _ (s3 _ _ hu2);refine⟨_,rfl,hfin u _ hu4 ?_ (fr2.trans ((FrS.of A' s3).trans f4))⟩;rw[hp];exact SA4
 ·rw[ztc (by rw[hd];exact n3)];refine iteF (Zu ?_);refine⟨_,rfl,u,_,_,_,rfl,rfl,SqT.of hu2,d0,rfl,_,rfl,?_⟩;rw[es,ztc (by rw[hd];exact n2)];refine iteF (Zu ⟨_,rfl,hfin u H2 hu2 ?_ fr2⟩);rw[hp,ho];exact SA2
abbrev V0:Stmt:=Zy (top 58) 15
theorem Oz:Zl ["self"] ["self"] (Zj V0):=fnS
theorem O0(F:Fun K "at_hand" "Season.at_hand" V0 f fd)(T:Tx K mg a)(zkt:Zt P w K mg base a.zkf "over" 1 ["self"] (Ng a.zkf)):FnOk P w K mg base (CX1 P w) 2 f fd ["self"] (Vd (ca a)):=by
 refine F.okX Oz ⋯ fun _ _ _ _ H _ Q E hr h=>?_;obtain⟨A',S,rfl,SA,h⟩:=h;refine⟨_,(Ze (Zn (Zv Wx (Yb (Zq (K:=K) rfl (pv 0) rfl) T.zlb zkt (hr.mono ⋯) Zk) Zh))),?_⟩;obtain⟨⟨dx,v,a1,a2⟩,b,c,_⟩:=id SA;obtain⟨⟨dxl,hpl⟩,_⟩:=id c;refine⟨_,rfl,A'.p,a.zkd,dx,_,_,rfl,a1,T.zke,T.zlt,Vu,A'.pl,dxl,_,rfl,hpl,Mb ⋯ ⋯,A'.pl,A'.lr,A'.ld,S.led,rfl,c,_,_,rfl,rfl,?_⟩;exact h
abbrev Ta:Stmt:=Zy (top 58) 16
theorem M6:Zl ["self"] ["self"] (Zj Ta):=fnS
theorem M7(F:Fun K "deeds" "Season.deeds" Ta f fd)(T:Tx K mg a):FnOk P w K mg base (CX1 P w) 1 f fd ["self"] (A6 (ca a)):=by
 refine F.okX M6 ⋯ fun _ _ _ _ H _ Q E hr h=>?_;obtain⟨A',S,rfl,SA,hz,h⟩:=h;have hu:=W8 hr;refine⟨_,(Ze (Zn (R4 rfl (R1.mk (xo:=["deed","sheet"]) (ys:=[]) (js:=[]) rfl rfl ⋯ ⋯ rfl (by repeat' (first|exact True.intro|apply And.intro|rfl)) (by repeat' (first|exact True.intro|apply And.intro|rfl)) ⋯) (Yr (K:=K) rfl (Zq (K:=K) rfl (pv 0) rfl)) (fun _ _ _ _ _=>V2) (fun _ _ _ _ _=>(Wt (K:=K) (n:=2) rfl rfl (Z1 (Xy (i:=0) (show List.Nodup [("deed":Str),("sheet":Str)] by decide +kernel) rfl (by first|exact Or.inl rfl|exact Or.inr rfl)) (Z1 (Xy (i:=1) (show List.Nodup [("deed":Str),("sheet":Str)] by decide +kernel) rfl (by first|exact Or.inl rfl|exact Or.inr rfl)) Wq)))) (fun _ _ _ _ _=>(pv 0))))),?_⟩;obtain⟨⟨dx,v,a1,a2⟩,br,cl,d0,f0,⟨us,g1,g2⟩,_⟩:=id SA;have hul:=g2.length;refine⟨_,rfl,A'.p,a.zkd,dx,_,_,rfl,a1,T.zke,T.zli,V5,A'.lt,rfl,⟨_,SqL.of g1⟩,?_⟩;refine Pn (K:=K) (xs:=us) (fun i ys H'=>H'=H/\Z0 H ys ((S.std.take i).map fun x=>Wo x.1)/\ys.length=i) ⟨rfl,.nil,rfl⟩ (fun i ys H' _ ⟨e,_⟩=>by rw[e];exact SqL.of g1) (szN ⋯) (fun i ys H' ⟨_,_,e⟩=>by omega) ?_ ?_
 ·rintro i x ys H' hx ⟨rfl,tl,hyl⟩;obtain⟨t,u,v',d,s,rfl,hgi,ht,hu'⟩:=g2.get hx;refine⟨t,_,rfl,SqT.of ht,rfl,_,_,rfl,_,_,rfl,rfl,⟨[some (.ref u),some v'],rfl,rfl⟩,?_⟩;unfold tYes;dsimp only;rw[if_pos rfl];refine⟨_,rfl,rfl,?_,by rw[zs8,hyl];rfl⟩;have e:S.std.take (i+1)=S.std.take i++[(d,s)]:=by rw[zue,hgi];rfl
  rw[e,ztl];exact tl.snoc hu'
 ·rintro ys H' ⟨rfl,tl,hyl⟩ l hl;rw[hul,ztp] at tl;exact h l ys _ Zd (tl.same (Zf hl)) (Zf hl) hl
abbrev V1:Stmt:=Zy (top 58) 20
theorem O1:Zl ["self","at"] ["self","at"] (Zj V1):=fnS
theorem O2(F:Fun K "matches" "Season.matches" V1 f fd)(T:Tx K mg a)(zkp:Zt P w K mg base a.zkd "sheet_of" 3 ["self","at"] (Sf (ca a)))(zlj:Zt P w K mg base a.zkh "matches" 1 ["self"] (R7 (ca a))):FnOk P w K mg base (CX1 P w) 4 f fd ["self","at"] (Gi (ca a)):=by
 refine F.okX O1 ⋯ fun _ _ _ _ H _ Q E hr h=>?_;obtain⟨A',S,i,rfl,SA,hr0⟩:=h;refine⟨_,(Ze (Zn (Yb (Yz (pv 0) T.zke zkp (hr.mono ⋯) Zk (Za (pv 1) Zb)) T.zky zlj (hr.mono ⋯) Zk))),?_⟩;obtain⟨si,hol,h⟩:=hr0;obtain⟨⟨dx,v,a1,a2⟩,_⟩:=id SA;refine⟨_,rfl,A'.p,dx,_,rfl,a1,Z8 ⋯,_,rfl,A',S,i,rfl,SA,si,hol,it2 h (fun _ z=>z) fun hn h=>⟨h.1,fun s q hs Sq=>?_⟩⟩;obtain⟨dxq,m1,m2,m3,m4,hq⟩:=ShAt.ins Sq;exact⟨q,dxq,_,rfl,hq,V9 ⋯ ⋯ ⋯ ⋯,(·∉A'.fp),q,s,rfl,Sq,fun l ts H' a b c d=>h.2 s hs l ts H' a b c d⟩
abbrev T4:Stmt:=Zy (top 58) 21
theorem Jb:Zl ["self","at"] ["self","at"] (Zj T4):=fnS
theorem Jc(F:Fun K "goes" "Season.goes" T4 f fd)(T:Tx K mg a)(zkp:Zt P w K mg base a.zkd "sheet_of" 3 ["self","at"] (Sf (ca a)))(zl5:Zt P w K mg base a.zkh "goes" 1 ["self"] (Kj (ca a))):FnOk P w K mg base (CX1 P w) 4 f fd ["self","at"] (zdq (ca a)):=by
 refine F.okX Jb ⋯ fun _ _ _ _ H _ Q E hr h=>?_;obtain⟨A',S,i,rfl,SA,hr0⟩:=h;refine⟨_,(Ze (Zn (Yb (Yz (pv 0) T.zke zkp (hr.mono ⋯) Zk (Za (pv 1) Zb)) T.zky zl5 (hr.mono ⋯) Zk))),?_⟩;obtain⟨si,hol,h⟩:=hr0;obtain⟨⟨dx,v,a1,a2⟩,_⟩:=id SA;refine⟨_,rfl,A'.p,dx,_,rfl,a1,Z8 ⋯,_,rfl,A',S,i,rfl,SA,si,hol,it2 h (fun _ z=>z) fun hn h=>⟨h.1,fun s q hs Sq=>?_⟩⟩;obtain⟨dxq,m1,m2,m3,m4,hq⟩:=ShAt.ins Sq;exact⟨q,dxq,_,rfl,hq,V9 ⋯ ⋯ ⋯ ⋯,(·∉A'.fp),q,s,rfl,Sq,fun l H' a b c=>h.2 s hs l H' a b c⟩
abbrev T5:Stmt:=Zy (top 58) 23
theorem Jd:Zl ["self","at"] ["self","at"] (Zj T5):=fnS
theorem Je(F:Fun K "left" "Season.left" T5 f fd)(T:Tx K mg a)(zkp:Zt P w K mg base a.zkd "sheet_of" 3 ["self","at"] (Sf (ca a)))(zoa:Zt P w K mg base a.zkh "left" 2 ["self"] (Dp (ca a))):FnOk P w K mg base (CX1 P w) 4 f fd ["self","at"] (D1 (ca a)):=by
 refine F.okX Jd ⋯ fun _ _ _ _ H _ Q E hr h=>?_;obtain⟨A',S,i,rfl,SA,hr0⟩:=h;refine⟨_,(Ze (Zn (Yb (Yz (pv 0) T.zke zkp (hr.mono ⋯) Zk (Za (pv 1) Zb)) T.zky zoa (hr.mono ⋯) Zk))),?_⟩;obtain⟨si,hol,h⟩:=hr0;obtain⟨⟨dx,v,a1,a2⟩,_⟩:=id SA;refine⟨_,rfl,A'.p,dx,_,rfl,a1,Z8 ⋯,_,rfl,A',S,i,rfl,SA,si,hol,it2 h (fun _ z=>z) fun hn h=>⟨h.1,fun s q hs Sq=>?_⟩⟩;obtain⟨dxq,m1,m2,m3,m4,hq⟩:=ShAt.ins Sq;obtain⟨k1,k2,k3⟩:=h.2 s hs;exact⟨q,dxq,_,rfl,hq,V9 ⋯ ⋯ ⋯ ⋯,(·∉A'.fp),q,s,rfl,Sq,k1,k2,fun l H' a b c=>k3 l H' a b c⟩
abbrev Rb:Stmt:=Zy (top 58) 24
theorem Im:Zl ["self","at"] ["self","at"] (Zj Rb):=fnS
theorem Io(F:Fun K "why" "Season.why" Rb f fd)(T:Tx K mg a)(zkp:Zt P w K mg base a.zkd "sheet_of" 3 ["self","at"] (Sf (ca a)))(zoh:Zt P w K mg base a.zkh "why" 3 ["self"] (Az (ca a))):FnOk P w K mg base (CX1 P w) 4 f fd ["self","at"] (zfs (ca a)):=by
 refine F.okX Im ⋯ fun _ _ _ _ H _ Q E hr h=>?_;obtain⟨A',S,i,rfl,SA,hr0⟩:=h;refine⟨_,(Ze (Zn (Yb (Yz (pv 0) T.zke zkp (hr.mono ⋯) Zk (Za (pv 1) Zb)) T.zky zoh (hr.mono ⋯) Zk))),?_⟩;obtain⟨si,hol,h⟩:=hr0;obtain⟨⟨dx,v,a1,a2⟩,_⟩:=id SA;refine⟨_,rfl,A'.p,dx,_,rfl,a1,Z8 ⋯,_,rfl,A',S,i,rfl,SA,si,hol,it2 h (fun _ z=>z) fun hn h=>⟨h.1,fun s q hs Sq=>?_⟩⟩;obtain⟨dxq,m1,m2,m3,m4,hq⟩:=ShAt.ins Sq;obtain⟨⟨nu,k0⟩,k1,k2,k3⟩:=h.2 s hs;exact⟨q,dxq,_,rfl,hq,V9 ⋯ ⋯ ⋯ ⋯,(·∉A'.fp),q,s,nu,rfl,Sq,k0,k1,k2,fun t lp lr ps rs H'=>k3 t lp lr ps rs H'⟩
abbrev Tb:Stmt:=Zy (top 58) 28
theorem M8:Zl ["self"] ["self"] (Zj Tb):=fnS
theorem M9(F:Fun K "facts" "Season.facts" Tb f fd)(T:Tx K mg a)(zkg:Zt P w K mg base a.zkd "at_hand" 2 ["self"] (Vd (ca a)))(zna:Zt P w K mg base a.zkf "facts" 1 ["self","at"] (Ap a.zkf a.zkq)):FnOk P w K mg base (CX1 P w) 3 f fd ["self"] (Gm (ca a)):=by
 refine F.okX M8 ⋯ fun _ _ _ _ H _ Q E hr h=>?_;obtain⟨A',S,rfl,SA,hl,h⟩:=h;refine⟨_,(Ze (Zn (V6 rfl (cT ["self"] [0]) (Iv rfl T.zln (Za Zh (Za (Yb (pv 0) T.zke zkg (hr.mono ⋯) Zk) Zb))) (fun _ _ _ _ _=>V2) (fun _ _ _ _ _=>(Yz (Zq (K:=K) rfl (pv 1) rfl) T.zlb zna (hr.mono ⋯) Ah (Za (pv 0) Zb)))))),?_⟩;obtain⟨⟨dx,v,a1,a2⟩,b,c,_⟩:=id SA;obtain⟨⟨dxl,lp⟩,_⟩:=id c;have eat:(atV S-1).toNat=S.led.length:=by unfold atV;omega
 refine⟨_,rfl,A'.p,dx,_,rfl,a1,Z8 ⋯,A',S,rfl,SA,1,atV S,rfl,⟨by omega,by omega,by unfold atV;omega,by unfold atV;omega⟩,?_⟩;rw[eat];refine Pe (fun i ys H'=>Same H H'/\∃ ls,ys=ls.map V.ref/\RwL H' ls (S.led.take i)/\ls.length=i/\∀ x∈ls,H x=none) ⟨Same.refl _,[],rfl,.nil,rfl,by simp⟩ (szN ⋯) (fun i ys H' ⟨_,ls,e1,_,e2,_⟩=>by rw[e1,zs3];omega) (fun i ys H' hi p=>?_) (fun ys H' p l' hl'=>?_)
 ·obtain⟨s1,ls,rfl,rl,hll,hfr⟩:=p;have hri:S.led[i]?=some (S.led[i]'hi):=zs4 hi;unfold tYes;dsimp only;rw[if_pos rfl];refine⟨_,rfl,A'.p,a.zkd,dx,_,_,rfl,s1 _ _ a1,T.zke,T.zlt,Vu,A'.pl,dxl,_,rfl,s1 _ _ lp,Mb ⋯ ⋯,_,rfl,A'.pl,A'.lr,A'.ld,S.led,1+(i:Int),rfl,c.same s1,Ya ⋯ ⋯,fun z=>by omega,fun k rs hk hrs l2 ts hl2 tl2=>?_⟩;have ek:k=i:=by omega
  subst ek;have s2:=Zf (o:=.lst ts) hl2;refine⟨s1.trans s2,ls++[l2],by rw[ztl];rfl,?_,by rw[zs8,hll];rfl,fun y hy=>?_⟩
  ·rw[Qt hrs];exact(rl.same s2).snoc Zd (tl2.same s2)
  ·rcases zth.mp hy with z|z
   ·exact hfr y z
   ·rw[zs9.mp z];exact s1.free hl2
 ·obtain⟨s1,ls,rfl,rl,hll,hfr⟩:=p;rw[ztp] at rl;exact h l' ls _ Zd (rl.same (Zf hl')) (s1.trans (Zf hl')) (s1.free hl') hfr
abbrev Qf:Stmt:=top 60
theorem F3:Zl ["_law_found"] ["_law_found"] (Zj Qf):=fnS
theorem F5(F:Fun K "_law_whole" "_law_whole" Qf f fd)(T:Tx K mg a):FnOk P w K mg base (CX1 P w) 1 f fd ["_law_found"] Al:=by
 refine F.okX F3 ⋯ fun _ _ _ _ H _ Q E hr h=>?_;obtain⟨i,rfl,h⟩:=h;refine⟨_,(Ze (Zn (Lu (Zm (Z2 (K:=K) rfl) (by rfl) T.zki PyProof.Rows.boot_isinstance (Za (pv 0) (Za (Va rfl T.zo0 PyProof.Rows.boot_int (show RelV (.ty "int") _ from rfl)) Zb))) (G1 (zf3 (Zm (Z2 (K:=K) rfl) (by rfl) T.zki PyProof.Rows.boot_isinstance (Za (pv 0) (Za (Va rfl T.zp3 PyProof.Rows.boot_bool (show RelV (.ty "bool") _ from rfl)) Zb)))))))),?_⟩;refine⟨_,rfl,_,_,_,_,rfl,.of (.int i),.inl ⟨_,rfl⟩,zgy K,_,rfl,?_⟩;refine iteT ?_;exact⟨_,rfl,_,_,_,_,rfl,.of (.int i),.inl ⟨_,rfl⟩,zgz K,_,rfl,h⟩
abbrev Jf:Stmt:=top 61
theorem zbw:Zl ["_law_script","_law_k"] ["_law_script","_law_k"] (Zj Jf):=fnS
theorem zbx(F:Fun K "_law_at" "_law_at" Jf f fd)(T:Tx K mg a):FnOk P w K mg base (CX1 P w) 1 f fd ["_law_script","_law_k"] (zg1 K):=by
 refine F.okX zbw ⋯ fun _ _ _ _ H _ Q E hr h=>?_;obtain⟨b,ns,k,rfl,hs,h⟩:=h;refine⟨_,(Zc (Zz (Zo Iw (pv 1) (Zm (cL K) (by rfl) T.zk5 PySem.boot_len (Za (pv 0) Zb)) (Zr _))
  (Ze (Zn (pI (iL K) (pv 0) (pv 1))))
  Zp)
 (Ze (Zn Zh))),?_⟩
 refine⟨_,rfl,_,rfl,b,_,rfl,.inl hs,_,_,rfl,rfl,_,rfl,?_⟩;rw[zs3];refine itD (fun hk=>?_) (fun hk=>?_)
 ·have hk':k<ns.length:=by omega
  refine⟨_,rfl,_,rfl,b,_,_,_,rfl,rfl,hs,Ye (show (ns.map V.int)[k]?=some (.int (Q5 ns k)) from ?_),h⟩;unfold Q5;rw[zta,zs4 hk'];rfl
 ·have e:Q5 ns k=0:=by unfold Q5;rw[List.getElem?_eq_none ⋯];rfl
  rw[e] at h;exact h
abbrev N1:Stmt:=top 62
theorem Rc:Zl ["_law_cell_here","_law_k","_law_one","_law_two","_law_three"] ["_law_cell_here","_law_k"] (Zj N1):=fnS
theorem Bz(F:Fun K "_law_mix" "_law_mix" N1 f fd)(T:Tx K mg a):FnOk P w K mg base (CX1 P w) 1 f fd ["_law_cell_here","_law_k"] zcx:=by
 refine F.okX Rc ⋯ fun _ _ _ _ H _ Q E hr h=>?_;obtain⟨c,k,rfl,h⟩:=h;refine⟨_,(Zc (pS 2 Rc.nd (Zv Y5 (Zv Wx (Zv Pa (pv 0) Zh) (pv 1)) Zh))
 (Zc (pS 3 Rc.nd (Zv Y5 (Zv Wx (Zv Pa (pv 2) Zh) (Zv Pa Zh (pv 1))) Zh))
 (Zc (pS 4 Rc.nd (Zv Y5 (Zv Wx (Zv Pa (pv 3) Zh) (pv 2)) Zh))
 (Ze (Zn (Zv Wx (Zv Pa (Zv Wx (Zv Pa (pv 2) Zh) (pv 3)) Zh) (pv 4))))))),?_⟩
 walk_at "rd";exact h
abbrev Yy:Stmt:=top 63
theorem O3:Zl ["_law_cell_here","_law_many","_law_step"] ["_law_cell_here","_law_many"] (Zj Yy):=fnS
@[irreducible] def Uk:List Expr:=zix (ziw (zbh (Qw (Yf Yy) 0)))
@[irreducible] def O4:Pos:=ziy (ziw (zbh (Qw (Yf Yy) 0)))
theorem Jg:Yf Yy=[.Assign (ziv (Qw (Yf Yy) 0)) (.Subscript (.List Uk O4) (zjv (zbh (Qw (Yf Yy) 0))) (zjw (zbh (Qw (Yf Yy) 0)))) (stP (Qw (Yf Yy) 0)),Qw (Yf Yy) 1]:=by unfold Uk O4;kernel_rfl
theorem Jh:zds Uk [1,2,5,10,50,97,98]:=by unfold Uk;exact⟨by kernel_rfl,by kernel_rfl⟩
theorem F6(F:Fun K "_law_clubs" "_law_clubs" Yy f fd)(T:Tx K mg a):FnOk P w K mg base (CX1 P w) 1 f fd ["_law_cell_here","_law_many"] Am:=by
 refine F.okX O3 ⋯ fun _ _ _ _ H _ Q E hr h=>?_;obtain⟨c,m,rfl,hm,h⟩:=h;rw[Jg];refine⟨_,(Zc (pS 2 O3.nd (pI (iL K) (Z7 (A8 [1,2,5,10,50,97,98] Jh)) (Zv Y5 (pv 0) Zh)))
 (Ze (Zn (V6 rfl (cT ["_law_cell_here","_law_step"] [0,2]) (Wd rfl T.zln (Za (pv 1) Zb)) (fun _ _ _ _ _=>V2) (fun _ _ _ _ _=>(Zv Wx Zh (Zv Y5 (Zv Wx (Zv Xk (pv 1) Zh) (Zv Pa (pv 2) (pv 0))) Zh))))))),?_⟩
 refine⟨by show 7<=sizeLine;decide,fun p0 hp0=>?_⟩;walk_at "rd";refine⟨p0,_,_,_,rfl,rfl,SqL.of Zd,Og (xs:=[1,2,5,10,50,97,98]) ⋯ (by show c%7<7;omega),?_⟩;refine⟨_,rfl,_,rfl,by omega,by omega,zaz (fun j=>V.int (Hm c j)) (by rw[ztq];exact zto hm ⋯) (fun i R hi k=>?_) (fun p hp=>?_)⟩
 ·rw[ztq] at hi;walk_at "rd";refine⟨.inr ⟨by omega,by omega⟩,?_⟩;walk_at "rd";rw[zuq];exact k
 ·rw[ztq];refine h p _ ?_ ((Zf hp0).trans (Zf hp)) ((Zf hp0).free hp);rw[Zd];unfold Ss;rw[zup];rfl
abbrev Rf:Stmt:=top 64
theorem Ip:Zl ["_law_found","_law_due_here"] ["_law_found","_law_due_here"] (Zj Rf):=fnS
theorem Iq(F:Fun K "_law_one_is" "_law_one_is" Rf f fd)(T:Tx K mg a)(zog:Z4 P w K mg base "_law_whole" 1 ["_law_found"] Al):FnOk P w K mg base (CX1 P w) 2 f fd ["_law_found","_law_due_here"] Qo:=by
 refine F.okX Ip ⋯ fun _ _ _ _ H _ Q E hr h=>?_;obtain⟨x,rfl,hx,h⟩:=h;refine⟨_,(Ze (Zn (Ea (Zo To (pv 1) Yu (Zr _)) (Ug To (pv 0) Yu (Zr _)) (Lu (pF zog hr (Za (pv 0) Zb)) (G1 (Ug Y8 (pv 0) (pv 1) (Zr _))))))),?_⟩;rcases hx with rfl|⟨i,rfl⟩
 ·refine⟨_,rfl,rfl,_,rfl,?_⟩;refine iteT ?_;exact⟨_,rfl,rfl,h⟩
 ·refine⟨_,rfl,rfl,_,rfl,?_⟩;refine iteF ?_;refine⟨_,rfl,i,rfl,_,rfl,?_⟩;refine iteT ?_;refine⟨_,rfl,_,rfl,rfl,?_⟩;rw[zs6 rfl];exact h
abbrev T6:Stmt:=top 65
theorem Qg:Zl ["_law_found","_law_due_here","_law_k"] ["_law_found","_law_due_here"] (Zj T6):=fnS
theorem Ji(F:Fun K "_law_list_is" "_law_list_is" T6 f fd)(T:Tx K mg a)(zkw:Z4 P w K mg base "_law_one_is" 2 ["_law_found","_law_due_here"] Qo):FnOk P w K mg base (CX1 P w) 3 f fd ["_law_found","_law_due_here"] (Kd K):=by
 refine F.okX Qg ⋯ fun _ _ _ _ H _ Q E hr h=>?_;obtain⟨b,c,xs,rfl,hb,hc,ho,hl,h⟩:=h;refine⟨_,(Zc (Zz (PW.pt (Wl (Xa (Y4 (Zm (Z2 (K:=K) rfl) (by rfl) T.zki PyProof.Rows.boot_isinstance (Za (pv 0) (Za (Va rfl T.zlx PyProof.Rows.boot_list (show RelV (.ty "list") _ from rfl)) Zb))))) (X2 (Zo Q4 (Zm (cL K) (by rfl) T.zk5 PySem.boot_len (Za (pv 0) Zb)) (Zm (cL K) (by rfl) T.zk5 PySem.boot_len (Za (pv 1) Zb)) (Zr _)))))
  (Ze (Zn X1))
  Zp)
 (Zc (Xf PassesOwn.leaving rfl (Wd rfl T.zln (Za (Zm (cL K) (by rfl) T.zk5 PySem.boot_len (Za (pv 1) Zb)) Zb)) (pN 2 Qg.nd)
  (Ze (Zz (Xa (Y4 (pF zkw hr (Za (pI (iL K) (pv 0) (pv 2)) (Za (pI (iL K) (pv 1) (pv 2)) Zb)))))
   (Ze (Zn X1))
   Zp)))
 (Ze (Zn X1)))),?_⟩
 refine⟨_,rfl,_,_,_,_,rfl,.of (.lst hb),.inl ⟨_,rfl⟩,Fe K,_,rfl,?_⟩;refine iteF ?_;refine⟨_,rfl,b,_,rfl,.inl (SqL.of hb),_,rfl,c,_,rfl,.inl hc,rfl,_,rfl,?_⟩;rw[zs6 rfl];refine iteF ?_;refine⟨_,rfl,c,_,rfl,.inl hc,_,rfl,by omega,by omega,W7 (fun i σ H'=>H'=H/\(∃ v,σ=[some (.ref b),some (.ref c),v])) ⟨rfl,⟨_,rfl⟩⟩ (fun i σ H' hi ⟨e,⟨v,hv⟩⟩=>?_) (fun σ H' ⟨e,⟨v,hv⟩⟩=>?_)⟩
 ·subst e hv;rw[ztq] at hi;have h1:xs[i]?=some (xs[i]'hi):=zs4 hi;rw[zuq];refine⟨_,rfl,_,rfl,b,_,_,_,rfl,rfl,SqL.of hb,Ye h1,_,rfl,_,rfl,c,_,_,_,rfl,rfl,hc,Ye h1,_,rfl,ho _ (ztz hi),_,rfl,?_⟩;exact iteF ⟨rfl,⟨_,rfl⟩⟩
 ·subst e hv;exact h
abbrev Tc:Stmt:=top 66
theorem Rn:Zl ["_law_found","_law_due_here","_law_k"] ["_law_found","_law_due_here"] (Zj Tc):=fnS
theorem Lb(F:Fun K "_law_tuple_is" "_law_tuple_is" Tc f fd)(T:Tx K mg a)(zkw:Z4 P w K mg base "_law_one_is" 2 ["_law_found","_law_due_here"] Qo):FnOk P w K mg base (CX1 P w) 3 f fd ["_law_found","_law_due_here"] (Hn K):=by
 refine F.okX Rn ⋯ fun _ _ _ _ H _ Q E hr h=>?_;obtain⟨b,c,xs,rfl,hb,hc,ho,hl,h⟩:=h;refine⟨_,(Zc (Zz (PW.pt (Wl (Xa (Y4 (Zm (Z2 (K:=K) rfl) (by rfl) T.zki PyProof.Rows.boot_isinstance (Za (pv 0) (Za (Va rfl T.znn PyProof.Rows.boot_tuple (show RelV (.ty "tuple") _ from rfl)) Zb))))) (X2 (Zo Q4 (Zm (cL K) (by rfl) T.zk5 PySem.boot_len (Za (pv 0) Zb)) (Zm (cL K) (by rfl) T.zk5 PySem.boot_len (Za (pv 1) Zb)) (Zr _)))))
  (Ze (Zn X1))
  Zp)
 (Zc (Xf PassesOwn.leaving rfl (Wd rfl T.zln (Za (Zm (cL K) (by rfl) T.zk5 PySem.boot_len (Za (pv 1) Zb)) Zb)) (pN 2 Rn.nd)
  (Ze (Zz (Xa (Y4 (pF zkw hr (Za (pI (iU K) (pv 0) (pv 2)) (Za (pI (iU K) (pv 1) (pv 2)) Zb)))))
   (Ze (Zn X1))
   Zp)))
 (Ze (Zn X1)))),?_⟩
 refine⟨_,rfl,_,_,_,_,rfl,.of (.tup hb),.inl ⟨_,rfl⟩,Bd K,_,rfl,?_⟩;refine iteF ?_;refine⟨_,rfl,b,_,rfl,.inr (SqT.of hb),_,rfl,c,_,rfl,.inr hc,rfl,_,rfl,?_⟩;rw[zs6 rfl];refine iteF ?_;refine⟨_,rfl,c,_,rfl,.inr hc,_,rfl,by omega,by omega,W7 (fun i σ H'=>H'=H/\(∃ v,σ=[some (.ref b),some (.ref c),v])) ⟨rfl,⟨_,rfl⟩⟩ (fun i σ H' hi ⟨e,⟨v,hv⟩⟩=>?_) (fun σ H' ⟨e,⟨v,hv⟩⟩=>?_)⟩
 ·subst e hv;rw[ztq] at hi;have h1:xs[i]?=some (xs[i]'hi):=zs4 hi;rw[zuq];refine⟨_,rfl,_,rfl,b,_,_,_,rfl,rfl,SqT.of hb,Ye h1,_,rfl,_,rfl,c,_,_,_,rfl,rfl,hc,Ye h1,_,rfl,ho _ (ztz hi),_,rfl,?_⟩;exact iteF ⟨rfl,⟨_,rfl⟩⟩
 ·subst e hv;exact h
abbrev Td:Stmt:=top 67
theorem Ro:Zl ["_law_found","_law_due_here","_law_k"] ["_law_found","_law_due_here"] (Zj Td):=fnS
theorem Lc(F:Fun K "_law_rows_are" "_law_rows_are" Td f fd)(T:Tx K mg a)(znl:Z4 P w K mg base "_law_tuple_is" 3 ["_law_found","_law_due_here"] (Hn K)):FnOk P w K mg base (CX1 P w) 4 f fd ["_law_found","_law_due_here"] (Ho K):=by
 refine F.okX Ro ⋯ fun _ _ _ _ H _ Q E hr h=>?_;obtain⟨b,c,ts,us,R,rfl,hb,hc,tl,ul,ho,hl,h⟩:=h;refine⟨_,(Zc (Zz (PW.pt (Wl (Xa (Y4 (Zm (Z2 (K:=K) rfl) (by rfl) T.zki PyProof.Rows.boot_isinstance (Za (pv 0) (Za (Va rfl T.zlx PyProof.Rows.boot_list (show RelV (.ty "list") _ from rfl)) Zb))))) (X2 (Zo Q4 (Zm (cL K) (by rfl) T.zk5 PySem.boot_len (Za (pv 0) Zb)) (Zm (cL K) (by rfl) T.zk5 PySem.boot_len (Za (pv 1) Zb)) (Zr _)))))
  (Ze (Zn X1))
  Zp)
 (Zc (Xf PassesOwn.leaving rfl (Wd rfl T.zln (Za (Zm (cL K) (by rfl) T.zk5 PySem.boot_len (Za (pv 1) Zb)) Zb)) (pN 2 Ro.nd)
  (Ze (Zz (Xa (Y4 (pF znl hr (Za (pI (iL K) (pv 0) (pv 2)) (Za (pI (iL K) (pv 1) (pv 2)) Zb)))))
   (Ze (Zn X1))
   Zp)))
 (Ze (Zn X1)))),?_⟩
 have el:ts.length=us.length:=by rw[tl.length,ul.length]
 have hul:=ul.length;refine⟨_,rfl,_,_,_,_,rfl,.of (.lst hb),.inl ⟨_,rfl⟩,Fe K,_,rfl,?_⟩;refine iteF ?_;refine⟨_,rfl,b,_,rfl,.inl (SqL.of hb),_,rfl,c,_,rfl,.inl hc,rfl,_,rfl,?_⟩;rw[el,zs6 rfl];refine iteF ?_;refine⟨_,rfl,c,_,rfl,.inl hc,_,rfl,by omega,by omega,W7 (fun i σ H'=>H'=H/\(∃ v,σ=[some (.ref b),some (.ref c),v])) ⟨rfl,⟨_,rfl⟩⟩ (fun i σ H' hi ⟨e,⟨v,hv⟩⟩=>?_) (fun σ H' ⟨e,⟨v,hv⟩⟩=>?_)⟩
 ·subst e hv;rw[ztq] at hi;have hR:i<R.length:=by rw[<- ul.length];exact hi
  obtain⟨t1,e1,q1⟩:=tl.getR (zs4 hR);obtain⟨t2,e2,q2⟩:=ul.getR (zs4 hR);obtain⟨o1,o2⟩:=ho _ (ztz hR);rw[zuq];refine⟨_,rfl,_,rfl,b,_,_,_,rfl,rfl,SqL.of hb,Ye e1,_,rfl,_,rfl,c,_,_,_,rfl,rfl,hc,Ye e2,t1,t2,_,rfl,q1,SqT.of q2,o2,o1,_,rfl,?_⟩;exact iteF ⟨rfl,⟨_,rfl⟩⟩
 ·subst e hv;exact h
abbrev T7:Stmt:=top 68
theorem Jj:Zl ["_law_found","_law_due_here"] ["_law_found","_law_due_here"] (Zj T7):=fnS
theorem Jk(F:Fun K "_law_deed_is" "_law_deed_is" T7 f fd)(T:Tx K mg a)(zkw:Z4 P w K mg base "_law_one_is" 2 ["_law_found","_law_due_here"] Qo):FnOk P w K mg base (CX1 P w) 3 f fd ["_law_found","_law_due_here"] Kp:=by
 refine F.okX Jj ⋯ fun _ _ _ _ H _ Q E hr h=>?_;obtain⟨t1,t2,d,rfl,h1,h2,h⟩:=h;refine⟨_,(Zc (Zz (PW.pt (Wl (Xa (Y4 (Zm (Z2 (K:=K) rfl) (by rfl) T.zki PyProof.Rows.boot_isinstance (Za (pv 0) (Za (Va rfl T.znn PyProof.Rows.boot_tuple (show RelV (.ty "tuple") _ from rfl)) Zb))))) (Wl (Zo Q4 (Zm (cL K) (by rfl) T.zk5 PySem.boot_len (Za (pv 0) Zb)) Zh (Zr _)) (X2 (Xa (Y4 (Zm (Z2 (K:=K) rfl) (by rfl) T.zki PyProof.Rows.boot_isinstance (Za (pI (iU K) (pv 0) Zh) (Za (Va rfl T.zqp PyProof.Rows.boot_str (show RelV (.ty "str") _ from rfl)) Zb)))))))))
  (Ze (Zn X1))
  Zp)
 (Ze (Zn (Lu (Ug Y8 (pI (iU K) (pv 0) Zh) (pI (iU K) (pv 1) Zh) (Zr _)) (Lu (pF zkw hr (Za (pI (iU K) (pv 0) Zh) (Za (pI (iU K) (pv 1) Zh) Zb))) (G1 (pF zkw hr (Za (pI (iU K) (pv 0) Zh) (Za (pI (iU K) (pv 1) Zh) Zb))))))))),?_⟩
 have h1:H t1=some (.tup [.str d.1,.int d.2.1,.int d.2.2]):=h1;have h2:H t2=some (.tup [.str d.1,.int d.2.1,.int d.2.2]):=h2;refine Ys ?_;refine⟨_,rfl,_,_,_,_,rfl,.of (.tup h1),.inl ⟨_,rfl⟩,Bd K,_,rfl,?_⟩;refine iteF ?_;refine⟨_,rfl,t1,_,rfl,.inr (SqT.of h1),rfl,_,rfl,?_⟩;refine(show if (!decide (V.int ((3:Nat):Int)=V.int 3))=true then _ else _ from ?_);rw[zs6 (show V.int ((3:Nat):Int)=V.int 3 from rfl)];refine iteF ?_;refine⟨_,rfl,t1,_,_,_,rfl,rfl,SqT.of h1,rfl,_,_,_,_,rfl,.of (.str _),.inl ⟨_,rfl⟩,zg0 K,_,rfl,?_⟩;refine iteF (Zu ?_);dsimp only;refine⟨_,rfl,t1,_,_,_,rfl,rfl,SqT.of h1,rfl,_,rfl,t2,_,_,_,rfl,rfl,SqT.of h2,rfl,rfl,true,by rw[zs6 rfl],iteT ?_⟩;refine⟨_,rfl,t1,_,_,_,rfl,rfl,SqT.of h1,rfl,_,rfl,t2,_,_,_,rfl,rfl,SqT.of h2,rfl,.int d.2.1,rfl,.inr ⟨_,rfl⟩,true,rfl,iteT ?_⟩;exact⟨_,rfl,t1,_,_,_,rfl,rfl,SqT.of h1,rfl,_,rfl,t2,_,_,_,rfl,rfl,SqT.of h2,rfl,.int d.2.2,rfl,.inr ⟨_,rfl⟩,h⟩
abbrev Ue:Stmt:=top 69
theorem Sn:Zl ["_law_found","_law_due_here","_law_k"] ["_law_found","_law_due_here"] (Zj Ue):=fnS
theorem N2(F:Fun K "_law_deeds_are" "_law_deeds_are" Ue f fd)(T:Tx K mg a)(zlu:Z4 P w K mg base "_law_deed_is" 3 ["_law_found","_law_due_here"] Kp):FnOk P w K mg base (CX1 P w) 4 f fd ["_law_found","_law_due_here"] (Kq K):=by
 refine F.okX Sn ⋯ fun _ _ _ _ H _ Q E hr h=>?_;obtain⟨b,c,ts,us,ds,rfl,hb,hc,tl,ul,hl,h⟩:=h;refine⟨_,(Zc (Zz (PW.pt (Wl (Xa (Y4 (Zm (Z2 (K:=K) rfl) (by rfl) T.zki PyProof.Rows.boot_isinstance (Za (pv 0) (Za (Va rfl T.zlx PyProof.Rows.boot_list (show RelV (.ty "list") _ from rfl)) Zb))))) (X2 (Zo Q4 (Zm (cL K) (by rfl) T.zk5 PySem.boot_len (Za (pv 0) Zb)) (Zm (cL K) (by rfl) T.zk5 PySem.boot_len (Za (pv 1) Zb)) (Zr _)))))
  (Ze (Zn X1))
  Zp)
 (Zc (Xf PassesOwn.leaving rfl (Wd rfl T.zln (Za (Zm (cL K) (by rfl) T.zk5 PySem.boot_len (Za (pv 1) Zb)) Zb)) (pN 2 Sn.nd)
  (Ze (Zz (Xa (Y4 (pF zlu hr (Za (pI (iL K) (pv 0) (pv 2)) (Za (pI (iL K) (pv 1) (pv 2)) Zb)))))
   (Ze (Zn X1))
   Zp)))
 (Ze (Zn X1)))),?_⟩
 have e1:=tl.length;have e2:=ul.length;rw[zs3] at e1 e2;have el:ts.length=us.length:=by omega
 refine⟨_,rfl,_,_,_,_,rfl,.of (.lst hb),.inl ⟨_,rfl⟩,Fe K,_,rfl,?_⟩;refine iteF ?_;refine⟨_,rfl,b,_,rfl,.inl (SqL.of hb),_,rfl,c,_,rfl,.inl (SqL.of hc),rfl,_,rfl,?_⟩;rw[el,zs6 rfl];refine iteF (Zu ?_);dsimp only;refine⟨_,rfl,c,_,rfl,.inl (SqL.of hc),_,rfl,by omega,by omega,W7 (fun i σ H'=>H'=H/\(∃ v,σ=[some (.ref b),some (.ref c),v])) ⟨rfl,⟨_,rfl⟩⟩ (fun i σ H' hi ⟨e,⟨v,hv⟩⟩=>?_) (fun σ H' ⟨e,⟨v,hv⟩⟩=>?_)⟩
 ·subst e hv;rw[ztq] at hi;have hd:i<ds.length:=by omega
  obtain⟨t1,x1,x2⟩:=tl.getR (i:=i) (r:=Wo (ds[i]'hd)) (by rw[zta,zs4 hd];rfl);obtain⟨t2,y1,y2⟩:=ul.getR (i:=i) (r:=Wo (ds[i]'hd)) (by rw[zta,zs4 hd];rfl);rw[zuq];walk_at "if";refine⟨_,rfl,_,rfl,b,_,_,_,rfl,rfl,SqL.of hb,Ye x1,_,rfl,_,rfl,c,_,_,_,rfl,rfl,SqL.of hc,Ye y1,t1,t2,_,rfl,x2,y2,true,rfl,?_⟩;exact iteF (Zu ⟨rfl,⟨_,rfl⟩⟩)
 ·subst e hv;exact h
abbrev Z9:Stmt:=top 70
theorem Yt:Zl ["_law_cell_here","_law_clubs_here","_law_most","_law_mixed","_law_matches_here","_law_many","_law_grades","_law_rest","_law_k","_law_home","_law_guest"] ["_law_cell_here","_law_clubs_here","_law_most","_law_mixed"] (Zj Z9):=fnS
@[irreducible] def Vm:List Expr:=zix (zbh (Qw (Yf Z9) 2))
@[irreducible] def Qh:Pos:=ziy (zbh (Qw (Yf Z9) 2))
theorem N3:Yf Z9=[Qw (Yf Z9) 0,Qw (Yf Z9) 1,.Assign (ziv (Qw (Yf Z9) 2)) (.List Vm Qh) (stP (Qw (Yf Z9) 2)),Qw (Yf Z9) 3,Qw (Yf Z9) 4,Qw (Yf Z9) 5]:=by unfold Vm Qh;kernel_rfl
theorem N4:zds Vm [1,2,3,4,5,6,7,8,9,1,1,1,1,2,2,3,3,4]:=by unfold Vm;exact⟨by kernel_rfl,by kernel_rfl⟩
theorem Jl(F:Fun K "_law_matches" "_law_matches" Z9 f fd)(T:Tx K mg a)(zm6:Z4 P w K mg base "_law_mix" 1 ["_law_cell_here","_law_k"] zcx):FnOk P w K mg base (CX1 P w) 2 f fd ["_law_cell_here","_law_clubs_here","_law_most","_law_mixed"] (Mf K):=by
 refine F.okX Yt ⋯ fun _ _ _ _ H _ Q E hr h=>?_;obtain⟨b,ns,cell,most,mixed,rfl,hb,hl1,hl2,nd,rng,hm1,hmx,h⟩:=h;rw[N3];refine⟨_,(Zc (pS 4 Yt.nd (Z7 Zb))
 (Zc (pS 5 Yt.nd (Zm (cL K) (by rfl) T.zk5 PySem.boot_len (Za (pv 1) Zb)))
 (Zc (pS 6 Yt.nd (Z7 (A8 [1,2,3,4,5,6,7,8,9,1,1,1,1,2,2,3,3,4] N4)))
 (Zc (pS 7 Yt.nd (Zv Xk (pv 0) (Zv Wx (pv 2) Zh)))
 (Zc (Xf PassesOwn.leaving rfl (Wd rfl T.zln (Za (Zv Y5 (pv 0) (Zv Wx (pv 2) Zh)) Zb)) (pN 8 Yt.nd)
  (Zc (pS 9 Yt.nd (Zv Y5 (pv 7) (pv 5)))
  (Zc (pS 10 Yt.nd (Zv Y5 (Zv Wx (Zv Wx (pv 9) Zh) (Zv Y5 (Zv Xk (pv 7) (pv 5)) (Zv Ru (pv 5) Zh))) (pv 5)))
  (Zc (Xo (pv 4) (Yk (Za (pI (iL K) (pv 1) (pv 9)) (Za (pI (iL K) (pv 1) (pv 10)) (Za (pI (iL K) (pv 6) (Zv Y5 (Zv Xk (Zv Xk (pv 7) (pv 5)) (Zv Ru (pv 5) Zh)) Zh)) Zb)))))
  (Ze (pS 7 Yt.nd (pI (iL K) (Z7 (Za (Zv Xk (Zv Xk (Zv Xk (pv 7) (pv 5)) (Zv Ru (pv 5) Zh)) Zh) (Za (pF zm6 hr (Za (pv 7) (Za (pv 8) Zb))) Zb))) (pv 3))))))))
 (Ze (Zn (pv 4)))))))),?_⟩
 show let y1:TS:=_;let y2:TS:=Z5 _ y1;let y3:TS:=Z5 _ y2;let y4:TS:=_;let y5:TS:=Z5 (zf8 _ _ (Z5 _ y3)) y4;let y6:TS:=Z5 _ y5;let y7:TS:=Z5 _ y6;let y8:TS:=Z5 _ y7;Z5 _ y8 _ _ _;intro y1 y2 y3 y4 y5 y6 y7 y8;have sz0:([]:List V).length<=sizeLine:=ztt _;have sz3:∀ x y z:V,[x,y,z].length<=sizeLine:=fun x y z=>by show 3<=sizeLine;rw[sizeLine_eq];decide
 refine⟨sz0,fun r fr=>?_⟩;have s1:=Zf (o:=.lst []) fr;have q1:=Zd (H:=H) (a:=r) (o:=.lst []);walk_at "if";generalize upd H r (.lst [])=H1 at s1 q1 ⊢;refine⟨_,rfl,b,_,rfl,.inl (SqL.of (s1 _ _ hb)),?_⟩;rw[zs3];walk_at "if";refine zdu [1,2,3,4,5,6,7,8,9,1,1,1,1,2,2,3,3,4] ⋯ fun lg H2 hg s2 fg=>?_;have frg:lg≠r:=(Zg q1 fg).symm;have hc:(0:Int)<(most:Int)+1:=by omega
 refine⟨_,rfl,_,rfl,_,_,rfl,rfl,_,_,rfl,rfl,⟨hc,by omega⟩,?_⟩;walk_at "if";refine⟨_,rfl,_,rfl,_,_,rfl,rfl,_,_,rfl,rfl,hc,_,rfl,?_⟩;have c0:=zur cell (show ((most:Int)+1)≠0 by omega);have c1:=zuj cell hc;have hn0:(0:Int)<(ns.length:Int):=by omega
 have hn1:(0:Int)<(ns.length:Int)-1:=by omega
 let jv1:Nat->L2.St->Hp->Prop:=fun i σ H'=>(∃ v8 v9 v10 R,σ=[some (.int cell),some (.ref b),some (.int most),some (.int mixed),some (.ref r),some (.int ns.length),some (.ref lg),some (.int R),v8,v9,v10])/\(∀ x o,H2 x=some o->x≠r->H' x=some o)/\∃ ts ms,H' r=some (.lst ts)/\Z0 H' ts (ms.map pV)/\ms.length=i/\zdw ms
 refine⟨by omega,by omega,W7 jv1
  ⟨⟨_,_,_,_,rfl⟩,fun _ _ e _=>e,[],[],s2 _ _ q1,.nil,rfl,(fun m z=>nomatch z),(fun m z=>nomatch z)⟩ ?_ ?_⟩
 ·rintro i σ H' hi ⟨⟨v8,v9,v10,R,rfl⟩,k,ts,ms,hr',tl,hml,gm⟩;have hb':=k _ _ (s2 _ _ (s1 _ _ hb)) (Zg hb fr);have hg':=k _ _ hg frg;have e0:=zur R (show (ns.length:Int)≠0 by omega);have e1:=zuj R hn0;have f0:=zur (R/(ns.length:Int)) (show (ns.length:Int)-1≠0 by omega);have f1:=zuj (R/(ns.length:Int)) hn1;have w0:=zur (R/(ns.length:Int)/((ns.length:Int)-1)) (show (18:Int)≠0 by omega);have w1:=zuj (R/(ns.length:Int)/((ns.length:Int)-1)) (show (0:Int)<18 by omega);obtain⟨g0,g1,g2⟩:=zdx e0 e1 (y:=1+R/(ns.length:Int)%((ns.length:Int)-1)) ⋯ ⋯;rw[<- Int.add_assoc] at g0 g1 g2;refine⟨_,rfl,_,rfl,_,_,rfl,rfl,hn0,?_⟩;walk_at "if";refine⟨_,rfl,_,_,rfl,rfl,_,rfl,_,rfl,_,_,rfl,rfl,⟨hn0,by omega⟩,_,rfl,_,_,rfl,rfl,_,_,rfl,rfl,hn1,_,_,rfl,rfl,_,rfl,_,_,rfl,rfl,hn0,?_⟩;walk_at "if";generalize hG:(R%(ns.length:Int)+1+R/(ns.length:Int)%((ns.length:Int)-1))%(ns.length:Int)=gu at g0 g1 g2 ⊢;generalize hHo:R%(ns.length:Int)=ho at e0 e1 g2 ⊢;refine⟨_,rfl,r,_,rfl,hr',?_⟩;have hgr:=Og (xs:=Fu) w0 (by show _<((18:Nat):Int);omega);have rgr:=Bp (R/(ns.length:Int)/((ns.length:Int)-1)%18).toNat ⋯;generalize hgv:Fu.getD (R/(ns.length:Int)/((ns.length:Int)-1)%18).toNat 0=gv at hgr rgr;have hho:=Og (xs:=ns) e0 ⋯;have hgu:=Og (xs:=ns) g0 ⋯;have mho:=Gk (ns:=ns) (i:=ho.toNat) ⋯;have mgu:=Gk (ns:=ns) (i:=gu.toNat) ⋯;have hne:ns.getD ho.toNat 0≠ns.getD gu.toNat 0:=fun z=>by
   have:=zdy nd ⋯ ⋯ z;omega
  generalize ns.getD ho.toNat 0=a1 at hho mho hne;generalize ns.getD gu.toNat 0=a2 at hgu mgu hne;refine⟨_,rfl,_,rfl,b,_,_,_,rfl,rfl,SqL.of hb',hho,_,rfl,_,rfl,b,_,_,_,rfl,rfl,SqL.of hb',hgu,?_⟩;refine⟨_,rfl,_,rfl,_,rfl,_,_,rfl,rfl,⟨hn0,by omega⟩,_,rfl,_,_,rfl,rfl,_,_,rfl,rfl,⟨hn1,by omega⟩,_,_,rfl,rfl,⋯,lg,_,_,_,rfl,rfl,SqL.of hg',hgr,sz3 _ _ _,fun t ft=>?_⟩;have s3:=Zf (o:=.tup [.int a1,.int a2,.int gv]) ft;have q3:=Zd (H:=H') (a:=t) (o:=.tup [.int a1,.int a2,.int gv]);generalize upd H' t (.tup [.int a1,.int a2,.int gv])=H3 at s3 q3 ⊢;have tln:=tl.length;rw[zs3] at tln;refine⟨ts,s3 _ _ hr',szN ⋯,?_⟩;have hi':i<101:=by omega
  have k4:∀ x o,H3 x=some o->x≠r->upd H3 r (.lst (ts++[.ref t])) x=some o:=fun x o e n=>by rw[Zi n];exact e
  have q4:=Zd (H:=H3) (a:=r) (o:=.lst (ts++[.ref t]));have kt4:∀ x ys,H3 x=some (.tup ys)->upd H3 r (.lst (ts++[.ref t])) x=some (.tup ys):=fun x ys e=>k4 _ _ e (Yo e (s3 _ _ hr') (by intro z;cases z));dsimp only;generalize upd H3 r (.lst (ts++[.ref t]))=H4 at k4 q4 kt4 ⊢;obtain⟨z,hz⟩:=at2 (R/(ns.length:Int)/((ns.length:Int)-1)/18) (zg3 R (0+(i:Int))) hmx;refine⟨_,rfl,_,rfl,_,_,rfl,rfl,⟨hn0,by omega⟩,_,rfl,_,_,rfl,rfl,_,_,rfl,rfl,⟨hn1,by omega⟩,_,_,rfl,rfl,⟨by omega,by omega⟩,_,rfl,_,rfl,_,_,rfl,sz2,fun l2 f2=>⟨_,rfl,l2,_,_,_,rfl,rfl,SqL.of Zd,hz,?_⟩⟩;have s5:=Zf (o:=.lst [.int (R/(ns.length:Int)/((ns.length:Int)-1)/18),.int (zg3 R (0+(i:Int)))]) f2;refine⟨⟨_,_,_,_,rfl⟩,fun x o e n=>s5 _ _ (k4 _ _ (s3 _ _ (k _ _ e n)) n),ts++[.ref t],ms++[(a1,a2,gv)],s5 _ _ q4,?_,by rw[zs8,hml];rfl,?_,?_⟩
  ·rw[ztl];exact(tl.mono fun x ys e=>s5 _ _ (kt4 _ _ (s3 _ _ e))).snoc (s5 _ _ (kt4 _ _ q3))
  ·intro m hm;rcases zth.mp hm with hm|hm
   ·exact gm.1 m hm
   ·rw[zs9.mp hm];have:=rng _ mho;have:=rng _ mgu;unfold badM;dsimp only;omega
  ·intro m hm;rcases zth.mp hm with hm|hm
   ·exact gm.2 m hm
   ·rw[zs9.mp hm];exact hne
 ·rintro σ H' ⟨⟨v8,v9,v10,R,rfl⟩,k,ts,ms,hr',tl,hml,gm⟩;refine⟨_,rfl,h r ts ms H' hr' tl ⋯ gm (fun x o e=>k _ _ (s2 _ _ (s1 _ _ e)) (Zg e fr)) fr⟩
abbrev Jm:Stmt:=top 71
theorem zby:Zl ["_law_season","_law_deed"] ["_law_season","_law_deed"] (Zj Jm):=fnS
theorem zbz(F:Fun K "_law_do" "_law_do" Jm f fd)(T:Tx K mg a)(znm:Zt P w K mg base a.zkd "enrol" 5 ["self","number","grade","club"] (A4 (ca a)))(znu:Zt P w K mg base a.zkd "away" 7 ["self","at","number"] (zdo (ca a)))(zmo:Zt P w K mg base a.zkd "draw_up" 6 ["self","matches"] (Dy K (ca a)))(znf:Zt P w K mg base a.zkd "close" 4 ["self"] (A5 (ca a)))(zmd:Zt P w K mg base a.zkd "take_back" 2 ["self"] (Kn (ca a))):FnOk P w K mg base (CX1 P w) 8 f fd ["_law_season","_law_deed"] (zfv K (ca a)):=by
 refine F.okX zby ⋯ fun _ _ _ _ H _ Q E hr h=>?_;obtain⟨A',S,t,d,rfl,SA,hd,sd,co,po,hz,hoz,htot,hl,hol,hbk,hE,h⟩:=h;refine⟨_,(Zc (Zz (Zo Y8 (pI (iU K) (pv 1) Zh) Zs (Zr _))
  (Ze (Zn (Yz (pv 0) T.zke znm (hr.mono ⋯) Zk (Za (pI (iU K) (pv 1) Zh) (Za (pI (iU K) (pv 1) Zh) (Za (pI (iU K) (pv 1) Zh) Zb))))))
  Zp)
 (Zc (Zz (Zo Y8 (pI (iU K) (pv 1) Zh) Zs (Zr _))
  (Ze (Zn (Yz (pv 0) T.zke znu (hr.mono ⋯) Zk (Za (pI (iU K) (pv 1) Zh) (Za (pI (iU K) (pv 1) Zh) Zb)))))
  Zp)
 (Zc (Zz (Zo Y8 (pI (iU K) (pv 1) Zh) Zs (Zr _))
  (Ze (Zn (Yz (pv 0) T.zke zmo (hr.mono ⋯) Zk (Za (Yv (Xh (K:=K) rfl) (by rfl) T.zlx PyProof.Rows.boot_list (Za (pI (iU K) (pv 1) Zh) Zb)) Zb))))
  Zp)
 (Zc (Zz (Zo Y8 (pI (iU K) (pv 1) Zh) Zs (Zr _))
  (Ze (Zn (Yb (pv 0) T.zke znf (hr.mono ⋯) Zk)))
  Zp)
 (Ze (Zn (Yb (pv 0) T.zke zmd (hr.mono ⋯) Zk))))))),?_⟩
 have hpl:=po.2;obtain⟨⟨dx,v,a1,a2⟩,_⟩:=id SA;cases d with
 | enrol n g c0 =>
   have ht:H t=some (.tup [.str "enrol",.int n,.int g,.int c0]):=hd;refine⟨_,rfl,t,_,_,_,rfl,rfl,SqT.of ht,rfl,rfl,_,rfl,?_⟩;rw[Pt];refine iteT ?_;refine⟨_,rfl,A'.p,dx,_,rfl,a1,Z8 ⋯,_,rfl,t,_,_,_,rfl,rfl,SqT.of ht,rfl,_,rfl,t,_,_,_,rfl,rfl,SqT.of ht,rfl,_,rfl,t,_,_,_,rfl,rfl,SqT.of ht,rfl,A',S,n,g,c0,rfl,SA,sd,by omega,by omega,?_⟩;by_cases c1:S.len<=S.led.length
   ·rw[if_pos c1];exact hE .seaOver (by simp only[refS];rw[if_pos c1]) H (Same.refl _)
   rw[if_neg c1];by_cases c2:S.cur.isSome=true
   ·rw[if_pos c2];exact hE .drawn (by simp only[refS];rw[if_neg c1,if_pos c2]) H (Same.refl _)
   rw[if_neg c2];by_cases c3:badI n g c0
   ·rw[if_pos c3];exact hE .out (by simp only[refS];rw[if_neg c1,if_neg c2,if_pos c3]) H (Same.refl _)
   rw[if_neg c3];by_cases c4:n∈S.ppl.map (·.1)
   ·rw[if_pos c4];exact hE .known (by simp only[refS];rw[if_neg c1,if_neg c2,if_neg c3,if_pos c4]) H (Same.refl _)
   rw[if_neg c4];by_cases c5:30<=S.ppl.length
   ·rw[if_pos c5];exact hE .many (by simp only[refS];rw[if_neg c1,if_neg c2,if_neg c3,if_neg c4,if_pos c5]) H (Same.refl _)
   rw[if_neg c5];by_cases c6:100<=S.std.length
   ·rw[if_pos c6];exact hE .manyD (by simp only[refS];rw[if_neg c1,if_neg c2,if_neg c3,if_neg c4,if_neg c5,if_pos c6]) H (Same.refl _)
   rw[if_neg c6];exact fun H' SA' f'=>h (by simp only[refS];rw[if_neg c1,if_neg c2,if_neg c3,if_neg c4,if_neg c5,if_neg c6]) .non A' _ H' (.enrol n g c0) SA' (.refl A' H) f' (fun l z=>nomatch z)
 | away i n =>
   have ht:H t=some (.tup [.str "away",.int i,.int n]):=hd;refine⟨_,rfl,t,_,_,_,rfl,rfl,SqT.of ht,rfl,rfl,_,rfl,?_⟩;rw[Uy ⋯];refine iteF (Zu ?_);refine⟨_,rfl,t,_,_,_,rfl,rfl,SqT.of ht,rfl,rfl,_,rfl,?_⟩;rw[Pt];refine iteT ?_;refine⟨_,rfl,A'.p,dx,_,rfl,a1,Z8 ⋯,_,rfl,t,_,_,_,rfl,rfl,SqT.of ht,rfl,_,rfl,t,_,_,_,rfl,rfl,SqT.of ht,rfl,A',S,i,n,rfl,SA,sd.1,sd.2,by omega,hoz,po,fun s hs=>?_,?_⟩
   ·obtain⟨c1,c2,c3,c4,c5⟩:=co s hs;exact⟨c1,c2,c4,by omega⟩
   by_cases c1:i<1\/(S.len:Int)<i
   ·rw[if_pos c1];exact hE .noRound (by simp only[refS];rw[if_pos c1]) H (Same.refl _)
   rw[if_neg c1];by_cases c2:i<=S.led.length
   ·rw[if_pos c2];exact hE .over (by simp only[refS];rw[if_neg c1,if_pos c2]) H (Same.refl _)
   rw[if_neg c2];by_cases c3:n∈S.ppl.map (·.1)
   rotate_left
   ·rw[if_neg c3];exact hE .unk (by simp only[refS];rw[if_neg c1,if_neg c2,if_neg c3]) H (Same.refl _)
   rw[if_pos c3];by_cases c4:(i,n)∈S.out
   ·rw[if_pos c4];exact hE .away (by simp only[refS];rw[if_neg c1,if_neg c2,if_pos c3,if_pos c4])
   rw[if_neg c4];by_cases c5:100<=S.std.length
   ·rw[if_pos c5];exact hE .manyD (by simp only[refS];rw[if_neg c1,if_neg c2,if_pos c3,if_neg c4,if_pos c5])
   rw[if_neg c5];have h:=h (by simp only[refS];rw[if_neg c1,if_neg c2,if_pos c3,if_neg c4,if_neg c5]);refine⟨fun hc l H' hl' SA' f' fl=>h _ A' _ H' (.awayN hc hl') SA' (.refl A' H) f' (fun l2 z _=>by cases z;exact fl),fun s hi hs hp l H' hl' SA' f' fl=>?_,fun s p hi hs hp l us st e w' H' hl' tl CR SA' f' fl=>?_⟩
   ·subst hi;exact h _ A' _ H' (.awayF hs hp hl') SA' (.refl A' H) f' (fun l2 z _=>by cases z;exact fl)
   ·subst hi;exact h _ A' _ H' (.awayC hs hp hl' tl CR) SA' (.refl A' H) f' (fun l2 z _=>by cases z;exact fl)
 | draw ms =>
   obtain⟨l0,ts,ht,hl0,tl,okl⟩:∃ l ts,H t=some (.tup [.str "draw up",.ref l])/\H l=some (.lst ts)/\Z0 H ts (ms.map pV)/\l∉A'.fp:=hd;refine⟨_,rfl,t,_,_,_,rfl,rfl,SqT.of ht,rfl,rfl,_,rfl,?_⟩;rw[Uy ⋯];refine iteF (Zu ?_);refine⟨_,rfl,t,_,_,_,rfl,rfl,SqT.of ht,rfl,rfl,_,rfl,?_⟩;rw[Uy ⋯];refine iteF (Zu ?_);refine⟨_,rfl,t,_,_,_,rfl,rfl,SqT.of ht,rfl,rfl,_,rfl,?_⟩;rw[Pt];refine iteT ?_;refine⟨_,rfl,A'.p,dx,_,rfl,a1,Z8 ⋯,_,rfl,t,_,_,_,rfl,rfl,SqT.of ht,rfl,l0,ts,rfl,.inl (SqL.of hl0),fun l1 hl1=>?_⟩;have s1:=Zf (o:=.lst ts) hl1;have q1:upd H l1 (.lst ts) l1=some (.lst ts):=Zd;generalize upd H l1 (.lst ts)=H1 at s1 q1;refine⟨A',S,l1,ts,ms,rfl,SA.same s1,SqL.of q1,tl.same s1,sd.1,sd.2,by omega,po,?_⟩;by_cases c1:S.len<=S.led.length
   ·rw[if_pos c1];exact hE .seaOver (by simp only[refS];rw[if_pos c1]) H1 s1
   rw[if_neg c1];by_cases c2:S.cur.isSome=true
   ·rw[if_pos c2];exact hE .drawn (by simp only[refS];rw[if_neg c1,if_pos c2]) H1 s1
   rw[if_neg c2];refine⟨fun c3=>hE .manyM (by simp only[refS];rw[if_neg c1,if_neg c2,if_pos c3]) H1 s1,fun c3 c4=>hE .out (by simp only[refS];rw[if_neg c1,if_neg c2,if_neg ⋯,if_pos c4]) H1 s1,fun c3 c4 c5=>hE .same (by simp only[refS];rw[if_neg c1,if_neg c2,if_neg ⋯,if_neg c4,if_pos c5]) H1 s1,fun c3 c4 c5=>⟨fun c6 H' s'=>hE .manyD (by simp only[refS];rw[if_neg c1,if_neg c2,if_neg ⋯,if_neg c4,if_neg c5,if_pos c6]) H' (s1.trans s'),fun c6 l gv H' hl' SA' FP SP f' fl=>?_⟩⟩;exact h (by simp only[refS];rw[if_neg c1,if_neg c2,if_neg ⋯,if_neg c4,if_neg c5,if_neg ⋯]) _ A' _ H' (.draw hl' FP SP) SA' (.refl A' H) ((FrS.of A' s1).trans f') (fun l2 z _=>by cases z;exact s1.free fl)
 | close =>
   have ht:H t=some (.tup [.str "close"]):=hd;refine⟨_,rfl,t,_,_,_,rfl,rfl,SqT.of ht,rfl,rfl,_,rfl,?_⟩;rw[Uy ⋯];refine iteF (Zu ?_);refine⟨_,rfl,t,_,_,_,rfl,rfl,SqT.of ht,rfl,rfl,_,rfl,?_⟩;rw[Uy ⋯];refine iteF (Zu ?_);refine⟨_,rfl,t,_,_,_,rfl,rfl,SqT.of ht,rfl,rfl,_,rfl,?_⟩;rw[Uy ⋯];refine iteF (Zu ?_);refine⟨_,rfl,t,_,_,_,rfl,rfl,SqT.of ht,rfl,rfl,_,rfl,?_⟩;rw[Pt];refine iteT ?_;refine⟨_,rfl,A'.p,dx,_,rfl,a1,Z8 ⋯,A',S,rfl,SA,htot,hl,hol,fun s hs=>?_,?_⟩
   ·obtain⟨c1,c2,c3,c4,c5⟩:=co s hs;refine⟨c2.one,?_,by omega⟩;rw[c2.len,c4];unfold mayS;rw[zs3]
   by_cases c1:S.len<=S.led.length
   ·rw[if_pos c1];exact hE .seaOver (by simp only[refS];rw[if_pos c1]) H (Same.refl _)
   rw[if_neg c1];exact⟨fun z=>hE .notDrawn (by simp only[refS];rw[if_neg c1,if_pos z]) H (Same.refl _),fun s x H' hs SA' f' fx=>h (by simp only[refS];rw[if_neg c1,if_neg (by rw[hs];exact fun z=>nomatch z)]) _ { A' with lt:=x } _ H' (.close hs) SA' ⟨x,rfl,.inr fx⟩ f' (fun l2 z=>nomatch z)⟩
 | back =>
   have ht:H t=some (.tup [.str "take back"]):=hd;refine⟨_,rfl,t,_,_,_,rfl,rfl,SqT.of ht,rfl,rfl,_,rfl,?_⟩;rw[Uy ⋯];refine iteF (Zu ?_);refine⟨_,rfl,t,_,_,_,rfl,rfl,SqT.of ht,rfl,rfl,_,rfl,?_⟩;rw[Uy ⋯];refine iteF (Zu ?_);refine⟨_,rfl,t,_,_,_,rfl,rfl,SqT.of ht,rfl,rfl,_,rfl,?_⟩;rw[Uy ⋯];refine iteF (Zu ?_);refine⟨_,rfl,t,_,_,_,rfl,rfl,SqT.of ht,rfl,rfl,_,rfl,?_⟩;rw[Uy ⋯];refine iteF (Zu ?_);refine⟨_,rfl,A'.p,dx,_,rfl,a1,Z8 ⋯,A',S,rfl,SA,fun z=>hE .nothing (by simp only[refS];rw[if_pos z]) H (Same.refl _),fun std d s he=>?_⟩;have hne:S.std≠[]:=by rw[he];simp
   obtain⟨S0,hs0⟩:=hbk rfl hne;obtain⟨d0,e1,e2,e3,e4,e5,e6⟩:=id hs0;rw[e1] at he;obtain⟨he1,he2⟩:=List.append_inj' he rfl;have he2:(d0,S0.cur)=(d,s):=by simpa using he2
   cases he2;subst he1;refine⟨S0.ppl,S0.out,e2,fun t' H' ht' SA' f'=>?_⟩;have eS:{ S with ppl:=S0.ppl,out:=S0.out,cur:=S0.cur,std:=S0.std }=S0:=by
    cases S;cases S0;simp only at e3 e4 e5 e6 ⊢;subst e3 e4 e5 e6;rfl
   rw[eS] at SA';exact h (by simp only[refS];rw[if_neg hne]) _ A' S0 H' (.back e1 ht' hs0) SA' (.refl A' H) f' (fun l2 z hx=>by cases z;obtain⟨xs,hx⟩:=hx;rw[ht'] at hx;cases hx)
abbrev P7:Stmt:=top 72
theorem Cm:Zl ["_law_script","_law_k"] ["_law_script","_law_k"] (Zj P7):=fnS
theorem Cn(F:Fun K "_law_cell" "_law_cell" P7 f fd)(T:Tx K mg a)(zmw:Z4 P w K mg base "_law_at" 1 ["_law_script","_law_k"] (zg1 K))(zm6:Z4 P w K mg base "_law_mix" 1 ["_law_cell_here","_law_k"] zcx):FnOk P w K mg base (CX1 P w) 2 f fd ["_law_script","_law_k"] (D2 K):=by
 refine F.okX Cm ⋯ fun _ _ _ _ H _ Q E hr h=>?_;obtain⟨b,ns,k,rfl,hS,hk,h⟩:=h;refine⟨_,(Zc (Zz (Zo Y8 (Zv Y5 (pF zmw hr (Za (pv 0) (Za Zh Zb))) Zh) Zh (Zr _))
  (Ze (Zn (pF zm6 hr (Za (pI (iL K) (pv 0) (pv 1)) (Za (pv 1) Zb)))))
  Zp)
 (Ze (Zn (pI (iL K) (pv 0) (pv 1))))),?_⟩
 have hk':(ns.map V.int)[k]?=some (.int (ns[k]'hk)):=by rw[zta,zs4 hk];rfl
 refine⟨_,rfl,b,ns,0,rfl,hS,_,_,rfl,rfl,(show (0:Int)<2 by decide),rfl,_,rfl,?_⟩;refine itB (fun _=>?_) (fun _=>?_)
 ·exact⟨_,rfl,_,rfl,b,_,_,_,rfl,rfl,hS,Ye hk',_,rfl,_,_,rfl,h _ H (Same.refl _)⟩
 ·exact⟨_,rfl,_,rfl,b,_,_,_,rfl,rfl,hS,Ye hk',h _ H (Same.refl _)⟩
theorem cat2{D:Oa}{v0 v1:Option V}{vr:List (Option V)}{l e c1 c2 C:Addr}{H:Hp}{b1 b2:Bool}{xs:List V}(hx:H e=some (excO e (.ref C)))(hl:H l=some (.lst xs))(hz:xs.length<=100)(ei:Fb K C)(k1:PySem.W.kitOne K (.ref C) (.ref c1)=some b1)(k2:PySem.W.kitOne K (.ref C) (.ref c2)=some b2)
  (k:∀ l' H',H' l'=some (.lst (xs++[.bl b1,.bl b2]))->H' e=some (excO e (.ref C))->Same H H'->D.nx (v0 :: v1 :: some (.ref l') :: some (.ref e) :: vr) H') :
  Cr (tOp zgr (tVar 2) (tLst (Th (tCB (rIsI K) (Th (tVar 3) (Th (tC (V.ref c1)) tNil))) (Th (tCB (rIsI K) (Th (tVar 3) (Th (tC (V.ref c2)) tNil))) tNil)))) (Vb 2) D (v0 :: v1 :: some (.ref l) :: some (.ref e) :: vr) H:=by
 refine⟨_,rfl,_,rfl,_,_,_,_,rfl,.exc rfl rfl hx ei,.inr ⟨_,rfl⟩,k1,_,rfl,_,_,_,_,rfl,.exc rfl rfl hx ei,.inr ⟨_,rfl⟩,k2,sz2,fun l1 hl1=>?_⟩;have s1:=Zf (o:=.lst [.bl b1,.bl b2]) hl1;refine⟨l,l1,xs,_,rfl,rfl,s1 _ _ hl,Zd,szN (by show xs.length+2<=1000;omega),fun l2 hl2=>?_⟩;have s2:=s1.trans (Zf (o:=.lst (xs++[.bl b1,.bl b2])) hl2);exact k l2 _ Zd (s2 _ _ hx) s2
theorem zi5{D:Oa}{v0 v1:Option V}{vr:List (Option V)}{l e c1 C:Addr}{H:Hp}{b1:Bool}{xs:List V}(hx:H e=some (excO e (.ref C)))(hl:H l=some (.lst xs))(hz:xs.length<=100)(ei:Fb K C)(k1:PySem.W.kitOne K (.ref C) (.ref c1)=some b1)(k2:PySem.W.kitOne K (.ref C) (.type "ValueError")=some true)
  (k:∀ l' H',H' l'=some (.lst (xs++[.bl b1,.bl true]))->Same H H'->D.nx (v0 :: v1 :: some (.ref l') :: some (.ref e) :: vr) H') :
  Cr (tOp zgr (tVar 2) (tLst (Th (tCB (rIsI K) (Th (tVar 3) (Th (tC (V.ref c1)) tNil))) (Th (tCB (rIsI K) (Th (tVar 3) (Th (tC (V.ty "ValueError")) tNil))) tNil)))) (Vb 2) D (v0 :: v1 :: some (.ref l) :: some (.ref e) :: vr) H:=by
 refine⟨_,rfl,_,rfl,_,_,_,_,rfl,.exc rfl rfl hx ei,.inr ⟨_,rfl⟩,k1,_,rfl,_,_,_,_,rfl,.exc rfl rfl hx ei,.inl ⟨_,rfl⟩,k2,sz2,fun l1 hl1=>?_⟩;have s1:=Zf (o:=.lst [.bl b1,.bl true]) hl1;refine⟨l,l1,xs,_,rfl,rfl,s1 _ _ hl,Zd,szN (by show xs.length+2<=1000;omega),fun l2 hl2=>?_⟩;have s2:=s1.trans (Zf (o:=.lst (xs++[.bl b1,.bl true])) hl2);exact k l2 _ Zd s2
abbrev P8:Stmt:=top 73
theorem Yi:Zl ["_law_season","_law_deed","_law_names","e","_law_words"] ["_law_season","_law_deed"] (Zj P8):=fnS
theorem Co(F:Fun K "_law_done" "_law_done" P8 f fd)(T:Tx K mg a)(zp2:Z4 P w K mg base "_law_do" 8 ["_law_season","_law_deed"] (zfv K (ca a))):FnOk P w K mg base (CX1 P w) 9 f fd ["_law_season","_law_deed"] (spF (zd2 K (ca a))):=by
 refine FnOk.frame ?_;refine F.okX Yi ⋯ fun _ _ _ _ H _ Q E hr h=>?_;obtain⟨A',S,t,d,rfl,SA,hd,sd,co,po,hz,hoz,htot,hl,hol,hbk,hE,h⟩:=h;have hu:=W8 hr;refine⟨_,(Zc (pS 2 Yi.nd (Z7 Zb))
 (Zc (zct (as:=[]) (i:=3) zay Yi.nd rfl rfl T.zqo rfl T.zqn
  (fun E1 lk1 pn1 EX1 hl1 hO hP =>
  (Ze (Zn (Yk (Za Zs (Za (Ai zp2 (hr.mono ⋯) hP rfl (Za (pv 0) (Za (pv 1) Zb))) Zb))))))
  (fun a1 =>
  (Zc (pS 2 Yi.nd (Z7 (Za (Zm (Z2 (K:=K) rfl) (by rfl) T.zki PyProof.Rows.boot_isinstance (Za (pv 3) (Za (Xr rfl T.zqg) Zb))) (Za (Zm (Z2 (K:=K) rfl) (by rfl) T.zki PyProof.Rows.boot_isinstance (Za (pv 3) (Za (Xr rfl T.zpv) Zb))) Zb))))
  (Zc (pS 2 Yi.nd (Zv Sr (pv 2) (Z7 (Za (Zm (Z2 (K:=K) rfl) (by rfl) T.zki PyProof.Rows.boot_isinstance (Za (pv 3) (Za (Xr rfl T.zop) Zb))) (Za (Zm (Z2 (K:=K) rfl) (by rfl) T.zki PyProof.Rows.boot_isinstance (Za (pv 3) (Za (Xr rfl T.zox) Zb))) Zb)))))
  (Zc (pS 2 Yi.nd (Zv Sr (pv 2) (Z7 (Za (Zm (Z2 (K:=K) rfl) (by rfl) T.zki PyProof.Rows.boot_isinstance (Za (pv 3) (Za (Xr rfl T.zow) Zb))) (Za (Zm (Z2 (K:=K) rfl) (by rfl) T.zki PyProof.Rows.boot_isinstance (Za (pv 3) (Za (Xr rfl T.zqt) Zb))) Zb)))))
  (Zc (pS 2 Yi.nd (Zv Sr (pv 2) (Z7 (Za (Zm (Z2 (K:=K) rfl) (by rfl) T.zki PyProof.Rows.boot_isinstance (Za (pv 3) (Za (Xr rfl T.zpx) Zb))) (Za (Zm (Z2 (K:=K) rfl) (by rfl) T.zki PyProof.Rows.boot_isinstance (Za (pv 3) (Za (Xr rfl T.zqa) Zb))) Zb)))))
  (Zc (pS 2 Yi.nd (Zv Sr (pv 2) (Z7 (Za (Zm (Z2 (K:=K) rfl) (by rfl) T.zki PyProof.Rows.boot_isinstance (Za (pv 3) (Za (Xr rfl T.zqm) Zb))) (Za (Zm (Z2 (K:=K) rfl) (by rfl) T.zki PyProof.Rows.boot_isinstance (Za (pv 3) (Za (Xr rfl T.zqf) Zb))) Zb)))))
  (Zc (pS 2 Yi.nd (Zv Sr (pv 2) (Z7 (Za (Zm (Z2 (K:=K) rfl) (by rfl) T.zki PyProof.Rows.boot_isinstance (Za (pv 3) (Za (Xr rfl T.zqe) Zb))) (Za (Zm (Z2 (K:=K) rfl) (by rfl) T.zki PyProof.Rows.boot_isinstance (Za (pv 3) (Za (Xr rfl T.zqx) Zb))) Zb)))))
  (Zc (pS 2 Yi.nd (Zv Sr (pv 2) (Z7 (Za (Zm (Z2 (K:=K) rfl) (by rfl) T.zki PyProof.Rows.boot_isinstance (Za (pv 3) (Za (Xr rfl T.zqq) Zb))) (Za (Zm (Z2 (K:=K) rfl) (by rfl) T.zki PyProof.Rows.boot_isinstance (Za (pv 3) (Za (Xr rfl T.zoc) Zb))) Zb)))))
  (Ze (pS 2 Yi.nd (Zv Sr (pv 2) (Z7 (Za (Zm (Z2 (K:=K) rfl) (by rfl) T.zki PyProof.Rows.boot_isinstance (Za (pv 3) (Za (Xr rfl T.zpu) Zb))) (Za (Zm (Z2 (K:=K) rfl) (by rfl) T.zki PyProof.Rows.boot_isinstance (Za (pv 3) (Za (Va rfl T.zmg PyProof.Rows.Boot.«ValueError» (show RelV (.ty "ValueError") _ from rfl)) Zb))) Zb)))))))))))))))
 (Zc (pS 4 Yi.nd Zs)
 (Zc (pS 4 Yi.nd (Zv Gn (pv 4) Zs))
 (Zc (pS 4 Yi.nd (zck PySem.F.plainAttrs_str PySem.F.slot_str_split PySem.F.type_str_split zd1 (Zv Gn (pv 4) Zs) (Za Zs Zb)))
 (Ze (Zn (Yk (Za Zs (Za (V6 rfl (cT ["_law_words","_law_names"] [4,2]) (Wd rfl T.zln (Za Zh Zb)) (fun _ _ _ _ _=>Lh (Y4 (pI (iL K) (pv 2) (pv 0)))) (fun _ _ _ _ _=>(pI (iL K) (pv 1) (pv 0)))) Zb)))))))))),?_⟩
 show let y1:TS:=_;let y2:TS:=Z5 _ y1;let y3:TS:=Z5 _ y2;let y4:TS:=Z5 _ y3;let y5:TS:=Z5 _ y4;Z5 _ y5 _ _ _;intro y1 y2 y3 y4 y5;refine⟨by show 0<=sizeLine;decide,fun l0 hl0=>?_⟩;have s0:Same H (upd H l0 (.lst [])):=Zf hl0;generalize upd H l0 (.lst [])=H0 at s0;refine⟨_,rfl,_,rfl,A',S,t,d,rfl,SA.same s0,hd.same s0,sd,co,po,hz,hoz,htot,hl,hol,hbk,fun r hr H1 s1=>?_,fun hn v A2 S2 H1 af SA2 nx fr fl=>?_⟩
 ·have hne:=zd3 hr;have ei:=T.ei r hne;refine⟨_,rfl,T.mB r hne,fun e he=>?_⟩;have s2:=s0.trans (s1.trans (Zf (o:=excO e (.ref (r.cls (ca a)))) he));have hx:upd H1 e (excO e (.ref (r.cls (ca a)))) e=some (excO e (.ref (r.cls (ca a)))):=Zd;generalize upd H1 e (excO e (.ref (r.cls (ca a))))=H2 at s2 hx;refine⟨_,rfl,_,_,_,_,rfl,.exc rfl rfl hx ei,.inr ⟨_,rfl⟩,T.kit r .out hne,_,rfl,_,_,_,_,rfl,.exc rfl rfl hx ei,.inr ⟨_,rfl⟩,T.kit r .known hne,sz2,fun l1 hl1=>?_⟩;have s3:=s2.trans (Zf (o:=.lst [.bl (decide (r=.out)),.bl (decide (r=.known))]) hl1);have q3:upd H2 l1 (.lst [.bl (decide (r=.out)),.bl (decide (r=.known))]) l1=some (.lst [.bl (decide (r=.out)),.bl (decide (r=.known))]):=Zd;have x3:=Zf (o:=.lst [.bl (decide (r=.out)),.bl (decide (r=.known))]) hl1 _ _ hx;generalize upd H2 l1 (.lst [.bl (decide (r=.out)),.bl (decide (r=.known))])=H3 at s3 q3 x3;walk_at "if";refine cat2 x3 q3 (by show 2<=100;decide) ei (T.kit r .many hne) (T.kit r .unk hne) fun l2 H4 q4 x4 s4=>?_;refine cat2 x4 q4 (by show 4<=100;decide) ei (T.kit r .manyM hne) (T.kit r .same hne) fun l3 H5 q5 x5 s5=>?_;refine cat2 x5 q5 (by show 6<=100;decide) ei (T.kit r .noMatch hne) (T.kit r .noRound hne) fun l4 H6 q6 x6 s6=>?_;refine cat2 x6 q6 (by show 8<=100;decide) ei (T.kit r .over hne) (T.kit r .seaOver hne) fun l5 H7 q7 x7 s7=>?_;refine cat2 x7 q7 (by show 10<=100;decide) ei (T.kit r .away hne) (T.kit r .drawn hne) fun l6 H8 q8 x8 s8=>?_;refine cat2 x8 q8 (by show 12<=100;decide) ei (T.kit r .notDrawn hne) (T.kit r .nothing hne) fun l7 H9 q9 x9 s9=>?_;refine zi5 x9 q9 (by show 14<=100;decide) ei (T.kit r .manyD hne) (T.zqz r hne) fun l8 H10 q10 s10=>?_;have sA:=s3.trans (s4.trans (s5.trans (s6.trans (s7.trans (s8.trans (s9.trans s10))))))
  replace q10:H10 l8=some (.lst (refB r)):=q10
  refine⟨_,rfl,_,_,rfl,rfl,by decide +kernel,?_⟩;refine⟨_,rfl,_,_,rfl,rfl,by decide +kernel,rfl,_,_,rfl,rfl,by decide +kernel,by decide +kernel,by decide +kernel,by decide +kernel,by decide +kernel,fun lw hlw=>?_⟩;rw[zbo];have s11:=sA.trans (Zf (o:=.lst (refW.map V.str)) hlw);have q11:upd H10 lw (.lst (refW.map V.str)) lw=some (.lst (refW.map V.str)):=Zd;have b11:=Zf (o:=.lst (refW.map V.str)) hlw _ _ q10;generalize upd H10 lw (.lst (refW.map V.str))=H11 at s11 q11 b11;refine⟨_,rfl,by decide,by decide,?_⟩;refine Fj (refP r) (fun i=>V.str (refW.getD i "")) ⋯ (fun j R hj k'=>?_) (fun j R hj _ k'=>?_) (fun lz flz=>?_)
  ·rw[zuq];exact⟨_,rfl,_,rfl,l8,_,_,_,rfl,rfl,SqL.of b11,Ye (zd4 r hj),_,rfl,k'⟩
  ·rw[zuq];exact⟨_,rfl,_,rfl,lw,_,_,_,rfl,rfl,SqL.of q11,Ye (zd5 hj),k'⟩
  rw[show Int.toNat 16=16 from rfl,zbn];have s12:=s11.trans (Zf (o:=.lst [.str r.name,.str "ValueError"]) flz);have q12:upd H11 lz (.lst [.str r.name,.str "ValueError"]) lz=some (.lst [.str r.name,.str "ValueError"]):=Zd;generalize upd H11 lz (.lst [.str r.name,.str "ValueError"])=H12 at s12 q12;refine⟨sz2,fun u hu'=>hE r hr u lz _ Zd (Zf hu' _ _ q12) (s12.trans (Zf hu')) (s12.free hu')⟩
 ·refine⟨sz2,fun u hu'=>?_⟩;have s1:=Zf (o:=HO.tup [V.str "told",v]) hu';exact h hn u v A2 S2 _ Zd (af.same s1) (SA2.same s1) (nx.back s0) ((FrS.of A' s0).trans (fr.trans (FrS.of A' s1))) (SA2.newOk u hu')
abbrev Te:Stmt:=top 74
theorem Ww:Zl ["_law_matches_here","_law_home","_law_guest","_law_grade"] ["_law_matches_here"] (Zj Te):=fnS
theorem Ld(F:Fun K "_law_due_draw" "_law_due_draw" Te f fd)(T:Tx K mg a):FnOk P w K mg base (CX1 P w) 1 f fd ["_law_matches_here"] (Gq K):=by
 refine F.okX Ww ⋯ fun _ _ _ _ H _ Q E hr h=>?_;obtain⟨l,ts,ms,rfl,hl,tl,hml,h⟩:=h;refine⟨_,(Zc (Zz (Zo Ri (Zm (cL K) (by rfl) T.zk5 PySem.boot_len (Za (pv 0) Zb)) Zh (Zr _))
  (Ze (Zn Zs))
  Zp)
 (Zc (Xf PassesOwn.leaving rfl (Yr (K:=K) rfl (pv 0)) (Wt (K:=K) (n:=3) rfl rfl (Z1 (pN 1 Ww.nd) (Z1 (pN 2 Ww.nd) (Z1 (pN 3 Ww.nd) Wq))))
  (Ze (Zz (PW.pt (Wl (Zo Iw (Zm (za0 rfl) (by rfl) T.zqi PyProof.Rows.boot_min (Za (pv 1) (Za (pv 2) (Za (pv 3) Zb)))) Zh (Zr _)) (Wl (Zo Ri (Zm (O7 rfl) (by rfl) T.zpt PyProof.Rows.boot_max (Za (pv 1) (Za (pv 2) Zb))) Zh (Zr _)) (X2 (Zo Ri (pv 3) Zh (Zr _))))))
   (Ze (Zn Zs))
   Zp)))
 (Ze (Zn (pI (iL K) (Z7 (Za Zs (Za Zs Zb))) (Yv Ql (by rfl) T.zo0 PyProof.Rows.boot_int (Za (Zm (za1 (K:=K) rfl rfl) (by rfl) T.zqs PyProof.Rows.boot_any (Za (V6 rfl (cT [] []) (Yr (K:=K) rfl (pv 0)) (fun _ _ _ _ _=>V2) (fun _ _ _ _ _=>(Ug Y8 (pI (iU K) (pv 0) Zh) (pI (iU K) (pv 0) Zh) (Zr _)))) Zb)) Zb))))))),?_⟩
 have htl:ts.length=ms.length:=by rw[tl.length,zs3]
 have hh:=h;unfold Sy at hh
 haveI:Decidable (We ms):=Classical.propDecidable _
 refine Ys (X0 (b:=decide ((20:Int)<(ts.length:Int))) (fun Q q=>⟨_,rfl,l,ts,rfl,.inl (SqL.of hl),_,_,rfl,rfl,_,rfl,q⟩) (itB (fun hb=>?_) (fun hb=>Zu ?_)))
 ·have:=hh H (.refl _);have:=of_decide_eq_true hb;rw[if_pos ⋯] at *
  assumption
 have h1:¬ 20<ms.length:=by have:=of_decide_eq_false hb;omega
 dsimp only
 let jv2:Nat->L2.St->Hp->Prop:=fun i σ H'=>(∃ v1 v2 v3,σ=[some (.ref l),v1,v2,v3])/\H'=H/\∀ m∈ms.take i,¬ badM m
 refine⟨_,rfl,l,rfl,⟨_,SqL.of hl⟩,Wm (K:=K) (a:=l) (xs:=ts) jv2 ⟨⟨_,_,_,rfl⟩,rfl,by simp⟩ (fun i σ H' _ z=>by rw[z.2.1];exact SqL.of hl) ?_ ?_⟩
 ·rintro i x σ H' hx ⟨⟨v1,v2,v3,rfl⟩,rfl,hg⟩;obtain⟨tp,m,rfl,hm,htm⟩:=Fi tl hx;refine⟨tp,_,rfl,SqT.of htm,rfl,_,_,rfl,_,_,rfl,_,_,rfl,rfl,?_⟩;walk_at "if";have etk:=Qt hm;refine X0 (b:=decide ((if m.2.1<m.1 then if m.2.2<m.2.1 then m.2.2 else m.2.1 else if m.2.2<m.1 then m.2.2 else m.1)<1)||(decide (99<(if m.2.1>m.1 then m.2.1 else m.1))||decide (9<m.2.2))) (Kb (fun Q q=>⟨_,rfl,_,rfl,_,rfl,_,_,_,rfl,_,_,rfl,rfl,_,rfl,q⟩) (Kb (fun Q q=>⟨_,rfl,_,rfl,_,_,rfl,_,_,rfl,rfl,_,rfl,q⟩) (fun Q q=>⟨_,rfl,_,_,rfl,rfl,_,rfl,q⟩))) (itB (fun hb=>?_) (fun hb=>Zu ?_))
  ·have:=hh H' (.refl _);have hbad:Vv ms:=⟨m,ztg hm,by
    rw[Bool.or_eq_true,Bool.or_eq_true,decide_eq_true_eq,decide_eq_true_eq,decide_eq_true_eq] at hb;unfold badM;rcases hb with z|z|z
    ·revert z;split<;>split<;>intro z<;>omega
    ·revert z;split<;>intro z<;>omega
    ·omega⟩
   rw[if_neg h1,if_pos hbad] at this;exact this
  ·refine⟨⟨_,_,_,rfl⟩,rfl,fun m' hm'=>?_⟩;rw[etk] at hm';rcases zth.mp hm' with z|z
   ·exact hg m' z
   ·rw[zs9.mp z];rw[Bool.or_eq_false_iff,Bool.or_eq_false_iff,decide_eq_false_iff_not,decide_eq_false_iff_not,decide_eq_false_iff_not] at hb;obtain⟨z1,z2,z3⟩:=hb;unfold badM
    revert z1 z2
    split<;>split<;>split<;>intro z1 z2<;>omega
 rintro σ H' ⟨⟨v1,v2,v3,rfl⟩,rfl,hg⟩;rw[htl,ztp] at hg;have h2:¬ Vv ms:=fun ⟨m,hm,hb⟩=>hg m hm hb;dsimp only;refine⟨sz2,fun l1 f1=>?_⟩;have s1:=Zf (o:=.lst [.str "",.str "SameClub"]) f1;have q1:=Zd (H:=H') (a:=l1) (o:=.lst [.str "",.str "SameClub"]);generalize upd H' l1 (.lst [.str "",.str "SameClub"])=H1 at s1 q1 ⊢;have tl1:=tl.same s1;refine⟨_,rfl,l,rfl,⟨_,SqL.of (s1 _ _ hl)⟩,Um (K:=K) (a:=l) (xs:=ts) (fun i ys Hy=>Hy=H1/\ys=((ms.take i).map fun m=>decide (m.1=m.2.1)).map V.bl) ⟨rfl,rfl⟩ (fun i ys Hy _ z=>by rw[z.1];exact SqL.of (s1 _ _ hl)) (szN ⋯) (fun i ys Hy z=>by rw[z.2,zs3,zs3];exact List.length_take_le _ _) ?_ ?_⟩
 ·rintro i x ys Hy hx ⟨rfl,rfl⟩;obtain⟨tp,m,rfl,hm,htm⟩:=Fi tl1 hx;unfold tYes;dsimp only;rw[if_pos rfl];refine⟨_,rfl,tp,_,_,_,rfl,rfl,SqT.of htm,(show atI (pV m) 0=some _ from rfl),_,rfl,tp,_,_,_,rfl,rfl,SqT.of htm,(show atI (pV m) 1=some _ from rfl),rfl,rfl,?_⟩;rw[Qt hm,ztl,ztl];have e:decide (V.int m.1=V.int m.2.1)=decide (m.1=m.2.1):=decide_eq_decide.mpr ⟨fun z=>V.int.inj z,fun z=>by rw[z]⟩;rw[e];rfl
 rintro ys Hy ⟨rfl,rfl⟩ lb flb;rw[htl,ztp];refine⟨lb,_,rfl,SqL.of Zd,.inr ⟨_,rfl,l1,_,_,_,rfl,rfl,SqL.of (Zf flb _ _ q1),Lo _,?_⟩⟩;have:=hh _ (s1.trans (Zf (o:=.lst ((ms.map fun m=>decide (m.1=m.2.1)).map V.bl)) flb));rw[if_neg h1,if_neg h2] at this;have e:(List.map (fun m:P3=>decide (m.1=m.2.1)) ms).any id=decide (We ms):=by
  by_cases hs:We ms
  ·rw[zs6 hs,zuu];obtain⟨m,hm,z⟩:=hs;exact⟨true,ztd.mpr ⟨m,hm,zs6 z⟩,rfl⟩
  ·rw[ztc hs,Bool.eq_false_iff];intro z;obtain⟨b,hb,hb2⟩:=zuu.mp z;obtain⟨m,hm,rfl⟩:=ztd.mp hb;exact hs ⟨m,hm,of_decide_eq_true hb2⟩
 rw[e];by_cases hk:We ms
 ·rw[if_pos hk] at this;rw[zs6 hk];exact this
 ·rw[if_neg hk] at this;rw[ztc hk];exact this
abbrev T8:Stmt:=top 75
theorem Vn:Zl ["_law_match","_law_cell_here","_law_home","_law_guest","_law_grade"] ["_law_match","_law_cell_here"] (Zj T8):=fnS
theorem Jn(F:Fun K "_law_spoiled" "_law_spoiled" T8 f fd)(T:Tx K mg a):FnOk P w K mg base (CX1 P w) 1 f fd ["_law_match","_law_cell_here"] (Gs K):=by
 refine F.okX Vn ⋯ fun _ _ _ _ H _ Q E hr h=>?_;obtain⟨t,m,c,rfl,ht,hs,h⟩:=h;refine⟨_,(Zc (Cs (pv 0) (Wt (K:=K) (n:=3) rfl rfl (Z1 (pN 2 Vn.nd) (Z1 (pN 3 Vn.nd) (Z1 (pN 4 Vn.nd) Wq)))))
 (Zc (Zz (Zo Y8 (Zv Y5 (pv 1) Zh) Zh (Zr _))
  (Ze (Zn (Yk (Za (pv 2) (Za (pv 2) (Za (pv 4) Zb))))))
  Zp)
 (Zc (Zz (Zo Y8 (Zv Y5 (pv 1) Zh) Zh (Zr _))
  (Ze (Zn (Yk (Za (pv 2) (Za (pv 3) (Za (pI (iL K) (Z7 (Za Zh (Za Zh (Za (B3 G2 Zh) (Za (Zv Cu Zh Zh) Zb))))) (Zv Y5 (Zv Xk (pv 1) Zh) Zh)) Zb))))))
  Zp)
 (Zc (Zz (PW.pt (O5 (Zo Y8 (Zv Y5 (pv 1) Zh) Zh (Zr _)) (Qk (Zo Y8 (Zv Y5 (Zv Xk (pv 1) Zh) Zh) Zh (Zr _)))))
  (Ze (Zn (Yk (Za (pI (iL K) (Z7 (Za Zh (Za Zh (Za (B3 G2 Zh) (Za (Zv Cu Zh Zh) Zb))))) (Zv Y5 (Zv Xk (pv 1) Zh) Zh)) (Za (pv 3) (Za (pv 4) Zb))))))
  Zp)
 (Zc (Zz (Zo Y8 (Zv Y5 (pv 1) Zh) Zh (Zr _))
  (Ze (Zn (Yk (Za (pv 2) (Za (pI (iL K) (Z7 (Za Zh (Za Zh (Za (B3 G2 Zh) (Za (Zv Cu Zh Zh) Zb))))) (Zv Y5 (Zv Xk (pv 1) Zh) Zh)) (Za (pv 4) Zb))))))
  Zp)
 (Ze (Zn (pv 0)))))))),?_⟩
 show let y1:TS:=_;let y2:TS:=Z5 _ y1;let y3:TS:=Z5 _ y2;let y4:TS:=Z5 _ y3;let y5:TS:=Z5 _ y4;Z5 _ y5 _ _ _;intro y1 y2 y3 y4 y5;refine⟨_,rfl,t,_,rfl,SqT.of ht,rfl,_,_,rfl,_,_,rfl,_,_,rfl,rfl,?_⟩;walk_at "if";have hr:∀ i:Nat,∀ ls:List Int,ls.length=4->(∀ x∈ls,Yg x)->i<4->∃ x,atI (ls.map V.int) (i:Int)=some (.int x)/\Yg x:=fun i ls hl hx hi=>⟨ls[i]'⋯,Ye (by rw[zta,zs4 ⋯];rfl),hx _ (ztz _)⟩
 refine Ys (X0 (b:=decide (V.int (c%4)=V.int 1)) (fun Q q=>⟨_,rfl,_,_,rfl,rfl,⋯,rfl,_,rfl,q⟩) (itB (fun hb=>?_) (fun hb=>Zu ?_)))
 ·refine⟨_,rfl,_,rfl,_,rfl,(by show 3<=sizeLine;rw[sizeLine_eq];decide),fun t1 f1=>?_⟩;exact h t1 (m.1,m.1,m.2.2) _ Zd ⟨hs.1,hs.1,hs.2.2⟩ (Zf f1)
 dsimp only;have b40:Yg (10 ^ (40:Int).toNat):=by unfold Yg;decide +kernel
 have b30:Yg (10 ^ (30:Int).toNat):=by unfold Yg;decide +kernel
 obtain⟨k,hk,hk4⟩:∃ k:Nat,c/4%4=(k:Int)/\k<4:=⟨(c/4%4).toNat,by omega,by omega⟩;obtain⟨x1,hx1,sx1⟩:=hr k [0,10,-1,10 ^ (30:Int).toNat] rfl (fun x hx=>by
  simp only[zs7,zt1,or_false] at hx;rcases hx with rfl|rfl|rfl|rfl
  ·exact Ya ⋯ ⋯
  ·exact Ya ⋯ ⋯
  ·exact Ya ⋯ ⋯
  ·exact b30) hk4
 obtain⟨x2,hx2,sx2⟩:=hr k [0,100,-5,10 ^ (40:Int).toNat] rfl (fun x hx=>by
  simp only[zs7,zt1,or_false] at hx;rcases hx with rfl|rfl|rfl|rfl
  ·exact Ya ⋯ ⋯
  ·exact Ya ⋯ ⋯
  ·exact Ya ⋯ ⋯
  ·exact b40) hk4
 rw[<- hk] at hx1 hx2;refine Ys (X0 (b:=decide (V.int (c%4)=V.int 2)) (fun Q q=>⟨_,rfl,_,_,rfl,rfl,⋯,rfl,_,rfl,q⟩) (itB (fun hb=>?_) (fun hb=>Zu ?_)))
 ·refine⟨_,rfl,_,rfl,_,rfl,_,_,rfl,rfl,⟨by decide,by decide,by decide⟩,sz4,fun l1 f1=>?_⟩;have s1:=Zf (o:=.lst [.int 0,.int 10,.int (-1),.int (10 ^ (30:Int).toNat)]) f1;have q1:=Zd (H:=H) (a:=l1) (o:=.lst [.int 0,.int 10,.int (-1),.int (10 ^ (30:Int).toNat)]);generalize upd H l1 (.lst [.int 0,.int 10,.int (-1),.int (10 ^ (30:Int).toNat)])=H1 at s1 q1 ⊢;refine⟨_,rfl,_,_,rfl,rfl,⟨by decide,by decide⟩,_,_,rfl,rfl,⋯,l1,_,_,_,rfl,rfl,SqL.of q1,hx1,(by show 3<=sizeLine;rw[sizeLine_eq];decide),fun t1 f1=>?_⟩;exact h t1 (m.1,m.2.1,x1) _ Zd ⟨hs.1,hs.2.1,sx1⟩ (s1.trans (Zf f1))
 dsimp only;refine Ys (X0 (b:=decide (V.int (c%4)=V.int 3)&&decide (V.int (c/16%2)=V.int 0)) (za6 (fun Q q=>⟨_,rfl,_,_,rfl,rfl,⋯,rfl,_,rfl,q⟩) (fun Q q=>⟨_,rfl,_,_,rfl,rfl,⟨by decide,by decide⟩,_,_,rfl,rfl,⋯,rfl,_,rfl,q⟩)) (itB (fun hb=>?_) (fun hb=>Zu ?_)))
 ·refine⟨_,rfl,_,_,rfl,rfl,⟨by decide,by decide,by decide⟩,sz4,fun l1 f1=>?_⟩;have s1:=Zf (o:=.lst [.int 0,.int 100,.int (-5),.int (10 ^ (40:Int).toNat)]) f1;have q1:=Zd (H:=H) (a:=l1) (o:=.lst [.int 0,.int 100,.int (-5),.int (10 ^ (40:Int).toNat)]);generalize upd H l1 (.lst [.int 0,.int 100,.int (-5),.int (10 ^ (40:Int).toNat)])=H1 at s1 q1 ⊢;refine⟨_,rfl,_,_,rfl,rfl,⟨by decide,by decide⟩,_,_,rfl,rfl,⋯,l1,_,_,_,rfl,rfl,SqL.of q1,hx2,_,rfl,_,rfl,(by show 3<=sizeLine;rw[sizeLine_eq];decide),fun t1 f1=>?_⟩;exact h t1 (x2,m.2.1,m.2.2) _ Zd ⟨sx2,hs.2.1,hs.2.2⟩ (s1.trans (Zf f1))
 dsimp only;refine Ys (X0 (b:=decide (V.int (c%4)=V.int 3)) (fun Q q=>⟨_,rfl,_,_,rfl,rfl,⋯,rfl,_,rfl,q⟩) (itB (fun hb=>?_) (fun hb=>Zu ?_)))
 ·refine⟨_,rfl,_,rfl,_,_,rfl,rfl,⟨by decide,by decide,by decide⟩,sz4,fun l1 f1=>?_⟩;have s1:=Zf (o:=.lst [.int 0,.int 100,.int (-5),.int (10 ^ (40:Int).toNat)]) f1;have q1:=Zd (H:=H) (a:=l1) (o:=.lst [.int 0,.int 100,.int (-5),.int (10 ^ (40:Int).toNat)]);generalize upd H l1 (.lst [.int 0,.int 100,.int (-5),.int (10 ^ (40:Int).toNat)])=H1 at s1 q1 ⊢;refine⟨_,rfl,_,_,rfl,rfl,⟨by decide,by decide⟩,_,_,rfl,rfl,⋯,l1,_,_,_,rfl,rfl,SqL.of q1,hx2,_,rfl,(by show 3<=sizeLine;rw[sizeLine_eq];decide),fun t1 f1=>?_⟩;exact h t1 (m.1,x2,m.2.2) _ Zd ⟨hs.1,sx2,hs.2.2⟩ (s1.trans (Zf f1))
 exact⟨_,rfl,h t m H ht hs (.refl _)⟩
abbrev N5:Stmt:=top 77
theorem B0:Zl ["_law_state","_law_deed"] ["_law_state","_law_deed"] (Zj N5):=fnS
theorem B1(F:Fun K "_law_due" "_law_due" N5 f fd)(T:Tx K mg a)(znc:Z4 P w K mg base "_law_due_draw" 1 ["_law_matches_here"] (Gq K)):FnOk P w K mg base (CX1 P w) 2 f fd ["_law_state","_law_deed"] (zad K):=by
 refine F.okX B0 ⋯ fun _ _ _ _ H _ Q E hr h=>?_;obtain⟨ok,d,lv,t,v,S,D,n,rfl,X,hD,hdd,hdl,he,so,hn,h⟩:=h;have hu:=W8 hr;refine⟨_,(Zc (Zz (Zo Y8 (pI (iU K) (pv 1) Zh) Zs (Zr _))
  (Ze (Zn (pI (iL K) (Z7 (Za Zs (Za Zs Zb))) (Yv Ql (by rfl) T.zo0 PyProof.Rows.boot_int (Za (Ug To (pD hu (pv 0) Zs) Yu (Zr _)) Zb)))))
  Zp)
 (Zc (Zz (Zo Y8 (Zm (cL K) (by rfl) T.zk5 PySem.boot_len (Za (pD hu (pv 0) Zs) Zb)) (pD hu (pv 0) Zs) (Zr _))
  (Ze (Zn Zs))
  Zp)
 (Zc (Zz (Zo Y8 (pI (iU K) (pv 1) Zh) Zs (Zr _))
  (Ze (Zn (pI (iL K) (Z7 (Za Zs (Za Zs Zb))) (Yv Ql (by rfl) T.zo0 PyProof.Rows.boot_int (Za (Ug To (pD hu (pv 0) Zs) Yu (Zr _)) Zb)))))
  Zp)
 (Ze (Zn (pI (iL K) (Z7 (Za Zs (Za (pF znc hr (Za (pI (iU K) (pv 1) Zh) Zb)) Zb))) (Yv Ql (by rfl) T.zo0 PyProof.Rows.boot_int (Za (Ug To (pD hu (pv 0) Zs) Yu (Zr _)) Zb)))))))),?_⟩
 have gd:=X.dd;obtain⟨ls,v1,v2⟩:=X.vv;have hls:ls.length=S.led.length:=by rw[v2.length,so.olen]
 have hli:=Cd X.li;have hh:=h;obtain⟨rw,hw⟩:=hD.word;have hw0:atI (V.str (Vq D) :: rw) 0=some (V.str (Vq D)):=Ye (j:=0) rfl;refine Ys ?_;refine⟨_,rfl,t,_,_,_,rfl,rfl,SqT.of hw,hw0,rfl,_,rfl,?_⟩;by_cases hb:D=.back
 ·subst hb;rw[Gp];refine iteT ⟨sz2,fun l1 f1=>?_⟩;have s1:=Zf (o:=.lst [.str "",.str "NothingToTakeBack"]) f1;have q1:=Zd (H:=H) (a:=l1) (o:=.lst [.str "",.str "NothingToTakeBack"]);generalize upd H l1 (.lst [.str "",.str "NothingToTakeBack"])=H1 at s1 q1 ⊢;refine⟨_,rfl,d,_,rfl,DGet.k (k:=.inr "listed") (s1 _ _ gd),rfl,.inr ⟨_,rfl,l1,_,_,_,rfl,rfl,SqL.of q1,Lo _,?_⟩⟩;have:=hh _ s1;unfold dueW at this;simp only[refS] at this;rw[hli];rcases he.st with ⟨e1,e2⟩|⟨s,e1,e2⟩
  ·rw[if_pos e2] at this;rw[e1];exact this
  ·rw[if_neg (by rw[e2];exact nofun)] at this;rw[e1];exact this
 rw[zfe hb];refine iteF (Zu ?_);dsimp only;refine Ys (X0 (b:=decide (V.int (ls.length:Int)=V.int (S.len:Int))) (fun Q q=>⟨_,rfl,d,_,rfl,DGet.k (k:=.inr "over") gd,lv,ls,rfl,.inl (SqL.of v1),_,rfl,d,_,rfl,DGet.k (k:=.inr "rounds") gd,rfl,_,rfl,q⟩) (itB (fun hb'=>?_) (fun hb'=>Zu ?_)))
 ·have e0:S.len<=S.led.length:=by have:=V.int.inj (of_decide_eq_true hb');omega
  have:=hh H (.refl _);have er:refS S D=some .seaOver:=by
   rcases hdd with ⟨ms,rfl⟩|rfl|rfl
   ·exact if_pos e0
   ·exact if_pos e0
   ·exact absurd rfl hb
  rw[Nm er] at this;exact this
 have e0:¬ S.len<=S.led.length:=fun z=>of_decide_eq_false hb' (congrArg V.int (by have:=so.len;omega));dsimp only;refine Ys ?_;refine⟨_,rfl,t,_,_,_,rfl,rfl,SqT.of hw,hw0,rfl,_,rfl,?_⟩;rcases hdd with ⟨ms,rfl⟩|rfl|rfl
 ·rw[show decide (V.str (Vq (.draw ms))=V.str "close")=false from Uy (show decide (("draw up":Str)="close")=false by decide +kernel)];refine iteF (Zu ?_);dsimp only;obtain⟨l,ts,ht,hl,tl,_⟩:∃ l ts,H t=some (.tup [.str "draw up",.ref l])/\H l=some (.lst ts)/\Z0 H ts (ms.map pV)/\True:=hD;have hst:S.std.length<100:=by have:=so.num;omega
  refine⟨_,rfl,t,_,_,_,rfl,rfl,SqT.of ht,rfl,l,ts,ms,rfl,hl,tl,hdl ms rfl,fun H1 s1=>⟨sz2,fun l1 f1=>?_⟩⟩;have s2:=s1.trans (Zf (o:=.lst [.str "DrawnUp",.str (Sy ms)]) f1);have q2:=Zd (H:=H1) (a:=l1) (o:=.lst [.str "DrawnUp",.str (Sy ms)]);generalize upd H1 l1 (.lst [.str "DrawnUp",.str (Sy ms)])=H2 at s2 q2 ⊢;refine⟨_,rfl,d,_,rfl,DGet.k (k:=.inr "listed") (s2 _ _ gd),rfl,.inr ⟨_,rfl,l1,_,_,_,rfl,rfl,SqL.of q2,Lo _,?_⟩⟩;have:=hh _ s2;rw[hli];cases hk:S.cur with
  | none =>
    rw[D7 e0 (by rw[hk];decide) hst] at this;exact this
  | some s =>
    have er:refS S (.draw ms)=some .drawn:=by
     simp only[refS];rw[if_neg e0,if_pos (by rw[hk];rfl)]
    rw[Nm er] at this;exact this
 ·rw[show decide (V.str (Vq .close)=V.str "close")=true from zs6 rfl];refine iteT ⟨sz2,fun l1 f1=>?_⟩;have s1:=Zf (o:=.lst [.str "",.str "NotDrawn"]) f1;have q1:=Zd (H:=H) (a:=l1) (o:=.lst [.str "",.str "NotDrawn"]);generalize upd H l1 (.lst [.str "",.str "NotDrawn"])=H1 at s1 q1 ⊢;refine⟨_,rfl,d,_,rfl,DGet.k (k:=.inr "listed") (s1 _ _ gd),rfl,.inr ⟨_,rfl,l1,_,_,_,rfl,rfl,SqL.of q1,Lo _,?_⟩⟩;have:=hh _ s1;unfold dueW at this;simp only[refS] at this;rw[if_neg e0] at this;rw[hli];cases hk:S.cur with
  | none=>rw[hk,if_pos rfl] at this;exact this
  | some s=>rw[if_neg (by rw[hk];exact nofun)] at this;exact this
 ·exact absurd rfl hb
abbrev P9:Stmt:=top 78
theorem Mg:Zl ["_law_state","_law_deed","_law_told","_law_at_here"] ["_law_state","_law_deed","_law_told"] (Zj P9):=fnS
theorem Cp(F:Fun K "_law_fits" "_law_fits" P9 f fd)(T:Tx K mg a)(zkw:Z4 P w K mg base "_law_one_is" 2 ["_law_found","_law_due_here"] Qo)(zlg:Z4 P w K mg base "_law_list_is" 3 ["_law_found","_law_due_here"] (Kd K))(zlu:Z4 P w K mg base "_law_deed_is" 3 ["_law_found","_law_due_here"] Kp):FnOk P w K mg base (CX1 P w) 4 f fd ["_law_state","_law_deed","_law_told"] (Ce K):=by
 refine F.okX Mg ⋯ fun _ _ _ _ H _ Q E hr h=>?_;obtain⟨ok,d,lv,t,v,w,S,S',D,n,rfl,X,hD,hdd,hdl,he,so,af,h⟩:=h;have hu:=W8 hr;refine⟨_,(Zc (pS 3 Mg.nd (Zv Wx (Zm (cL K) (by rfl) T.zk5 PySem.boot_len (Za (pD hu (pv 0) Zs) Zb)) Zh))
 (Zc (Zz (Zo Y8 (pI (iU K) (pv 1) Zh) Zs (Zr _))
  (Ze (Zn (pF zkw hr (Za (pv 2) (Za (pv 3) Zb)))))
  Zp)
 (Zc (Zz (Zo Y8 (pI (iU K) (pv 1) Zh) Zs (Zr _))
  (Ze (Zn (pF zlg hr (Za (pv 2) (Za (Zv Ba (Z7 (Za Yu Zb)) (Zm (cL K) (by rfl) T.zk5 PySem.boot_len (Za (pI (iU K) (pv 1) Zh) Zb))) Zb)))))
  Zp)
 (Ze (Zn (pF zlu hr (Za (pv 2) (Za (Yk (Za Zs (Za (Zm (cL K) (by rfl) T.zk5 PySem.boot_len (Za (pD hu (pv 0) Zs) Zb)) (Za (pv 3) Zb)))) Zb)))))))),?_⟩
 have gd:=X.dd;obtain⟨ls,v1,v2⟩:=X.vv;have hls:ls.length=S.led.length:=by rw[v2.length,so.olen]
 obtain⟨rw,hw⟩:=hD.word;have hw0:atI (V.str (Vq D) :: rw) 0=some (V.str (Vq D)):=Ye (j:=0) rfl;have hat:((ls.length:Int)+1)=atV S:=by rw[hls];rfl
 refine⟨_,rfl,d,_,rfl,DGet.k (k:=.inr "over") gd,lv,ls,rfl,.inl (SqL.of v1),_,_,rfl,rfl,?_⟩;walk_at "if";rw[hat];refine Ys ?_;refine⟨_,rfl,t,_,_,_,rfl,rfl,SqT.of hw,hw0,rfl,_,rfl,?_⟩;by_cases hc:D=.close
 ·subst hc;rw[show decide (V.str (Vq .close)=V.str "close")=true from zs6 rfl];cases af with
  | close hs=>exact iteT ⟨_,rfl,_,rfl,.int (atV S),rfl,.inr ⟨_,rfl⟩,h H (.refl _)⟩
 have e2:decide (V.str (Vq D)=V.str "close")=false:=by
  rcases hdd with ⟨ms,rfl⟩|rfl|rfl
  ·exact Uy (show decide (("draw up":Str)="close")=false by decide +kernel)
  ·exact absurd rfl hc
  ·exact Uy (show decide (("take back":Str)="close")=false by decide +kernel)
 rw[e2];refine iteF (Zu ?_);dsimp only;refine Ys ?_;refine⟨_,rfl,t,_,_,_,rfl,rfl,SqT.of hw,hw0,rfl,_,rfl,?_⟩;rcases hdd with ⟨ms,rfl⟩|rfl|rfl
 ·rw[show decide (V.str (Vq (.draw ms))=V.str "draw up")=true from zs6 rfl];obtain⟨l,ts,ht,hl,tl,_⟩:∃ l ts,H t=some (.tup [.str "draw up",.ref l])/\H l=some (.lst ts)/\Z0 H ts (ms.map pV)/\True:=hD;have htl:ts.length=ms.length:=by rw[tl.length,zs3]
  have hm20:=hdl ms rfl;cases af with
  | @draw _ gv lw hlw F T =>
    rw[Kt he.ppl] at F;have hgv:=Gy F;refine iteT ⟨_,rfl,sz1,fun l1 f1=>?_⟩;have s1:=Zf (o:=.lst [.non]) f1;have q1:=Zd (H:=H) (a:=l1) (o:=.lst [.non]);generalize upd H l1 (.lst [.non])=H1 at s1 q1 ⊢;refine⟨_,rfl,t,_,_,_,rfl,rfl,SqT.of (s1 _ _ ht),rfl,l,ts,rfl,.inl (SqL.of (s1 _ _ hl)),l1,(ts.length:Int),[.non],rfl,rfl,q1,by omega,by omega,(by rw[ztq];show 1*ts.length<=sizeLine;exact szN ⋯),fun l2 f2=>?_⟩;rw[ztq,List.flatten_replicate_singleton,htl,<- hgv];have s2:=Zf (o:=.lst gv) f2;exact⟨lw,l2,gv,rfl,s2 _ _ (s1 _ _ hlw),SqL.of Zd,F.one,(by rw[F.len,zs3];omega),h _ (s1.trans s2)⟩
 ·exact absurd rfl hc
 ·rw[show decide (V.str (Vq .back)=V.str "draw up")=false from Uy (show decide (("take back":Str)="draw up")=false by decide +kernel)];refine iteF (Zu ?_);dsimp only;cases af with
  | @back S0 dd tt hs ht hst =>
    rcases he.st with ⟨_,e2⟩|⟨s,e1,e2⟩
    ·rw[e2] at hs;exact absurd hs.symm (by simp)
    ·have hdv:dd=(("draw up":Str),(s.ms.length:Int),atV S):=by
      rw[e2] at hs;cases hq:S'.std with
      | nil=>rw[hq,zu2] at hs;exact(Prod.mk.inj (List.cons.inj hs).1).1.symm
      | cons x r=>rw[hq] at hs;have:=congrArg List.length hs;simp at this
     have hli:=X.li;rw[e1] at hli;obtain⟨l,ts,rfl,hl,tl,_⟩:∃ l ts,v=.ref l/\H l=some (.lst ts)/\Z0 H ts (s.ms.map pV)/\ok l:=hli;have htl:ts.length=s.ms.length:=by rw[tl.length,zs3]
     refine⟨_,rfl,_,rfl,d,_,rfl,DGet.k (k:=.inr "listed") gd,l,ts,rfl,.inl (SqL.of hl),_,rfl,(by show 3<=sizeLine;rw[sizeLine_eq];decide),fun t2 f2=>?_⟩;rw[htl];have s2:=Zf (o:=.tup [.str "draw up",.int (s.ms.length:Int),.int (atV S)]) f2;exact⟨tt,t2,dd,rfl,s2 _ _ ht,(by rw[hdv];exact Zd),h _ s2⟩
abbrev Qi:Stmt:=top 76
theorem Rg:Zl ["_law_cell_here","_law_clubs_here","_law_mixed","_law_matches_here","_law_k"] ["_law_cell_here","_law_clubs_here","_law_mixed"] (Zj Qi):=fnS
theorem F7(F:Fun K "_law_drawn" "_law_drawn" Qi f fd)(T:Tx K mg a)(znp:Z4 P w K mg base "_law_matches" 2 ["_law_cell_here","_law_clubs_here","_law_most","_law_mixed"] (Mf K))(zny:Z4 P w K mg base "_law_spoiled" 1 ["_law_match","_law_cell_here"] (Gs K)):FnOk P w K mg base (CX1 P w) 3 f fd ["_law_cell_here","_law_clubs_here","_law_mixed"] (Gx K):=by
 refine F.okX Rg ⋯ fun _ _ _ _ H _ Q E hr h=>?_;obtain⟨b,ns,cell,mixed,rfl,hb,hl1,hl2,nd,rng,hmx,h⟩:=h;refine⟨_,(Zc (pS 3 Rg.nd (pF znp hr (Za (pv 0) (Za (pv 1) (Za Zh (Za (pv 2) Zb))))))
 (Zc (Xf PassesOwn.leaving rfl (Yr (K:=K) rfl (zci (zcw (K:=K) rfl) (Z7 (Za (Zv Y5 (Zv Xk (pv 0) Zh) (Zm (O7 rfl) (by rfl) T.zpt PyProof.Rows.boot_max (Za Zh (Za (Zm (cL K) (by rfl) T.zk5 PySem.boot_len (Za (pv 3) Zb)) Zb)))) Zb)) zes (zet (Zm (cL K) (by rfl) T.zk5 PySem.boot_len (Za (pv 3) Zb))))) (pN 4 Rg.nd)
  (Ze (Zz (Zo Y8 (Zv Y5 (Zv Xk (pv 0) Zh) Zh) Zh (Zr _))
   (Ze (Cs (pF zny hr (Za (pI (iL K) (pv 3) (pv 4)) (Za (Zv Xk (pv 0) Zh) Zb))) (zb2 (pv 3) (pv 4) En)))
   Zp)))
 (Ze (Zn (Yk (Za Zs (Za (pv 3) Zb))))))),?_⟩
 refine⟨_,rfl,_,rfl,_,rfl,b,ns,cell,22,mixed,rfl,hb,hl1,hl2,nd,rng,by decide,hmx,fun r ts0 ms0 H1 hr0 tl0 hml0 gm s1 fr=>?_⟩;have htl0:ts0.length=ms0.length:=by rw[tl0.length,zs3]
 walk_at "if";obtain⟨mx,hmx',hm1,hm2⟩:∃ mx:Int,(if (ts0.length:Int)>1 then (ts0.length:Int) else 1)=mx/\1<=mx/\(0<ts0.length->mx=ts0.length):=⟨_,rfl,by split<;>omega,fun z=>by split<;>omega⟩;refine⟨_,rfl,_,_,rfl,rfl,⟨by decide,by decide⟩,_,rfl,r,ts0,rfl,.inl (SqL.of hr0),1,(ts0.length:Int),rfl,_,_,rfl,rfl,(by rw[hmx'];omega),sz1,fun l1 f1=>?_⟩;rw[hmx'];have x0:=zur (cell/23) (show mx≠0 by omega);have x1:=zuj (cell/23) (show 0<mx by omega);generalize cell/23%mx=x at x0 x1 ⊢;have s2:=Zf (o:=.lst [.int x]) f1;have q2:=Zd (H:=H1) (a:=l1) (o:=.lst [.int x]);generalize upd H1 l1 (.lst [.int x])=H2 at s2 q2 ⊢;refine⟨_,rfl,r,ts0,rfl,.inl (SqL.of (s2 _ _ hr0)),_,rfl,l1,_,rfl,SqL.of q2,fun l2 f2=>?_⟩;rw[ze7];have s3:=s2.trans (Zf (o:=.lst ([V.int x].take ts0.length)) f2);have q3:=Zd (H:=H2) (a:=l2) (o:=.lst ([V.int x].take ts0.length));generalize upd H2 l2 (.lst ([V.int x].take ts0.length))=H3 at s3 q3 ⊢;have nr2:l2≠r:=(Zg (s2 _ _ hr0) f2).symm;have gsm:∀ m∈ms0,Ua m:=fun m hm=>Cc (gm.1 m hm)
 let jv1:Nat->L2.St->Hp->Prop:=fun i σ H'=>(∃ v,σ=[some (.int cell),some (.ref b),some (.int mixed),some (.ref r),v])/\(∀ y o,H3 y=some o->y≠r->H' y=some o)/\∃ ts ms,H' r=some (.lst ts)/\Z0 H' ts ((ms:List P3).map pV)/\ms.length=ms0.length/\∀ m∈ms,Ua m
 refine⟨l2,rfl,⟨_,SqL.of q3⟩,Wm (K:=K) (a:=l2) (xs:=[V.int x].take ts0.length) jv1 ⟨⟨_,rfl⟩,fun _ _ e _=>e,ts0,ms0,s3 _ _ hr0,tl0.same s3,rfl,gsm⟩ (fun i σ H' _ ⟨_,z,_⟩=>SqL.of (z _ _ q3 nr2)) ?_ ?_⟩
 ·rintro i y σ H4 hy ⟨⟨v,rfl⟩,kp,ts,ms,hts,tl,hmsl,hsm⟩;have hpos:0<ts0.length:=by
   rcases Nat.eq_zero_or_pos ts0.length with z|z
   ·rw[z] at hy;cases hy
   ·exact z
  have ey:y=.int x:=by
   have:=ztg hy;have:=List.mem_of_mem_take this;exact zs9.mp this
  subst ey;have htl:ts.length=ms.length:=by rw[tl.length,zs3]
  have hmm:=hm2 hpos;obtain⟨k,rfl⟩:∃ k:Nat,x=(k:Int):=⟨x.toNat,by omega⟩;have hk:k<ts.length:=by omega
  obtain⟨tm,m,ex,hm,htm⟩:=Fi tl (zs4 hk);have hti:ts[k]?=some (.ref tm):=by rw[zs4 hk,ex]
  walk_at "if";refine X0 (b:=decide (V.int (cell/7%7)=V.int 3)) (fun Q q=>⟨_,rfl,_,_,rfl,rfl,⟨by decide,by decide⟩,_,_,rfl,rfl,⋯,rfl,_,rfl,q⟩) (itB (fun hb=>?_) (fun hb=>Zu ⟨⟨_,rfl⟩,kp,ts,ms,hts,tl,hmsl,hsm⟩));refine⟨_,rfl,_,rfl,r,_,_,_,rfl,rfl,SqL.of hts,Ye hti,_,rfl,_,_,rfl,rfl,⟨by decide,by decide⟩,tm,m,_,rfl,htm,hsm m (ztg hm),fun t' m' H9 ht' sm' s9=>?_⟩;refine⟨_,rfl,_,rfl,r,ts,(k:Int),k,rfl,rfl,s9 _ _ hts,?_,?_⟩
  ·show ixN _ ((k:Nat):Int)=some _;unfold ixN;rw[if_pos ⋯,if_pos ⋯,ztq]
  have k10:∀ y o,H9 y=some o->y≠r->upd H9 r (.lst (ts.set k (.ref t'))) y=some o:=fun y o e n=>by rw[Zi n];exact e
  have kt10:∀ y ys,H9 y=some (.tup ys)->upd H9 r (.lst (ts.set k (.ref t'))) y=some (.tup ys):=fun y ys e=>k10 _ _ e (Yo e (s9 _ _ hts) (by intro z;cases z));refine⟨⟨_,rfl⟩,fun y o e n=>k10 _ _ (s9 _ _ (kp _ _ e n)) n,ts.set k (.ref t'),ms.set k m',Zd,?_,by rw[zuh];exact hmsl,fun y hy=>?_⟩
  ·rw[List.map_set];exact Z0.set (kt10 _ _ ht') k ((tl.same s9).mono kt10)
  ·rcases List.mem_or_eq_of_mem_set hy with z|z
   ·exact hsm y z
   ·rw[z];exact sm'
 ·rintro σ H4 ⟨⟨v,rfl⟩,kp,ts,ms,hts,tl,hmsl,hsm⟩;have s4:Same H H4:=fun y o e=>kp _ _ (s3 _ _ (s1 _ _ e)) (Zg e fr);refine⟨_,rfl,sz2,fun t ht=>?_⟩;have s5:=Zf (o:=.tup [.str "draw up",.ref r]) ht;exact h t r ts ms _ Zd (s5 _ _ hts) (tl.same s5) ⋯ hsm (s4.trans s5) (s4.free ht) fr
abbrev Rh:Stmt:=top 79
theorem Xx:Zl ["_law_season","_law_state","_law_at_here","_law_facts","_law_k","_law_due_here","_law_found"] ["_law_season","_law_state"] (Zj Rh):=fnS
theorem Ir(F:Fun K "_law_stands" "_law_stands" Rh f fd)(T:Tx K mg a)(zm8:Zt P w K mg base a.zkd "facts" 3 ["self"] (Gm (ca a)))(zkw:Z4 P w K mg base "_law_one_is" 2 ["_law_found","_law_due_here"] Qo)(zkg:Zt P w K mg base a.zkd "at_hand" 2 ["self"] (Vd (ca a)))(zmj:Z4 P w K mg base "_law_rows_are" 4 ["_law_found","_law_due_here"] (Ho K))(zmb:Z4 P w K mg base "_law_deeds_are" 4 ["_law_found","_law_due_here"] (Kq K))(zmm:Zt P w K mg base a.zkd "deeds" 1 ["self"] (A6 (ca a)))(zmq:Zt P w K mg base a.zkd "matches" 4 ["self","at"] (Gi (ca a)))(zlg:Z4 P w K mg base "_law_list_is" 3 ["_law_found","_law_due_here"] (Kd K))(zns:Zt P w K mg base a.zkd "left" 4 ["self","at"] (D1 (ca a)))(zn6:Zt P w K mg base a.zkd "why" 4 ["self","at"] (zfs (ca a)))(znw:Zt P w K mg base a.zkd "goes" 4 ["self","at"] (zdq (ca a))):FnOk P w K mg base (CX1 P w) 5 f fd ["_law_season","_law_state"] (Ku K (ca a)):=by
 refine F.okX Xx ⋯ fun _ _ _ _ H _ Q E hr h=>?_;obtain⟨A',S,ok,d,lv,v,n,rfl,SA,X,he,so,hn,h⟩:=h;have hu:=W8 hr;refine⟨_,(Zc (pS 2 Xx.nd (Zv Wx (Zm (cL K) (by rfl) T.zk5 PySem.boot_len (Za (pD hu (pv 1) Zs) Zb)) Zh))
 (Zc (pS 3 Xx.nd (Yb (pv 0) T.zke zm8 (hr.mono ⋯) Zk))
 (Zc (Zz (PW.pt (Wl (Xa (Y4 (pF zkw hr (Za (Yb (pv 0) T.zke zkg (hr.mono ⋯) Zk) (Za (pv 2) Zb))))) (Wl (Xa (Y4 (Zm (Z2 (K:=K) rfl) (by rfl) T.zki PyProof.Rows.boot_isinstance (Za (pv 3) (Za (Va rfl T.zlx PyProof.Rows.boot_list (show RelV (.ty "list") _ from rfl)) Zb))))) (X2 (Zo Q4 (Zm (cL K) (by rfl) T.zk5 PySem.boot_len (Za (pv 3) Zb)) (Zv Ru (pv 2) Zh) (Zr _))))))
  (Ze (Zn X1))
  Zp)
 (Zc (Xf PassesOwn.leaving rfl (Wd rfl T.zln (Za (Zv Ru (pv 2) Zh) Zb)) (pN 4 Xx.nd)
  (Ze (Zz (Xa (Y4 (pF zmj hr (Za (pI (iL K) (pv 3) (pv 4)) (Za (R4 rfl (R1.mk (xo:=["_law_a","_law_b","_law_c"]) (ys:=[]) (js:=[]) rfl rfl ⋯ ⋯ rfl (by repeat' (first|exact True.intro|apply And.intro|rfl)) (by repeat' (first|exact True.intro|apply And.intro|rfl)) ⋯) (Yr (K:=K) rfl (pI (iL K) (pD hu (pv 1) Zs) (pv 4))) (fun _ _ _ _ _=>V2) (fun _ _ _ _ _=>(Wt (K:=K) (n:=3) rfl rfl (Z1 (Xy (i:=0) (show List.Nodup [("_law_a":Str),("_law_b":Str),("_law_c":Str)] by decide +kernel) rfl (by first|exact Or.inl rfl|exact Or.inr rfl)) (Z1 (Xy (i:=1) (show List.Nodup [("_law_a":Str),("_law_b":Str),("_law_c":Str)] by decide +kernel) rfl (by first|exact Or.inl rfl|exact Or.inr rfl)) (Z1 (Xy (i:=2) (show List.Nodup [("_law_a":Str),("_law_b":Str),("_law_c":Str)] by decide +kernel) rfl (by first|exact Or.inl rfl|exact Or.inr rfl)) Wq))))) (fun _ _ _ _ _=>(Yk (Za (pv 0) (Za (pv 1) (Za (pv 2) (Za Yu Zb))))))) Zb)))))
   (Ze (Zn X1))
   Zp)))
 (Zc (Zz (Zo To (pD hu (pv 1) Zs) Yu (Zr _))
  (Ze (Zn (pF zmb hr (Za (Yb (pv 0) T.zke zmm (hr.mono ⋯) Zk) (Za (Z7 Zb) Zb)))))
  Zp)
 (Zc (Zz (Xa (Y4 (pF zmb hr (Za (Yb (pv 0) T.zke zmm (hr.mono ⋯) Zk) (Za (Z7 (Za (Yk (Za Zs (Za (Zm (cL K) (by rfl) T.zk5 PySem.boot_len (Za (pD hu (pv 1) Zs) Zb)) (Za (pv 2) Zb)))) Zb)) Zb)))))
  (Ze (Zn X1))
  Zp)
 (Zc (pS 5 Xx.nd (Yv (Jz rfl) (by rfl) T.zlx PyProof.Rows.boot_list (Za (Yv zbq (by rfl) T.zln boot_range (Za (Zm (cL K) (by rfl) T.zk5 PySem.boot_len (Za (pD hu (pv 1) Zs) Zb)) Zb)) Zb)))
 (Zc (Zz (PW.pt (Wl (Xa (Y4 (pF zmj hr (Za (Yz (pv 0) T.zke zmq (hr.mono ⋯) Zk (Za (pv 2) Zb)) (Za (pD hu (pv 1) Zs) Zb))))) (X2 (Xa (Y4 (pF zlg hr (Za (Yz (pv 0) T.zke zns (hr.mono ⋯) Zk (Za (pv 2) Zb)) (Za (pv 5) Zb))))))))
  (Ze (Zn X1))
  Zp)
 (Zc (pS 6 Xx.nd (Yz (pv 0) T.zke zn6 (hr.mono ⋯) Zk (Za (pv 2) Zb)))
 (Zc (Zz (PW.pt (Wl (Xa (Y4 (Zm (Z2 (K:=K) rfl) (by rfl) T.zki PyProof.Rows.boot_isinstance (Za (pv 6) (Za (Va rfl T.znn PyProof.Rows.boot_tuple (show RelV (.ty "tuple") _ from rfl)) Zb))))) (Wl (Zo Q4 (Zm (cL K) (by rfl) T.zk5 PySem.boot_len (Za (pv 6) Zb)) Zh (Zr _)) (X2 (Xa (Y4 (pF zlg hr (Za (pI (iU K) (pv 6) Zh) (Za (pv 5) Zb)))))))))
  (Ze (Zn X1))
  Zp)
 (Ze (Zn (Lu (pF zlg hr (Za (pI (iU K) (pv 6) Zh) (Za (Z7 Zb) Zb))) (G1 (pF zlg hr (Za (Yz (pv 0) T.zke znw (hr.mono ⋯) Zk (Za (pv 2) Zb)) (Za (Zv Ba (Z7 (Za Yu Zb)) (Zm (cL K) (by rfl) T.zk5 PySem.boot_len (Za (pv 5) Zb))) Zb))))))))))))))))),?_⟩
 show let y1:TS:=_;let y2:TS:=Z5 _ y1;let y3:TS:=Z5 _ y2;let y4:TS:=Z5 _ y3;let y5:TS:=Z5 _ y4;let y6:TS:=Z5 _ y5;let y7:TS:=Z5 _ y6;let y8:TS:=Z5 _ y7;let y9:TS:=Z5 _ y8;let y10:TS:=Z5 _ y9;Z5 _ y10 _ _ _;intro y1 y2 y3 y4 y5 y6 y7 y8 y9 y10;have gd:=X.dd;obtain⟨ls,v1,v2⟩:=X.vv;have hli:=Cd X.li;have hlen:=so.len;have hnum:=so.num;have hols:=so.olen;have hls:ls.length=S.led.length:=by rw[v2.length,so.olen]
 have hat:((ls.length:Int)+1)=atV S:=by rw[hls];rfl
 have hatl:atV S-1=(S.led.length:Int):=by unfold atV;omega
 obtain⟨⟨dx,vv,ob,_⟩,_⟩:=id SA;refine⟨_,rfl,d,_,rfl,DGet.k (k:=.inr "over") gd,lv,ls,rfl,.inl (SqL.of v1),_,_,rfl,rfl,?_⟩;walk_at "if";rw[hat];refine⟨_,rfl,A'.p,dx,_,rfl,ob,Z8 ⋯,A',S,rfl,SA,by omega,fun lf lfs H1 hlf rlf s1 _ _=>?_⟩;have hlfl:=rlf.length;walk_at "if";refine Ys ?_;refine⟨_,rfl,A'.p,dx,_,rfl,s1 _ _ ob,Z8 ⋯,A',S,rfl,SA.same s1,_,rfl,.int (atV S),rfl,.inr ⟨_,rfl⟩,true,rfl,iteF ?_⟩;refine⟨_,rfl,_,_,_,_,rfl,.of (.lst hlf),.inl ⟨_,rfl⟩,Fe K,true,rfl,iteF ?_⟩;refine⟨_,rfl,lf,_,rfl,.inl (SqL.of hlf),_,rfl,_,_,rfl,rfl,rfl,false,?_,iteF (Zu ?_)⟩
 ·rw[hatl,zs3,hlfl];simp
 dsimp only;refine⟨_,rfl,_,_,rfl,rfl,_,rfl,by omega,by omega,?_⟩;rw[hatl,ztq]
 let jv1:Nat->L2.St->Hp->Prop:=fun i σ H'=>(∃ v4,σ=[some (.ref A'.p),some (.ref d),some (.int (atV S)),some (.ref lf),v4,none,none])/\Same H1 H'
 refine W7 jv1 ⟨⟨_,rfl⟩,.refl _⟩ ?_ ?_
 ·rintro i σ H2 hi ⟨⟨v4,rfl⟩,s2⟩;rw[zuq];have s12:=s1.trans s2;obtain⟨s,hs⟩:∃ s,S.old[i]?=some s:=⟨_,zs4 (show i<S.old.length by omega)⟩;have hsm:=ztg hs;have hrow:S.led[i]?=some (Xt s):=by rw[so.led,zta,hs];rfl
  obtain⟨lk,tk,hlk,hk,tlk⟩:=rlf.getR hrow;rw[zbs s (he.gv s (.inr hsm))] at tlk;obtain⟨l,ts,hll,hl,tl,_⟩:=v2.get hs;have hm20:=(so.old s hsm).1;have htl:ts.length=s.ms.length:=by rw[tl.length,zs3]
  walk_at "if";refine⟨_,rfl,_,rfl,lf,_,_,_,rfl,rfl,SqL.of (s2 _ _ hlf),Ye (show (lfs.map V.ref)[i]?=some (.ref lk) by rw[zta,hlk];rfl),?_⟩;refine⟨_,rfl,d,_,rfl,DGet.k (k:=.inr "over") (s12 _ _ gd),_,rfl,lv,_,_,_,rfl,rfl,SqL.of (s12 _ _ v1),Ye hll,l,rfl,⟨_,SqL.of (s12 _ _ hl)⟩,Pn (K:=K) (a:=l) (xs:=ts) (fun j ys H'=>Same H2 H'/\Z0 H' ys ((s.ms.take j).map fun m=>[.int m.1,.int m.2.1,.int m.2.2,.non])/\ys.length=j) ⟨.refl _,.nil,rfl⟩ (fun j ys H' _ ⟨z,_⟩=>SqL.of (z _ _ (s12 _ _ hl))) (szN ⋯) (fun j ys H' ⟨_,_,z⟩=>by omega) ?_ ?_⟩
  ·rintro j x ys H3 hx ⟨s3,tly,hyl⟩;obtain⟨t,m,rfl,hm,ht⟩:=Fi tl hx;refine⟨t,_,rfl,SqT.of (s3 _ _ (s12 _ _ ht)),rfl,_,_,rfl,_,_,rfl,_,_,rfl,rfl,⟨[some (.int m.1),some (.int m.2.1),some (.int m.2.2)],rfl,rfl⟩,?_⟩;unfold tYes;dsimp only;rw[if_pos rfl];refine⟨_,rfl,_,rfl,_,rfl,sz4,fun tt htt=>?_⟩;have s4:=Zf (o:=.tup [.int m.1,.int m.2.1,.int m.2.2,.non]) htt;refine⟨s3.trans s4,?_,by rw[zs8,hyl];rfl⟩;rw[Qt hm,ztl];exact Z0.snoc Zd (tly.same s4)
  ·rintro ys H3 ⟨s3,tly,hyl⟩ l7 f7;rw[htl,ztp] at tly;have s4:=Zf (o:=.lst ys) f7;have s24:=s3.trans s4;refine⟨lk,l7,tk,ys,_,rfl,s24 _ _ (s2 _ _ hk),SqL.of Zd,tlk.same (s2.trans s24),tly.same s4,fun r hr=>?_,by rw[zs3];omega,true,rfl,iteF (Zu ⟨⟨_,rfl⟩,s2.trans s24⟩)⟩;obtain⟨m,_,rfl⟩:=ztd.mp hr;exact⟨(by show 4<=1000;decide),fun x hx=>by
    simp only[zs7,zt1,or_false] at hx;rcases hx with rfl|rfl|rfl|rfl
    ·exact .inr ⟨_,rfl⟩
    ·exact .inr ⟨_,rfl⟩
    ·exact .inr ⟨_,rfl⟩
    ·exact .inl rfl⟩
 rintro σ H2 ⟨⟨v4,rfl⟩,s2⟩;have s12:=s1.trans s2;clear hlf rlf hlfl s1 s2;dsimp only;refine Ys ?_;refine⟨_,rfl,d,_,rfl,DGet.k (k:=.inr "listed") (s12 _ _ gd),rfl,_,rfl,?_⟩;rw[hli];rcases he.st with ⟨e1,e2⟩|⟨s,e1,e2⟩
 ·rw[e1];refine iteT ?_;refine⟨_,rfl,A'.p,dx,_,rfl,s12 _ _ ob,Z8 ⋯,A',S,rfl,SA.same s12,by omega,fun l6 ts6 H6 h6 tl6 s6 f6=>⟨ztt _,fun l7 f7=>?_⟩⟩;have s7:=Zf (o:=.lst []) f7;rw[e2] at tl6;exact⟨l6,l7,ts6,[],[],rfl,s7 _ _ h6,Zd,tl6.same s7,.nil,ztt _,h _ ((s12.trans s6).trans s7)⟩
 rw[e1];refine iteF (Zu ?_);dsimp only;have hli':=X.li;rw[e1] at hli';obtain⟨l,ts,ev,hl,tl,_⟩:∃ l ts,v=.ref l/\H l=some (.lst ts)/\Z0 H ts (s.ms.map pV)/\ok l:=hli';have htl:ts.length=s.ms.length:=by rw[tl.length,zs3]
 obtain⟨k1,k2,k3,k4,k5⟩:=so.cur s e1;have hgv:=he.gv s (.inl e1);have hmay:=k4.trans (Kt he.ppl s.ms);have hat60:Yg (atV S):=Ya ⋯ ⋯;refine Ys ?_;refine⟨_,rfl,A'.p,dx,_,rfl,s12 _ _ ob,Z8 ⋯,A',S,rfl,SA.same s12,by omega,fun l6 ts6 H6 h6 tl6 s6 f6=>?_⟩;have s16:=s12.trans s6;refine⟨_,rfl,d,_,rfl,DGet.k (k:=.inr "listed") (s16 _ _ gd),l,ts,by rw[ev],.inl (SqL.of (s16 _ _ hl)),_,rfl,(by show 3<=sizeLine;rw[sizeLine_eq];decide),fun t7 f7=>?_⟩;have s7:=Zf (o:=.tup [.str "draw up",.int (ts.length:Int),.int (atV S)]) f7;have q7:=Zd (H:=H6) (a:=t7) (o:=.tup [.str "draw up",.int (ts.length:Int),.int (atV S)]);generalize upd H6 t7 (.tup [.str "draw up",.int (ts.length:Int),.int (atV S)])=H7 at s7 q7 ⊢;refine⟨sz1,fun l8 f8=>?_⟩;have s8:=Zf (o:=.lst [.ref t7]) f8;have q8:=Zd (H:=H7) (a:=l8) (o:=.lst [.ref t7]);generalize upd H7 l8 (.lst [.ref t7])=H8 at s8 q8 ⊢;rw[e2] at tl6;rw[htl] at q7;refine⟨l6,l8,ts6,[.ref t7],[(("draw up":Str),(s.ms.length:Int),atV S)],rfl,s8 _ _ (s7 _ _ h6),q8,(tl6.same s7).same s8,.cons (s8 _ _ q7) .nil,(by show 1<=1000;decide),true,rfl,iteF (Zu ?_)⟩;have s18:=(s16.trans s7).trans s8;clear s12 s16 s7 s8 q7 q8 h6 tl6 s6;dsimp only;refine⟨_,rfl,d,_,rfl,DGet.k (k:=.inr "listed") (s18 _ _ gd),l,ts,by rw[ev],.inl (SqL.of (s18 _ _ hl)),_,rfl,fun r1 g1=>?_⟩;have u1:=s18.trans (Zf (o:=.rng 0 (ts.length:Int)) g1);have q1:=Zd (H:=H8) (a:=r1) (o:=.rng 0 (ts.length:Int));generalize upd H8 r1 (.rng 0 (ts.length:Int))=H9 at u1 q1 ⊢;have en:((ts.length:Int)-0).toNat=s.ms.length:=by omega
 refine⟨r1,0,(ts.length:Int),rfl,q1,⟨by decide,by decide,by omega,by omega⟩,by rw[en];omega,by rw[en];exact szN ⋯,fun l9 g2=>?_⟩;rw[en];have hrv:Ca 0 s.ms.length=Y9 (List.range s.ms.length):=by
  unfold Ca Y9;exact zuf fun i _=>by rw[zuq]
 rw[hrv];have u2:=u1.trans (Zf (o:=.lst (Y9 (List.range s.ms.length))) g2);have q2:=Zd (H:=H9) (a:=l9) (o:=.lst (Y9 (List.range s.ms.length)));generalize upd H9 l9 (.lst (Y9 (List.range s.ms.length)))=Ha at u2 q2 ⊢;walk_at "if";have hone:∀ x∈Y9 (List.range s.ms.length),oneV x:=fun x hx=>by
  unfold Y9 at hx;obtain⟨y,_,rfl⟩:=ztd.mp hx;exact .inr ⟨_,rfl⟩
 have hnl:(Y9 (List.range s.ms.length)).length<=1000:=by unfold Y9;rw[zs3,zt0];omega
 refine Ys ?_;refine⟨_,rfl,A'.p,dx,_,rfl,u2 _ _ ob,Z8 ⋯,_,rfl,A',S,atV S,rfl,SA.same u2,Fw so e1 fun lq ts2 Hb hlq tl2 s3 _=>?_⟩;have u3:=u2.trans s3;refine⟨_,rfl,d,_,rfl,DGet.k (k:=.inr "listed") (u3 _ _ gd),lq,l,ts2,ts,s.ms.map pV,(by rw[ev];rfl),hlq,SqL.of (u3 _ _ hl),tl2,tl.same u3,fun r hr=>(by
   obtain⟨m,_,rfl⟩:=ztd.mp hr;exact⟨(by show 3<=1000;decide),fun x hx=>(by
    simp only[pV,zs7,zt1,or_false] at hx;rcases hx with rfl|rfl|rfl<;>exact .inr ⟨_,rfl⟩)⟩),by rw[zs3];omega,true,rfl,iteF ?_⟩
 refine⟨_,rfl,A'.p,dx,_,rfl,u3 _ _ ob,Z8 ⋯,_,rfl,A',S,atV S,rfl,SA.same u3,Fw so e1 ⟨k2.one,by rw[hgv,zuw];omega,fun lq' Hc hlq' s4 _=>?_⟩⟩;have u4:=u3.trans s4;rw[hgv,Cf] at hlq';refine⟨_,rfl,lq',l9,Y9 (List.range s.ms.length),rfl,hlq',SqL.of (s4 _ _ (s3 _ _ q2)),hone,hnl,true,rfl,iteF (Zu ?_)⟩;dsimp only;have q4:=s4 _ _ (s3 _ _ q2);refine⟨_,rfl,A'.p,dx,_,rfl,u4 _ _ ob,Z8 ⋯,_,rfl,A',S,atV S,rfl,SA.same u4,Fw so e1 ⟨⟨_,by rw[k4];exact so.pok.may so.nd k1⟩,k2,by rw[hmay];exact Bt,fun tw lp lr ps rs Hd htw hlp hlr hsh s5 _ _ _ _=>?_⟩⟩;rw[hmay,hgv] at hsh;obtain⟨rfl,rfl⟩:=Bs hsh;have u5:=u4.trans s5;have q5:=s5 _ _ q4;walk_at "if";refine Ys ?_;refine⟨_,rfl,_,_,_,_,rfl,.of (.tup htw),.inl ⟨_,rfl⟩,Bd K,true,rfl,iteF ?_⟩;refine⟨_,rfl,tw,_,rfl,.inr (SqT.of htw),rfl,false,rfl,iteF ?_⟩;refine⟨_,rfl,tw,_,_,_,rfl,rfl,SqT.of htw,rfl,_,rfl,lp,l9,Y9 (List.range s.ms.length),rfl,hlp,SqL.of q5,hone,hnl,true,rfl,iteF (Zu ?_)⟩;dsimp only;refine⟨_,rfl,tw,_,_,_,rfl,rfl,SqT.of htw,rfl,ztt _,fun l10 f10=>?_⟩;have s6:=Zf (o:=.lst []) f10;have q6:=Zd (H:=Hd) (a:=l10) (o:=.lst []);generalize upd Hd l10 (.lst [])=He at s6 q6 ⊢;have u6:=u5.trans s6;refine⟨lr,l10,[],rfl,s6 _ _ hlr,SqL.of q6,nofun,ztt _,true,rfl,iteT ?_⟩;refine⟨_,rfl,A'.p,dx,_,rfl,u6 _ _ ob,Z8 ⋯,_,rfl,A',S,atV S,rfl,SA.same u6,Fw so e1 fun lg Hf hlg s7 _=>?_⟩;have u7:=u6.trans s7;have q7:=s7 _ _ (s6 _ _ q5);refine⟨sz1,fun l11 f11=>?_⟩;have s8:=Zf (o:=.lst [.non]) f11;have q8:=Zd (H:=Hf) (a:=l11) (o:=.lst [.non]);generalize upd Hf l11 (.lst [.non])=Hg at s8 q8 ⊢;have hnn:(Y9 (List.range s.ms.length)).length=s.ms.length:=by unfold Y9;rw[zs3,zt0]
 refine⟨_,rfl,l9,_,rfl,.inl (SqL.of (s8 _ _ q7)),l11,((Y9 (List.range s.ms.length)).length:Int),[.non],rfl,rfl,q8,by omega,by omega,(by rw[ztq,hnn];show 1*s.ms.length<=sizeLine;exact szN ⋯),fun l12 f12=>?_⟩;rw[ztq,List.flatten_replicate_singleton,hnn,<- hgv];have s9:=Zf (o:=.lst s.gv) f12;exact⟨lg,l12,s.gv,rfl,s9 _ _ (s8 _ _ hlg),SqL.of Zd,k2.one,(by rw[hgv,zuw];omega),h _ ((u7.trans s8).trans s9)⟩
abbrev Gz:Stmt:=top 80
theorem Tf:Zl ["_law_script","_law_mixed","_law_state","_law_season","_law_clubs_here","_law_k","_law_cell_here","_law_more","_law_deed","_law_due_here","_law_told"] ["_law_script"] (Zj Gz):=fnS
theorem zhi(F:Fun K "law" "law" Gz f fd)(T:Tx K mg a)(zmw:Z4 P w K mg base "_law_at" 1 ["_law_script","_law_k"] (zg1 K))(zp8:Tq P w K mg base "Season" a.zkd 3 ["self","rounds","rest"] (A0 (ca a)))(zof:Z4 P w K mg base "_law_clubs" 1 ["_law_cell_here","_law_many"] Am)(zoq:Z4 P w K mg base "_law_cell" 2 ["_law_script","_law_k"] (D2 K))(zoi:Z4 P w K mg base "_law_drawn" 3 ["_law_cell_here","_law_clubs_here","_law_mixed"] (Gx K))(zpq:Z4 P w K mg base "_law_due" 2 ["_law_state","_law_deed"] (zad K))(zot:Z4 P w K mg base "_law_done" 9 ["_law_season","_law_deed"] (spF (zd2 K (ca a))))(zos:Z4 P w K mg base "_law_fits" 4 ["_law_state","_law_deed","_law_told"] (Ce K))(zm3:Z4 P w K mg base "_law_stands" 5 ["_law_season","_law_state"] (Ku K (ca a))):FnOk P w K mg base (CX1 P w) 10 f fd ["_law_script"] (An K):=by
 refine F.okX Tf ⋯ fun _ _ _ _ H _ Q E hr h=>?_;obtain⟨b,ns,rfl,hS,hlen,h⟩:=h;have hu:=W8 hr;refine⟨_,(Zc (pS 1 Tf.nd (Zv Y5 (pF zmw hr (Za (pv 0) (Za Zh Zb))) Zh))
 (Zc (pS 2 Tf.nd (Ab (Od Zs (Zv Y5 (pF zmw hr (Za (pv 0) (Za Zh Zb))) Zh) (Od Zs (Z7 Zb) (Od Zs Yu Aa))) rfl rfl (by simp) ⋯))
 (Zc (pS 3 Tf.nd (Fd zp8 (hr.mono ⋯) Zk rfl (Za (pD hu (pv 2) Zs) (Za Zh Zb))))
 (Zc (pS 4 Tf.nd (pF zof hr (Za (pF zmw hr (Za (pv 0) (Za Zh Zb))) (Za Zh Zb))))
 (Zc (Xf PassesOwn.leaving rfl (Iv rfl T.zln (Za Zh (Za (Zm (zaj rfl) (by rfl) T.zqi PyProof.Rows.boot_min (Za Zh (Za (Zm (cL K) (by rfl) T.zk5 PySem.boot_len (Za (pv 0) Zb)) Zb))) Zb))) (pN 5 Tf.nd)
  (Zc (pS 6 Tf.nd (pF zoq hr (Za (pv 0) (Za (pv 5) Zb))))
  (Zc (pS 7 Tf.nd (Z7 (Za (Yk (Za Zs Zb)) (Za (Yk (Za Zs Zb)) (Za (Yk (Za Zs Zb)) Zb)))))
  (Zc (pS 8 Tf.nd (pI (iL K) (Zv Sr (Zv Ba (Z7 (Za (pF zoi hr (Za (Zv Xk (pv 6) Zh) (Za (pv 4) (Za (pv 1) Zb)))) Zb)) Zh) (pv 7)) (Zv Y5 (pv 6) Zh)))
  (Zc (pS 9 Tf.nd (pF zpq hr (Za (pv 2) (Za (pv 8) Zb))))
  (Zc (pS 10 Tf.nd (pF zot hr (Za (pv 3) (Za (pv 8) Zb))))
  (Zc (Zz (PW.pt (O5 (Zo Q4 (pv 9) Zs (Zr _)) (Qk (PW.pt (Wl (Zo Q4 (pI (iU K) (pv 10) Zh) Zs (Zr _)) (X2 (Zo (ze3 (K:=K) rfl hr.units) (pI (iU K) (pv 10) Zh) (Z7 (Za (pv 9) (Za Zs Zb))) (Zr _))))))))
   (Ze (Zn X1))
   Zp)
  (Zc (Zz (PW.pt (O5 (Zo Y8 (pv 9) Zs (Zr _)) (Qk (PW.pt (Wl (Zo Q4 (pI (iU K) (pv 10) Zh) Zs (Zr _)) (X2 (Xa (Y4 (pF zos hr (Za (pv 2) (Za (pv 8) (Za (pI (iU K) (pv 10) Zh) Zb))))))))))))
   (Ze (Zn X1))
   Zp)
  (Zc (Zz (PW.pt (O5 (Zo Y8 (pv 9) Zs (Zr _)) (Qk (Zo Y8 (pI (iU K) (pv 8) Zh) Zs (Zr _)))))
   (Ze (Xo (pD hu (pv 2) Zs) (pD hu (pv 2) Zs)))
   Zp)
  (Zc (Zz (Zo Y8 (pv 9) Zs (Zr _))
   (Ze (Uh hu (pv 2) Zs Yu rfl))
   Zp)
  (Zc (Zz (PW.pt (O5 (Zo Y8 (pv 9) Zs (Zr _)) (Qk (Zo Y8 (pI (iU K) (pv 8) Zh) Zs (Zr _)))))
   (Ze (Uh hu (pv 2) Zs (pI (iU K) (pv 8) Zh) rfl))
   Zp)
  (Ze (Zz (Xa (Y4 (pF zm3 hr (Za (pv 3) (Za (pv 2) Zb)))))
   (Ze (Zn X1))
   Zp)))))))))))))
 (Ze (Zn (pF zm3 hr (Za (pv 3) (Za (pv 2) Zb)))))))))),?_⟩
 show let y1:TS:=_;let y2:TS:=Z5 _ y1;let y3:TS:=Z5 _ y2;let y4:TS:=Z5 _ y3;let y5:TS:=Z5 _ y4;let y6:TS:=Z5 _ y5;let y7:TS:=Z5 _ y6;let y8:TS:=Z5 _ y7;let y9:TS:=Z5 _ y8;let y10:TS:=Z5 _ y9;let y11:TS:=_;let y12:TS:=Z5 (zf8 _ _ (Z5 _ y10)) y11;let y13:TS:=Z5 _ y12;let y14:TS:=Z5 _ y13;let y15:TS:=Z5 _ y14;Z5 _ y15 _ _ _;intro y1 y2 y3 y4 y5 y6 y7 y8 y9 y10 y11 y12 y13 y14 y15;refine⟨_,rfl,b,ns,0,rfl,hS,_,_,rfl,rfl,(show (0:Int)<2 by decide),?_⟩;obtain⟨mx,hmx,hmx1⟩:∃ mx:Nat,Q5 ns 0%2=(mx:Int)/\mx<=1:=⟨(Q5 ns 0%2).toNat,by omega,by omega⟩;walk_at "if";rw[hmx];intro d f0;have s2:=Zf (o:=.dK []) f0;have p1:(upd H d (.dK [])) d=some (.dK []):=Zd;generalize upd H d (.dK [])=H2 at s2 p1 ⊢;refine⟨_,rfl,b,ns,1,rfl,s2.seq hS,_,_,rfl,rfl,(show (0:Int)<9 by decide),?_⟩;obtain⟨rr,hrr,hr8⟩:∃ rr:Nat,Q5 ns 1%9=(rr:Int)/\rr<=8:=⟨(Q5 ns 1%9).toNat,by omega,by omega⟩;rw[hrr];refine⟨ztt _,fun lv f1=>?_⟩;have s3:=Zf (o:=.lst []) f1;have a1:(upd H2 lv (.lst [])) lv=some (.lst []):=Zd;have m1:lv≠d:=fun z=>by rw[z,p1] at f1;cases f1
 have p4:=s3 _ _ p1;have fv:=s2.free f1;generalize upd H2 lv (.lst [])=H4 at s3 a1 p4 ⊢;refine⟨p4,Si rr lv .non,rfl,(show 3<=15 by decide),?_⟩;rw[show Vr [] (Si rr lv .non)=Si rr lv .non from rfl];have s5:=Xc (o:=.dK (Si rr lv .non)) f0 (s2.trans s3);have p5:(upd H4 d (.dK (Si rr lv .non))) d=some (.dK (Si rr lv .non)):=Zd;have c1:=(Zi (H:=H4) (o:=.dK (Si rr lv .non)) m1).trans a1;clear p4 a1 p1 s3 s2;generalize upd H4 d (.dK (Si rr lv .non))=H5 at s5 p5 c1 ⊢;walk_at "if";refine⟨_,rfl,d,_,rfl,DGet.k (k:=.inr "rounds") p5,?_⟩;intro p0 dx0 hp0 hdx0 ne0;refine⟨p0,dx0,rr,3,rfl,Zd,Ya ⋯ ⋯,Ya ⋯ ⋯,?_⟩;rw[if_neg ⋯,if_neg ⋯];intro A1 H6 hAp SA6 k6 f6;rw[ztq] at SA6;have s6:Same H5 H6:=fun x o e=>k6 x o (by rw[Zi (Zg e hp0),Zi (Zg e hdx0)];exact e) (Zg e hp0);have ff:∀ x∈A1.fp,H5 x=none:=fun x hx=>by
  by_cases z:x=p0
  ·rw[z];exact hp0
  ·have:=f6 x hx z;rw[Zi z] at this;by_cases w:x=dx0
   ·rw[w];exact hdx0
   ·rw[Zi w] at this;exact this
 clear f6 k6;subst hAp;refine⟨rfl,?_⟩;have p6:=s6 _ _ p5;have v6:=s6 _ _ c1;have SC6:Rk K A1 H6 b (ns.map V.int):=.make (s5.seq hS) A1 H6 s6 ff;have nfd:d∉A1.fp:=fun z=>by rw[ff _ z] at p5;cases p5
 have nfv:lv∉A1.fp:=fun z=>by rw[ff _ z] at c1;cases c1
 have hS6:=(s5.trans s6).seq hS;have s06:=s5.trans s6;clear ff p5 c1 s5 s6 hp0 hdx0 ne0;walk_at "if";refine⟨_,rfl,b,ns,2,rfl,hS6,_,40,rfl,by decide,fun lc H7 hlc s7 flc=>?_⟩;obtain⟨cs,hcs⟩:∃ cs,cs=Ss (Q5 ns 2) 40:=⟨_,rfl⟩;rw[<- hcs] at hlc;have hcl:cs.length=40:=by rw[hcs];exact Ju _ _
 have hcnd:cs.Nodup:=by rw[hcs];exact J0 _ ⋯
 have hcr:∀ n∈cs,1<=n/\n<=99:=by rw[hcs];exact zbg _ _
 have ncv:lv≠lc:=Zg v6 flc;have ncd:d≠lc:=Zg p6 flc;have fc0:=s06.free flc;have SA7:=SA6.same s7;have SC7:Rk K A1 (hide (B24 d lv lc) H7) b (ns.map V.int):=by
  rcases hS with z|z
  ·have hb0:∀ {y:Addr},H y=none->b≠y:=fun hy=>by
    rcases z with z|⟨u,z⟩
    ·exact Zg z hy
    ·exact Zg z hy
   exact zea (SC6.fr (.of s7)) fun o e w=>by
    rcases w with w|w|w
    ·exact hb0 f0 w
    ·exact hb0 fv w
    ·exact hb0 fc0 w
  ·exact .inr fun _=>.inr z
 have I7:Nn K (ca a) d lv lc b cs ns .non A1 (zdn rr (Int.toNat 3)) 0 H7:=⟨SA7.hide0 (fun x hx=>(by
  rcases hx with rfl|rfl|rfl
  ·exact⟨nfd,.inr ⟨_,s7 _ _ p6⟩⟩
  ·exact⟨nfv,.inl ⟨_,s7 _ _ v6⟩⟩
  ·exact⟨SA6.newOk _ flc,.inl ⟨_,hlc⟩⟩)) rfl rfl nofun,⟨s7 _ _ p6,⟨[],s7 _ _ v6,.nil⟩,rfl⟩,⟨rfl,rfl,.inl ⟨rfl,rfl⟩,fun s hs=>by rcases hs with z|z<;>cases z⟩,⟨nofun,.nil,nofun,ztt _,rfl,nofun,⟨ztt _,(show rr<=60 by omega),(show 3<=10 by decide)⟩,fun z=>absurd rfl z,⟨ztt _,ztt _⟩,fun s hs=>(by rcases hs with z|z<;>cases z)⟩,hlc,SC7⟩
 have ndv:d≠lv:=m1.symm;clear SC6 SC7 SA7 SA6 p6 v6 nfd nfv hS6 s06 flc fc0 fv f0 hcs;walk_at "if";refine⟨_,rfl,b,_,rfl,.inl (Same.seq (Sg _ _) I7.sc.sq),?_⟩;rw[zs3];refine⟨_,_,rfl,3,_,rfl,⟨by omega,by omega,by split<;>omega,by split<;>omega⟩,?_⟩;obtain⟨N0,hN0,hN1⟩:∃ N0:Nat,((if (ns.length:Int)<63 then (ns.length:Int) else 63)-3).toNat=N0/\∀ i:Nat,i<N0->3+i<ns.length:=⟨_,rfl,fun i hi=>by split at hi<;>omega⟩;have hN60:N0<=60:=by rw[<- hN0];split<;>omega
 rw[hN0]
 let jv1:Nat->L2.St->Hp->Prop:=fun i σ H'=>∃ A2 S2 v v5 v6 v7 v8 v9 v10,σ=[some (.ref b),some (.int mx),some (.ref d),some (.ref A1.p),some (.ref lc),v5,v6,v7,v8,v9,v10]/\A2.p=A1.p/\Nn K (ca a) d lv lc b cs ns v A2 S2 i H'
 refine W7 jv1 ⟨A1,_,.non,_,_,_,_,_,_,rfl,rfl,I7⟩ ?_ ?_
 ·rintro i σ H1 hi ⟨A2,S2,v,v5,v6,v7,v8,v9,v10,rfl,eAp,I1⟩;have hki:=hN1 i hi;have e3:(3:Int)+(i:Int)=((3+i:Nat):Int):=by omega
  rw[e3];walk_at "if";refine⟨_,rfl,_,rfl,b,ns,3+i,rfl,Same.seq (Sg _ _) I1.sc.sq,hki,fun cell H2 s2=>?_⟩;walk_at "if";refine⟨sz1,fun t1 x1=>?_⟩;have w1:=s2.trans (Zf (o:=.tup [.str "close"]) x1);have r1:(upd H2 t1 (.tup [.str "close"])) t1=some (.tup [.str "close"]):=Zd;have z1:=s2.free x1;generalize upd H2 t1 (.tup [.str "close"])=H3 at w1 r1 ⊢;refine⟨sz1,fun t2 x2=>?_⟩;have w2:=Zf (o:=.tup [.str "close"]) x2;have r2:(upd H3 t2 (.tup [.str "close"])) t2=some (.tup [.str "close"]):=Zd;have z2:=w1.free x2;generalize upd H3 t2 (.tup [.str "close"])=H4 at w2 r2 ⊢;have u2:=w1.trans w2;refine⟨sz1,fun t3 x3=>?_⟩;have w3:=Zf (o:=.tup [.str "take back"]) x3;have r3:(upd H4 t3 (.tup [.str "take back"])) t3=some (.tup [.str "take back"]):=Zd;have z3:=u2.free x3;generalize upd H4 t3 (.tup [.str "take back"])=H5' at w3 r3 ⊢;have u3:=u2.trans w3;refine⟨(by show 3<=sizeLine;rw[sizeLine_eq];decide),fun lm x4=>?_⟩;have w4:=Zf (o:=.lst [.ref t1,.ref t2,.ref t3]) x4;have r4:(upd H5' lm (.lst [.ref t1,.ref t2,.ref t3])) lm=some (.lst [.ref t1,.ref t2,.ref t3]):=Zd;generalize upd H5' lm (.lst [.ref t1,.ref t2,.ref t3])=H6' at w4 r4 ⊢;have u4:=u3.trans w4;walk_at "if";refine⟨_,rfl,_,_,rfl,rfl,⟨by decide,by decide⟩,_,rfl,_,rfl,lc,cs,cell/7,mx,rfl,u4 _ _ I1.cl,by omega,by omega,hcnd,hcr,hmx1,fun t l ts ms H7' ht hl tl hml hsm w5 x5 xl=>?_⟩;have u5:=u4.trans w5;have z5:=u4.free x5;have zl:=u4.free xl;refine⟨sz1,fun l1 y1'=>?_⟩;have w6:=Zf (o:=.lst [.ref t]) y1';have r6:(upd H7' l1 (.lst [.ref t])) l1=some (.lst [.ref t]):=Zd;generalize upd H7' l1 (.lst [.ref t])=Ha at w6 r6 ⊢;refine⟨l1,4,[.ref t],rfl,rfl,r6,by decide,by decide,(by show 4<=sizeLine;rw[sizeLine_eq];decide),fun l2 y2'=>?_⟩;have w7:=Zf (o:=.lst (List.replicate (4:Int).toNat [V.ref t]).flatten) y2';have r7:(upd Ha l2 (.lst (List.replicate (4:Int).toNat [V.ref t]).flatten)) l2=some (.lst (List.replicate (4:Int).toNat [V.ref t]).flatten):=Zd;generalize upd Ha l2 (.lst (List.replicate (4:Int).toNat [V.ref t]).flatten)=Hb at w7 r7 ⊢;refine⟨_,rfl,l2,lm,_,_,rfl,rfl,r7,w7 _ _ (w6 _ _ (w5 _ _ r4)),(by show 7<=sizeLine;rw[sizeLine_eq];decide),fun l3 y3'=>?_⟩;have w8:=Zf (o:=.lst ((List.replicate (4:Int).toNat [V.ref t]).flatten++[V.ref t1,.ref t2,.ref t3])) y3';have r8:(upd Hb l3 (.lst ((List.replicate (4:Int).toNat [V.ref t]).flatten++[V.ref t1,.ref t2,.ref t3]))) l3=some (.lst ((List.replicate (4:Int).toNat [V.ref t]).flatten++[V.ref t1,.ref t2,.ref t3])):=Zd;generalize upd Hb l3 (.lst ((List.replicate (4:Int).toNat [V.ref t]).flatten++[V.ref t1,.ref t2,.ref t3]))=Hc at w8 r8 ⊢;obtain⟨t',hat,htt⟩:=zi4 (t:=t) (t1:=t1) (t2:=t2) (t3:=t3) (zur cell (show (7:Int)≠0 by decide)) (zuj cell (show (0:Int)<7 by decide));have w68:=(w6.trans w7).trans w8;have w58:=w5.trans w68;have u9:=u5.trans w68;obtain⟨D,hD,hdd,hds,hdl⟩:∃ D,Xu (·∉A2.fp) (hide (B24 d lv lc) Hc) t' D/\zac D/\Kr D/\∀ ms,D=.draw ms->ms.length<=100:=by
   rcases htt with e|e|e|e<;>subst e
   ·exact⟨.draw ms,⟨l,ts,(Yh (I1.out z5)).trans (w68 _ _ ht),(Yh (I1.out zl)).trans (w68 _ _ hl),(tl.same w68).mono fun x ys e=>(Yh fun z=>(I1.same u9).hok.tup x ys z e).trans e,I1.sea.newOk _ (Uo zl)⟩,.inl ⟨ms,rfl⟩,⟨hsm,by omega⟩,fun _ e=>by cases e;exact hml⟩
   ·exact⟨.close,(Yh (I1.out z1)).trans (w58 _ _ (w4 _ _ (w3 _ _ (w2 _ _ r1)))),.inr (.inl rfl),trivial,nofun⟩
   ·exact⟨.close,(Yh (I1.out z2)).trans (w58 _ _ (w4 _ _ (w3 _ _ r2))),.inr (.inl rfl),trivial,nofun⟩
   ·exact⟨.back,(Yh (I1.out z3)).trans (w58 _ _ (w4 _ _ r3)),.inr (.inr rfl),trivial,nofun⟩
  have I2:=I1.same u9;refine⟨_,rfl,_,_,rfl,rfl,⋯,l3,_,_,_,rfl,rfl,SqL.of r8,hat,?_⟩;clear I1 u9 w58 w68 htt hat r8 w8 r7 w7 r6 w6 u5 z5 zl ht hl tl hml hsm w5 x5 xl u4 r4 w4 x4 u3 r3 z3 w3 x3 u2 r2 z2 w2 x2 r1 z1 w1 x1 s2 y1' y2' y3';walk_at "if";have so:=I2.so;have hnum:=so.num;have hlen2:=so.len;have htot:=so.tot;have hol:=so.olen;have hDt:Xu (fun _=>True) Hc t' D:=(hD.imp fun _ _=>trivial).same (Sg _ _);generalize Hc=H2 at hD I2 hDt ⊢;refine⟨_,rfl,_,rfl,_,d,lv,t',v,S2,D,i,rfl,I2.st,hDt,hdd,hdl,I2.e,so,by omega,fun H3 s3=>?_⟩;have I3:=I2.same s3;have hD3:=hD.same (Sh s3);clear I2 hD hDt s3;walk_at "if";have fin:∀ {A3:SAd} {S3:Sea} {v3:V} {Hz:Hp} {v9 v10:Option V},A3.p=A1.p->Nn K (ca a) d lv lc b cs ns v3 A3 S3 (i+1) Hz->y1 { nx:=jv1 (i+1),rt:=Q,bk:=y11 { nx:=fun x H'=>Q V.non H',rt:=Q },ct:=jv1 (i+1) } [some (.ref b),some (.int mx),some (.ref d),some (.ref A1.p),some (.ref lc),some (.int (3+i:Nat)),some (.int cell),some (.ref lm),some (.ref t'),v9,v10] Hz:=by
   intro A3 S3 v3 Hz v9 v10 eAp3 J;exact⟨_,rfl,_,rfl,A3,S3,_,d,lv,v3,i+1,(by rw[eAp3];rfl),J.sea.same (Sg _ _),J.st,J.e,J.so,by omega,fun H5 s5=>⟨true,rfl,iteF (Zu ⟨A3,S3,v3,_,_,_,_,_,_,rfl,eAp3,J.same s5⟩)⟩⟩
  refine⟨_,rfl,_,rfl,B24 d lv lc,I3.hok,A2,S2,t',D,(by rw[eAp];rfl),I3.sea,hD3,hds,so.cur,so.pok,by omega,by omega,by omega,by omega,by omega,fun _ z=>I3.e.step z,fun r hr u lr H4 hu hlr s4 fu gone=>?_,fun hno u w A3 S3 H4 hu af SA3 nx fr nu3 gone=>?_⟩
  ·have us:=D9 s4;have ut:=Gw (H:=H3) gone;have hu':=ut _ _ hu;have hlr':=ut _ _ hlr;generalize X8 (B24 d lv lc) H3 H4=H5 at us ut hu' hlr' ⊢;rw[Nm hr];have hfn:decide (V.str r.name=V.str "")=false:=Uy (zfd r);walk_at "if";refine Ys ?_;refine⟨_,rfl,rfl,_,rfl,?_⟩;rw[hfn];refine iteT ?_;refine⟨_,rfl,u,_,_,_,rfl,rfl,SqT.of hu',rfl,rfl,_,rfl,?_⟩;rw[Pt];refine iteF ?_;refine⟨_,rfl,u,_,_,_,rfl,rfl,SqT.of hu',rfl,_,rfl,sz2,fun l7 f7=>?_⟩;refine⟨.lst ([r.name,"ValueError"].map Dt.str),.lst ([r.name,"ValueError"].map Dt.str),.lst (SqL.of (Zf f7 _ _ hlr')) (Pu [r.name,"ValueError"]),.lst (SqL.of Zd) (Pu [r.name,"ValueError"]),A9 _ (zaa r),A9 _ (zaa r),false,?_,iteF (Zu ?_)⟩
   ·rw[if_pos rfl,Eu];rfl
   have s7:=us.trans (Zf (o:=.lst [.str r.name,.str "ValueError"]) f7);generalize upd H5 l7 (.lst [.str r.name,.str "ValueError"])=H7 at s7 ⊢;dsimp only;refine Ys ?_;refine⟨_,rfl,rfl,_,rfl,?_⟩;rw[hfn];refine iteF (iteF (Zu ?_));dsimp only;refine Ys ?_;refine⟨_,rfl,rfl,_,rfl,?_⟩;rw[hfn];refine iteF (iteF (Zu ?_));dsimp only;refine Ys ?_;refine⟨_,rfl,rfl,_,rfl,?_⟩;rw[hfn];refine iteF (Zu ?_);dsimp only;refine Ys ?_;refine⟨_,rfl,rfl,_,rfl,?_⟩;rw[hfn];refine iteF (iteF (Zu ?_));dsimp only;exact fin eAp ((I3.same s7).mono (Nat.le_succ i))
  ·have g:A7 S2 D:=(zbm hno fun ms e m hm=>by subst e;exact hds.1 m hm).1;have hm20:∀ ms,D=.draw ms->ms.length<=20:=fun ms e=>by subst e;exact g.2.2.1
   have f:=FrN.next I3.sea nx fr;have ut:=Gw (H:=H3) gone;have hB3:=I3.hok;have ko:∀ x o,H3 x=some o->(x∉A2.fp/\¬ B24 d lv lc x)->X8 (B24 d lv lc) H3 H4 x=some o/\(x∉A3.fp/\¬ B24 d lv lc x):=fun x o e z=>by
    obtain⟨q1,q2⟩:=f.k x o ((Yh z.2).trans e) z.1;exact⟨(Y0 z.2).trans q1,q2,z.2⟩
   have kt:∀ x ys,H3 x=some (.tup ys)->X8 (B24 d lv lc) H3 H4 x=some (.tup ys):=fun x ys e=>by
    have nb:¬ B24 d lv lc x:=fun z=>hB3.tup x ys z e;exact(Y0 nb).trans (f.kt _ _ ((Yh nb).trans e))
   have kb:∀ x o,B24 d lv lc x->H3 x=some o->X8 (B24 d lv lc) H3 H4 x=some o:=fun x o z e=>by rw[W2 z];exact e
   have st4:Ml (fun x=>x∉A3.fp/\¬ B24 d lv lc x) (X8 (B24 d lv lc) H3 H4) d lv v S2:=I3.st.keep (fun o=>kb d o (.inl rfl)) (fun o=>kb lv o (.inr (.inl rfl))) ko kt;have hD4:Xu (fun x=>x∉A3.fp/\¬ B24 d lv lc x) (X8 (B24 d lv lc) H3 H4) t' D:=by
    have hq:=hD3.fr f;cases D with
    | enrol _ _ _=>exact ut _ _ hq
    | away _ _=>exact ut _ _ hq
    | draw ms =>
      obtain⟨l,ts,q1,q2,q3,q4⟩:=hq;refine⟨l,ts,ut _ _ q1,ut _ _ q2,q3.same ut,q4,fun z=>?_⟩;rw[gone l z] at q2;cases q2
    | close=>exact ut _ _ hq
    | back=>exact ut _ _ hq
   have hu4:=ut _ _ hu;have af4:=af.same ut;have lc4:=kb lc _ (.inr (.inr rfl)) I3.cl;have sc4:=I3.sc.fr f;obtain⟨e4,so4⟩:=I3.e.after so g af hdd;rw[<- D8 (H:=H3) gone] at SA3 sc4;generalize X8 (B24 d lv lc) H3 H4=H5 at st4 hD4 hu4 af4 lc4 SA3 sc4 ⊢;have eAp3:=f.p.trans eAp;have I3e:=I3.e;clear I3 hD3 f ut ko kt kb hB3 nx fr gone af hu;rw[zbp hno];walk_at "if";refine Ys ?_;refine⟨_,rfl,rfl,_,rfl,?_⟩;rw[Pt];refine iteF (iteF (Zu ?_));dsimp only;refine Ys ?_;refine⟨_,rfl,rfl,_,rfl,?_⟩;rw[Pt];refine iteT ?_;refine⟨_,rfl,u,_,_,_,rfl,rfl,SqT.of hu4,rfl,rfl,_,rfl,?_⟩;rw[Pt];refine iteF ?_;refine⟨_,rfl,_,rfl,_,rfl,u,_,_,_,rfl,rfl,SqT.of hu4,rfl,_,d,lv,t',v,w,S2,S3,D,i,rfl,st4,hD4.imp fun _ _=>trivial,hdd,hm20,I3e,so,af4,fun H7 s7=>⟨true,rfl,iteF (Zu ?_)⟩⟩;have st7:=st4.same s7;have hD7:=hD4.same s7;have SA7:=SA3.same (Sh s7);have sc7:=sc4.fr (.of (Sh s7));have lc7:=s7 _ _ lc4;clear st4 hD4 SA3 sc4 lc4 hu4;obtain⟨dd7,⟨ls,v7',ol7⟩,li7⟩:=id st7;obtain⟨rw7,hw7⟩:=hD7.word;have hw0:atI (V.str (Vq D) :: rw7) 0=some (V.str (Vq D)):=Ye (j:=0) rfl;have last:∀ {S':Sea} {v3:V} {H9:Hp},(∀ x o,H7 x=some o->¬ B24 d lv lc x->H9 x=some o)->H9 lc=H7 lc->S3=S'->Ml (fun x=>x∉A3.fp/\¬ B24 d lv lc x) H9 d lv v3 S'->y1 { nx:=jv1 (i+1),rt:=Q,bk:=y11 { nx:=fun x H'=>Q V.non H',rt:=Q },ct:=jv1 (i+1) } [some (.ref b),some (.int mx),some (.ref d),some (.ref A1.p),some (.ref lc),some (.int (3+i:Nat)),some (.int cell),some (.ref lm),some (.ref t'),some (.str ""),some (.ref u)] H9:=by
    intro S' v3 H9 k e1 e2 st9;subst e2;have sm:Same (hide (B24 d lv lc) H7) (hide (B24 d lv lc) H9):=Br k fun _ z=>.inl z;exact fin eAp3 ⟨SA7.same sm,st9,e4,so4,e1.trans lc7,sc7.fr (.of sm)⟩
   have sz3:3<sizeLine:=by rw[sizeLine_eq];decide
   refine Ys ?_;refine⟨_,rfl,rfl,_,rfl,?_⟩;rw[Pt];refine iteT ?_;refine⟨_,rfl,t',_,_,_,rfl,rfl,SqT.of hw7,hw0,rfl,_,rfl,?_⟩;have put:∀ {H8:Hp} {ls':List V},(∀ x o,H7 x=some o->¬ B24 d lv lc x->H8 x=some o)->H8 lc=H7 lc->H8 d=some (.dK (Si S2.len lv v))->(∀ {H9:Hp},(∀ x o,H8 x=some o->x≠d->H9 x=some o)->H9 d=some (.dK (Si S2.len lv .non))->y2 { nx:=jv1 (i+1),rt:=Q,bk:=y11 { nx:=fun x H'=>Q V.non H',rt:=Q },ct:=jv1 (i+1) } [some (.ref b),some (.int mx),some (.ref d),some (.ref A1.p),some (.ref lc),some (.int (3+i:Nat)),some (.int cell),some (.ref lm),some (.ref t'),some (.str ""),some (.ref u)] H9)->y3 { nx:=jv1 (i+1),rt:=Q,bk:=y11 { nx:=fun x H'=>Q V.non H',rt:=Q },ct:=jv1 (i+1) } [some (.ref b),some (.int mx),some (.ref d),some (.ref A1.p),some (.ref lc),some (.int (3+i:Nat)),some (.int cell),some (.ref lm),some (.ref t'),some (.str ""),some (.ref u)] H8:=by
    intro H8 ls' k8 e8 d8 nxt;refine Ys ?_;refine⟨_,rfl,rfl,_,rfl,?_⟩;rw[Pt];refine iteT ?_;refine⟨_,rfl,d,_,rfl,DPut.k (k:=.inr "listed") d8 sz3,?_⟩;exact nxt (fun x o e n=>by rw[Zi n];exact e) Zd
   rcases hdd with ⟨ms,rfl⟩|rfl|rfl
   ·rw[show decide (V.str (Vq (.draw ms))=V.str "close")=false from Uy (show decide (("draw up":Str)="close")=false by decide +kernel)];refine iteF (Zu ?_);dsimp only;refine put (ls':=[]) (fun x o e _=>e) rfl dd7 fun {H9} k9 d9=>?_;obtain⟨l,ts,ht7,hl7,tl7,ol7'⟩:=hD7;have ndt:t'≠d:=Yo ht7 dd7 (by intro z;cases z);have ndl:l≠d:=Yo hl7 dd7 (by intro z;cases z);have ht9:=k9 _ _ ht7 ndt;refine Ys ?_;refine⟨_,rfl,rfl,_,rfl,?_⟩;rw[Pt];refine iteT ?_;refine⟨_,rfl,t',_,_,_,rfl,rfl,SqT.of ht9,rfl,rfl,_,rfl,?_⟩;rw[Pt];refine iteT ?_;refine⟨_,rfl,t',_,_,_,rfl,rfl,SqT.of ht9,rfl,_,rfl,d,_,rfl,DPut.k (k:=.inr "listed") d9 sz3,?_⟩;have ka:∀ x o,H7 x=some o->x≠d->upd H9 d (.dK (Si S2.len lv (.ref l))) x=some o:=fun x o e n=>by rw[Zi n];exact k9 x o e n
    have kta:∀ x ys,H7 x=some (.tup ys)->upd H9 d (.dK (Si S2.len lv (.ref l))) x=some (.tup ys):=fun x ys e=>ka _ _ e (Yo e dd7 (by intro z;cases z));cases af4 with
    | @draw _ gv lw hlw F T =>
      refine last (S':=Bo S2 ms gv) (v3:=.ref l) (fun x o e n=>ka x o e fun z=>n (.inl z)) ?_ rfl ⟨Zd,⟨ls,ka _ _ v7' ndv.symm,ol7.keep (fun x o e z=>⟨ka x o e fun y=>z.2 (.inl y),z⟩) kta⟩,⟨l,ts,rfl,ka _ _ hl7 ndl,tl7.mono kta,ol7'⟩⟩;exact(ka _ _ lc7 ncd.symm).trans lc7.symm
   ·rw[show decide (V.str (Vq .close)=V.str "close")=true from zs6 rfl];cases af4 with
    | @close s hs =>
      rw[hs] at li7;obtain⟨l,ts,rfl,hl7,tl7,ol7'⟩:∃ l ts,v=.ref l/\H7 l=some (.lst ts)/\Z0 H7 ts (s.ms.map pV)/\(l∉A3.fp/\¬ B24 d lv lc l):=li7;have hlsl:=ol7.length;refine iteT ⟨_,rfl,d,_,rfl,DGet.k (k:=.inr "over") dd7,lv,ls,rfl,v7',_,rfl,d,_,rfl,DGet.k (k:=.inr "listed") dd7,ls,v7',szN ⋯,?_⟩;have k8:∀ x o,H7 x=some o->x≠lv->upd H7 lv (.lst (ls++[.ref l])) x=some o:=fun x o e n=>by rw[Zi n];exact e
      have q8:=Zd (H:=H7) (a:=lv) (o:=.lst (ls++[.ref l]));dsimp only;show y3 _ _ (upd H7 lv (.lst (ls++[.ref l])));generalize upd H7 lv (.lst (ls++[.ref l]))=H8 at k8 q8 ⊢;have hw8:H8 t'=some (.tup [.str "close"]):=k8 _ _ hD7 (Yo (show H7 t'=some (.tup [.str "close"]) from hD7) v7' (by intro z;cases z));refine put (ls':=[]) (fun x o e n=>k8 x o e fun z=>n (.inr (.inl z))) ((k8 _ _ lc7 ncv.symm).trans lc7.symm) (k8 _ _ dd7 ndv) fun {H9} k9 d9=>?_;refine Ys ?_;refine⟨_,rfl,rfl,_,rfl,?_⟩;rw[Pt];refine iteT ?_;refine⟨_,rfl,t',_,_,_,rfl,rfl,SqT.of (k9 _ _ hw8 (Yo (show H7 t'=some (.tup [.str "close"]) from hD7) dd7 (by intro z;cases z))),rfl,rfl,_,rfl,?_⟩;rw[show decide (V.str "close"=V.str "draw up")=false from Uy (show decide (("close":Str)="draw up")=false by decide +kernel)];refine iteF (Zu ?_);have ka:∀ x o,H7 x=some o->x≠d->x≠lv->H9 x=some o:=fun x o e n m=>k9 x o (k8 x o e m) n;have kta:∀ x ys,H7 x=some (.tup ys)->H9 x=some (.tup ys):=fun x ys e=>ka _ _ e (Yo e dd7 (by intro z;cases z)) (Yo e v7' (by intro z;cases z));have kk:∀ x o,H7 x=some o->(x∉A3.fp/\¬ B24 d lv lc x)->H9 x=some o/\(x∉A3.fp/\¬ B24 d lv lc x):=fun x o e z=>⟨ka x o e (fun y=>z.2 (.inl y)) fun y=>z.2 (.inr (.inl y)),z⟩
      exact last (S':=Ln S2 s) (v3:=.non) (fun x o e n=>ka x o e (fun z=>n (.inl z)) fun z=>n (.inr (.inl z))) ((ka _ _ lc7 ncd.symm ncv.symm).trans lc7.symm) rfl ⟨d9,⟨ls++[.ref l],k9 _ _ q8 ndv.symm,Sz.snoc (kk _ _ hl7 ol7').1 (tl7.mono kta) ol7' (ol7.keep kk kta)⟩,rfl⟩
   ·rw[show decide (V.str (Vq .back)=V.str "close")=false from Uy (show decide (("take back":Str)="close")=false by decide +kernel)];refine iteF (Zu ?_);dsimp only;refine put (ls':=[]) (fun x o e _=>e) rfl dd7 fun {H9} k9 d9=>?_;have ht7:H7 t'=some (.tup [.str "take back"]):=hD7;refine Ys ?_;refine⟨_,rfl,rfl,_,rfl,?_⟩;rw[Pt];refine iteT ?_;refine⟨_,rfl,t',_,_,_,rfl,rfl,SqT.of (k9 _ _ ht7 (Yo ht7 dd7 (by intro z;cases z))),rfl,rfl,_,rfl,?_⟩;rw[show decide (V.str "take back"=V.str "draw up")=false from Uy (show decide (("take back":Str)="draw up")=false by decide +kernel)];refine iteF (Zu ?_);have kta:∀ x ys,H7 x=some (.tup ys)->H9 x=some (.tup ys):=fun x ys e=>k9 _ _ e (Yo e dd7 (by intro z;cases z));have kk:∀ x o,H7 x=some o->(x∉A3.fp/\¬ B24 d lv lc x)->H9 x=some o/\(x∉A3.fp/\¬ B24 d lv lc x):=fun x o e z=>⟨k9 x o e fun y=>z.2 (.inl y),z⟩
    cases af4 with
    | back hh hw hst =>
      have hcn:S3.cur=none:=by
       rcases e4.st with ⟨e,_⟩|⟨s,e,e'⟩
       ·exact e
       ·obtain⟨_,a1,_⟩:=hst;rcases I3e.st with ⟨_,z⟩|⟨s',_,z⟩
        ·exact absurd z g
        ·rw[z,e'] at a1;have:=congrArg List.length a1;simp at this
      obtain⟨_,_,_,b3,b4,b5,b6⟩:=hst;exact last (S':=S3) (v3:=.non) (fun x o e n=>k9 x o e fun z=>n (.inl z)) ((k9 _ _ lc7 ncd.symm).trans lc7.symm) rfl ⟨by rw[<- b3];exact d9,⟨ls,k9 _ _ v7' ndv.symm,by rw[<- b6];exact ol7.keep kk kta⟩,by rw[hcn];rfl⟩
 ·rintro σ H1 ⟨A2,S2,v,v5,v6,v7,v8,v9,v10,rfl,eAp,I1⟩;exact⟨_,rfl,_,rfl,A2,S2,_,d,lv,v,N0,(by rw[eAp];rfl),I1.sea.same (Sg _ _),I1.st,I1.e,I1.so,by omega,fun H' _=>h H'⟩
end
end K24
namespace K24
open PySem PySem.Spec PyProof.Rows L2 G PySem.W
theorem zhj{l:OpenLaw}{w:World}{K:Frag}{h:Heap}{mg:Str->Option Value}{fa zlr zko zks zkl zkn zkm zk8 zk0 zkq zk4 zkz zku zlh zk9 zkk zkr zkf zkj zkh zkd f0 f1 f2 f3 f4 f5 f6 f7 f8 f9 f10 f11 f12 f13 f14 f15 f16 f17 f18 f19 f20 f21 f22 f23 f24 f25 f26 f27 f28 f29 f30 f31 f32 f33 f34 f35 f36 f37 f38 f39 f40 f41 f42 f43 f44 f45 f46 f47 f48 f49 f50 f51 f52 f53 f54 f55 f56 f57 f58 f59 f60 f61 f62 f63 f64 f65 f66 f67 f68 f69 f70 f71 f72 f73 f74 f75 f76 f77 f78 f79 f80 f81 f82 f83 f84:Addr}{tk0 tk1 tk2 tk3 tk4 tk5 tk6 tk7:Tok}{u0 n0 u1 n1 u2 n2 u3 n3 u4 n4 u5 n5 u6 n6 u7 n7 u8 n8 u9 n9 u10 n10 u11 n11 u12 n12 u13 n13 u14 n14 u15 n15 u16 n16 u17 n17 u18 n18 u19 n19 u20 n20 u21 n21 u22 n22 u23 n23 u24 n24 u25 n25 u26 n26 u27 n27 u28 n28 u29 n29 u30 n30 u31 n31 u32 n32 u33 n33 u34 n34 u35 n35 u36 n36 u37 n37 u38 n38 u39 n39 u40 n40 u41 n41 u42 n42 u43 n43 u44 n44 u45 n45 u46 n46 u47 n47 u48 n48 u49 n49 u50 n50 u51 n51 u52 n52 u53 n53 u54 n54 u55 n55 u56 n56 u57 n57 u58 n58 u59 n59 u60 n60 u61 n61 u62 n62 u63 n63 u64 n64 u65 n65 u66 n66 u67 n67 u68 n68 u69 n69 u70 n70 u71 n71 u72 n72 u73 n73 u74 n74 u75 n75 u76 n76 u77 n77 u78 n78 u79 n79 u80 n80 u81 n81 u82 n82 u83 n83 u84 n84:Option Addr}{z0 z1 z2 z3 z4 z5 z6 z7 z8 z9 z10 z11 z12 z13 z14 z15 z16 z17 z18 z19 z20 z21 z22 z23 z24 z25 z26 z27 z28 z29 z30 z31 z32 z33 z34 z35 z36 z37 z38 z39 z40 z41 z42 z43 z44 z45 z46 z47 z48 z49 z50 z51 z52 z53 z54 z55 z56 z57 z58 z59 z60 z61 z62 z63 z64 z65 z66 z67 z68 z69 z70 z71 z72 z73 z74 z75 z76 z77 z78 z79 z80 z81 z82 z83 z84:Array (Option Value)}{o0 v0 d0 m0 c0 t0 o1 v1 d1 m1 c1 t1 o2 v2 d2 m2 c2 t2 o3 v3 d3 m3 c3 t3 o4 v4 d4 m4 c4 t4 o5 v5 d5 m5 c5 t5 o6 v6 d6 m6 c6 t6 o7 v7 d7 m7 c7 t7 o8 v8 d8 m8 c8 t8 o9 v9 d9 m9 c9 t9 o10 v10 d10 m10 c10 t10 o11 v11 d11 m11 c11 t11 o12 v12 d12 m12 c12 t12 o13 v13 d13 m13 c13 t13 o14 v14 d14 m14 c14 t14 o15 v15 d15 m15 c15 t15 o16 v16 d16 m16 c16 t16 o17 v17 d17 m17 c17 t17 o18 v18 d18 m18 c18 t18 o19 v19 d19 m19 c19 t19 o20 v20 d20 m20 c20 t20 o21 v21 d21 m21 c21 t21 o22 v22 d22 m22 c22 t22 o23 v23 d23 m23 c23 t23 o24 v24 d24 m24 c24 t24 o25 v25 d25 m25 c25 t25 o26 v26 d26 m26 c26 t26 o27 v27 d27 m27 c27 t27 o28 v28 d28 m28 c28 t28 o29 v29 d29 m29 c29 t29 o30 v30 d30 m30 c30 t30 o31 v31 d31 m31 c31 t31 o32 v32 d32 m32 c32 t32 o33 v33 d33 m33 c33 t33 o34 v34 d34 m34 c34 t34 o35 v35 d35 m35 c35 t35 o36 v36 d36 m36 c36 t36 o37 v37 d37 m37 c37 t37 o38 v38 d38 m38 c38 t38 o39 v39 d39 m39 c39 t39 o40 v40 d40 m40 c40 t40 o41 v41 d41 m41 c41 t41 o42 v42 d42 m42 c42 t42 o43 v43 d43 m43 c43 t43 o44 v44 d44 m44 c44 t44 o45 v45 d45 m45 c45 t45 o46 v46 d46 m46 c46 t46 o47 v47 d47 m47 c47 t47 o48 v48 d48 m48 c48 t48 o49 v49 d49 m49 c49 t49 o50 v50 d50 m50 c50 t50 o51 v51 d51 m51 c51 t51 o52 v52 d52 m52 c52 t52 o53 v53 d53 m53 c53 t53 o54 v54 d54 m54 c54 t54 o55 v55 d55 m55 c55 t55 o56 v56 d56 m56 c56 t56 o57 v57 d57 m57 c57 t57 o58 v58 d58 m58 c58 t58 o59 v59 d59 m59 c59 t59 o60 v60 d60 m60 c60 t60 o61 v61 d61 m61 c61 t61 o62 v62 d62 m62 c62 t62 o63 v63 d63 m63 c63 t63 o64 v64 d64 m64 c64 t64 o65 v65 d65 m65 c65 t65 o66 v66 d66 m66 c66 t66 o67 v67 d67 m67 c67 t67 o68 v68 d68 m68 c68 t68 o69 v69 d69 m69 c69 t69 o70 v70 d70 m70 c70 t70 o71 v71 d71 m71 c71 t71 o72 v72 d72 m72 c72 t72 o73 v73 d73 m73 c73 t73 o74 v74 d74 m74 c74 t74 o75 v75 d75 m75 c75 t75 o76 v76 d76 m76 c76 t76 o77 v77 d77 m77 c77 t77 o78 v78 d78 m78 c78 t78 o79 v79 d79 m79 c79 t79 o80 v80 d80 m80 c80 t80 o81 v81 d81 m81 c81 t81 o82 v82 d82 m82 c82 t82 o83 v83 d83 m83 c83 t83 o84 v84 d84 m84 c84 t84:Value}(X:K.In h)(G:h.Ns mainGlobals mg)(hfa:mg "law"=some (.ref fa))
  (zoe:NsB K "BookError" zlr)
  (zm2:NsB K "OutOfRange" zko)
  (zml:NsB K "KnownReferee" zks)
  (zlw:NsB K "TooManyReferees" zkl)
  (zl4:NsB K "UnknownReferee" zkn)
  (zl0:NsB K "TooManyMatches" zkm)
  (zn8:NsB K "SameClub" zk8)
  (znr:NsB K "NoSuchMatch" zk0)
  (zmv:NsB K "NoSuchRound" zkq)
  (zno:NsB K "RoundOver" zk4)
  (zm1:NsB K "SeasonOver" zkz)
  (zmu:NsB K "AwayAlready" zku)
  (zok:NsB K "DrawnUp" zlh)
  (zn2:NsB K "NotDrawn" zk9)
  (zlm:NsB K "NothingToTakeBack" zkk)
  (zmi:NsB K "TooManyDeeds" zkr)
  (zo3:NsB K "Ledger" zkf)
  (zoy:NsB K "Roster" zkj)
  (zpw:NsB K "Sheet" zkh)
  (zoz:NsB K "Season" zkd)
  (zph:plainGet K zkf Str.empty=true)
  (zpe:hasDictIn K zkf=true)
  (zps:plainOver K zkf=true)
  (zpi:findIn K (.ref zkf) "__setattr__"=some (some (.builtin "object.__setattr__")))
  (zpf:makesIn K zkf=true)
  (zpo:keepIn K (.ref zkf)=true)
  (zma:findIn K (.ref zkf) "rounds"=some none)
  (zlz:findIn K (.ref zkf) "meetings"=some none)
  (zpr:plainGet K zkj Str.empty=true)
  (zpp:hasDictIn K zkj=true)
  (zpn:plainOver K zkj=true)
  (zpc:findIn K (.ref zkj) "__setattr__"=some (some (.builtin "object.__setattr__")))
  (zpa:makesIn K zkj=true)
  (zo8:keepIn K (.ref zkj)=true)
  (zll:findIn K (.ref zkj) "entries"=some none)
  (zp6:plainGet K zkh Str.empty=true)
  (zp5:hasDictIn K zkh=true)
  (zp1:plainOver K zkh=true)
  (zp4:findIn K (.ref zkh) "__setattr__"=some (some (.builtin "object.__setattr__")))
  (zpz:makesIn K zkh=true)
  (zqb:keepIn K (.ref zkh)=true)
  (zmn:findIn K (.ref zkh) "listed"=some none)
  (zol:findIn K (.ref zkh) "lists"=some none)
  (zmc:findIn K (.ref zkh) "given"=some none)
  (zob:findIn K (.ref zkh) "gaps"=some none)
  (zpb:plainGet K zkd Str.empty=true)
  (zpd:hasDictIn K zkd=true)
  (zpl:plainOver K zkd=true)
  (zo5:findIn K (.ref zkd) "__setattr__"=some (some (.builtin "object.__setattr__")))
  (zpg:makesIn K zkd=true)
  (zo9:keepIn K (.ref zkd)=true)
  (znd:findIn K (.ref zkd) "length"=some none)
  (zo6:findIn K (.ref zkd) "rest"=some none)
  (zls:findIn K (.ref zkd) "roster"=some none)
  (zlt:findIn K (.ref zkd) "ledger"=some none)
  (zmk:findIn K (.ref zkd) "absent"=some none)
  (znh:findIn K (.ref zkd) "sheets"=some none)
  (zlf:findIn K (.ref zkd) "sheet"=some none)
  (zli:findIn K (.ref zkd) "standing"=some none)
  (znt:XcB K zkq)
  (zn9:XcB K zko)
  (zmr:XcB K zkm)
  (zov:XcB K zk8)
  (znk:XcB K zks)
  (zmh:XcB K zkl)
  (zmp:XcB K zkn)
  (zn1:XcB K zkz)
  (zpm:XcB K zlh)
  (zng:XcB K zkr)
  (zor:XcB K zk9)
  (zod:XcB K zk4)
  (znv:XcB K zku)
  (zl7:XcB K zkk)
  (zpt:NzB K "max")
  (zk5:NzB K "len")
  (znn:NzB K "tuple")
  (zlx:NzB K "list")
  (zmf:NzB K "enumerate")
  (zln:NzB K "range")
  (zn0:NzB K "sorted")
  (zqu:NzB K "zip")
  (zki:NzB K "isinstance")
  (zo0:NzB K "int")
  (zp3:NzB K "bool")
  (zqp:NzB K "str")
  (zmg:NzB K "ValueError")
  (zqs:NzB K "any")
  (zqi:NzB K "min")
  (zn5:typeIn K (.ref zlr)=some (.type "type"))
  (zm0:mroIn K zlr (.type "BaseException")=some true)
  (ga:∀ r:Ref,r≠.noMatch->findIn K (.ref (r.cls (CA.mk zkd zkh zkj zkf zko zks zkl zkn zkm zk8 zk0 zkq zk4 zkz zku zlh zk9 zkk zkr))) "__getattribute__"=some (some (.builtin "BaseException.__getattribute__")))
  (gk:∀ r:Ref,r≠.noMatch->findIn K (.ref (r.cls (CA.mk zkd zkh zkj zkf zko zks zkl zkn zkm zk8 zk0 zkq zk4 zkz zku zlh zk9 zkk zkr))) "__getattr__"=some none)
  (at_:∀ r:Ref,r≠.noMatch->findIn K (.ref (r.cls (CA.mk zkd zkh zkj zkf zko zks zkl zkn zkm zk8 zk0 zkq zk4 zkz zku zlh zk9 zkk zkr))) "__class__"=some (some (.builtin "object.__class__")))
  (mx:∀ r:Ref,r≠.noMatch->mroIn K (r.cls (CA.mk zkd zkh zkj zkf zko zks zkl zkn zkm zk8 zk0 zkq zk4 zkz zku zlh zk9 zkk zkr)) (.type "BaseException")=some true)
  (mo:∀ r:Ref,r≠.noMatch->mroIn K (r.cls (CA.mk zkd zkh zkj zkf zko zks zkl zkn zkm zk8 zk0 zkq zk4 zkz zku zlh zk9 zkk zkr)) (.type "object")=some true)
  (mB:∀ r:Ref,r≠.noMatch->mroIn K (r.cls (CA.mk zkd zkh zkj zkf zko zks zkl zkn zkm zk8 zk0 zkq zk4 zkz zku zlh zk9 zkk zkr)) (.ref zlr)=some true)
  (kit:∀ r t:Ref,r≠.noMatch->kitOne K (.ref (r.cls (CA.mk zkd zkh zkj zkf zko zks zkl zkn zkm zk8 zk0 zkq zk4 zkz zku zlh zk9 zkk zkr))) (.ref (t.cls (CA.mk zkd zkh zkj zkf zko zks zkl zkn zkm zk8 zk0 zkq zk4 zkz zku zlh zk9 zkk zkr)))=some (decide (r=t)))
  (zqz:∀ r:Ref,r≠.noMatch->kitOne K (.ref (r.cls (CA.mk zkd zkh zkj zkf zko zks zkl zkn zkm zk8 zk0 zkq zk4 zkz zku zlh zk9 zkk zkr))) (.type "ValueError")=some true)
  (gt:specialIn K (.builtin "object.__class__") "__get__"=some (some (.builtin "getset_descriptor.__get__")))
  (tk:takesIn K (.builtin "object.__class__")=some true)
  (zl8:nsIn K mainGlobals "MOST_NUMBER"=some (some (.int 999 tk0)))
  (zl1:nsIn K mainGlobals "MOST_GRADE"=some (some (.int 9 tk1)))
  (zly:nsIn K mainGlobals "MOST_CLUB"=some (some (.int 99 tk2)))
  (zlk:nsIn K mainGlobals "MOST_REFEREES"=some (some (.int 30 tk3)))
  (zlq:nsIn K mainGlobals "MOST_MATCHES"=some (some (.int 20 tk4)))
  (zl9:nsIn K mainGlobals "MOST_ROUNDS"=some (some (.int 60 tk5)))
  (zmx:nsIn K mainGlobals "MOST_REST"=some (some (.int 10 tk6)))
  (zl3:nsIn K mainGlobals "MOST_DEEDS"=some (some (.int 100 tk7)))
  (l0:LN K "met_lately" "met_lately" S1 f0 o0 v0 d0 m0 c0 t0 u0 n0 z0)
  (l1:LN K "reasons" "reasons" Np f1 o1 v1 d1 m1 c1 t1 u1 n1 z1)
  (l2:LN K "takers" "takers" K1 f2 o2 v2 d2 m2 c2 t2 u2 n2 z2)
  (l3:LM K zkf "__init__" "Ledger.__init__" Vg f3 o3 v3 d3 m3 c3 t3 u3 n3 z3)
  (l4:LM K zkf "write" "Ledger.write" Uz f4 o4 v4 d4 m4 c4 t4 u4 n4 z4)
  (l5:LM K zkf "over" "Ledger.over" Tr f5 o5 v5 d5 m5 c5 t5 u5 n5 z5)
  (l6:LM K zkf "facts" "Ledger.facts" U0 f6 o6 v6 d6 m6 c6 t6 u6 n6 z6)
  (l7:LM K zkf "met" "Ledger.met" S4 f7 o7 v7 d7 m7 c7 t7 u7 n7 z7)
  (l8:LN K "check_range" "check_range" Ts f8 o8 v8 d8 m8 c8 t8 u8 n8 z8)
  (l9:LN K "check_count" "check_count" Tt f9 o9 v9 d9 m9 c9 t9 u9 n9 z9)
  (l10:LN K "check_ranges" "check_ranges" U1 f10 o10 v10 d10 m10 c10 t10 u10 n10 z10)
  (l11:LN K "check_clubs" "check_clubs" Tu f11 o11 v11 d11 m11 c11 t11 u11 n11 z11)
  (l12:LN K "checked" "checked" Nq f12 o12 v12 d12 m12 c12 t12 u12 n12 z12)
  (l13:LM K zkj "__init__" "Roster.__init__" Vi f13 o13 v13 d13 m13 c13 t13 u13 n13 z13)
  (l14:LM K zkj "check_new" "Roster.check_new" W3 f14 o14 v14 d14 m14 c14 t14 u14 n14 z14)
  (l15:LM K zkj "check_known" "Roster.check_known" Wa f15 o15 v15 d15 m15 c15 t15 u15 n15 z15)
  (l16:LM K zkj "add" "Roster.add" S5 f16 o16 v16 d16 m16 c16 t16 u16 n16 z16)
  (l17:LM K zkj "strike" "Roster.strike" Ub f17 o17 v17 d17 m17 c17 t17 u17 n17 z17)
  (l18:LM K zkj "numbers" "Roster.numbers" Vw f18 o18 v18 d18 m18 c18 t18 u18 n18 z18)
  (l19:LM K zkj "entry" "Roster.entry" U2 f19 o19 v19 d19 m19 c19 t19 u19 n19 z19)
  (l20:LM K zkj "person" "Roster.person" Uc f20 o20 v20 d20 m20 c20 t20 u20 n20 z20)
  (l21:LN K "places_taken" "places_taken" U3 f21 o21 v21 d21 m21 c21 t21 u21 n21 z21)
  (l22:LN K "steps_into" "steps_into" S6 f22 o22 v22 d22 m22 c22 t22 u22 n22 z22)
  (l23:LN K "free_referee" "free_referee" U4 f23 o23 v23 d23 m23 c23 t23 u23 n23 z23)
  (l24:LN K "traced" "traced" K2 f24 o24 v24 d24 m24 c24 t24 u24 n24 z24)
  (l25:LN K "chain" "chain" Fz f25 o25 v25 d25 m25 c25 t25 u25 n25 z25)
  (l26:LN K "stepped" "stepped" Nw f26 o26 v26 d26 m26 c26 t26 u26 n26 z26)
  (l27:LN K "fill" "fill" By f27 o27 v27 d27 m27 c27 t27 u27 n27 z27)
  (l28:LN K "left_without" "left_without" U5 f28 o28 v28 d28 m28 c28 t28 u28 n28 z28)
  (l29:LN K "place_of" "place_of" P0 f29 o29 v29 d29 m29 c29 t29 u29 n29 z29)
  (l30:LN K "shortage" "shortage" P1 f30 o30 v30 d30 m30 c30 t30 u30 n30 z30)
  (l31:LM K zkh "__init__" "Sheet.__init__" Vx f31 o31 v31 d31 m31 c31 t31 u31 n31 z31)
  (l32:LM K zkh "barred" "Sheet.barred" U6 f32 o32 v32 d32 m32 c32 t32 u32 n32 z32)
  (l33:LM K zkh "fallen_out" "Sheet.fallen_out" W4 f33 o33 v33 d33 m33 c33 t33 u33 n33 z33)
  (l34:LM K zkh "matches" "Sheet.matches" Ud f34 o34 v34 d34 m34 c34 t34 u34 n34 z34)
  (l35:LM K zkh "goes" "Sheet.goes" S8 f35 o35 v35 d35 m35 c35 t35 u35 n35 z35)
  (l36:LM K zkh "where" "Sheet.where" Tv f36 o36 v36 d36 m36 c36 t36 u36 n36 z36)
  (l37:LM K zkh "left" "Sheet.left" S9 f37 o37 v37 d37 m37 c37 t37 u37 n37 z37)
  (l38:LM K zkh "why" "Sheet.why" Qc f38 o38 v38 d38 m38 c38 t38 u38 n38 z38)
  (l39:LM K zkh "chains" "Sheet.chains" U7 f39 o39 v39 d39 m39 c39 t39 u39 n39 z39)
  (l40:LM K zkh "rows" "Sheet.rows" Ra f40 o40 v40 d40 m40 c40 t40 u40 n40 z40)
  (l41:LN K "drawn_sheet" "drawn_sheet" Tw f41 o41 v41 d41 m41 c41 t41 u41 n41 z41)
  (l42:LM K zkd "__init__" "Season.__init__" Vj f42 o42 v42 d42 m42 c42 t42 u42 n42 z42)
  (l43:LM K zkd "check_not_over" "Season.check_not_over" Xp f43 o43 v43 d43 m43 c43 t43 u43 n43 z43)
  (l44:LM K zkd "check_undrawn" "Season.check_undrawn" Xv f44 o44 v44 d44 m44 c44 t44 u44 n44 z44)
  (l45:LM K zkd "check_round" "Season.check_round" Wc f45 o45 v45 d45 m45 c45 t45 u45 n45 z45)
  (l46:LM K zkd "check_room" "Season.check_room" Wj f46 o46 v46 d46 m46 c46 t46 u46 n46 z46)
  (l47:LM K zkd "note" "Season.note" T2 f47 o47 v47 d47 m47 c47 t47 u47 n47 z47)
  (l48:LM K zkd "sheet_at_hand" "Season.sheet_at_hand" Xw f48 o48 v48 d48 m48 c48 t48 u48 n48 z48)
  (l49:LM K zkd "sheet_of" "Season.sheet_of" Vk f49 o49 v49 d49 m49 c49 t49 u49 n49 z49)
  (l50:LM K zkd "takers_of" "Season.takers_of" W5 f50 o50 v50 d50 m50 c50 t50 u50 n50 z50)
  (l51:LM K zkd "enrol" "Season.enrol" U8 f51 o51 v51 d51 m51 c51 t51 u51 n51 z51)
  (l52:LM K zkd "draw_up" "Season.draw_up" Vy f52 o52 v52 d52 m52 c52 t52 u52 n52 z52)
  (l53:LM K zkd "away" "Season.away" T3 f53 o53 v53 d53 m53 c53 t53 u53 n53 z53)
  (l54:LM K zkd "step_in" "Season.step_in" Vz f54 o54 v54 d54 m54 c54 t54 u54 n54 z54)
  (l55:LM K zkd "close" "Season.close" U9 f55 o55 v55 d55 m55 c55 t55 u55 n55 z55)
  (l56:LM K zkd "take_back" "Season.take_back" W6 f56 o56 v56 d56 m56 c56 t56 u56 n56 z56)
  (l57:LM K zkd "at_hand" "Season.at_hand" V0 f57 o57 v57 d57 m57 c57 t57 u57 n57 z57)
  (l58:LM K zkd "deeds" "Season.deeds" Ta f58 o58 v58 d58 m58 c58 t58 u58 n58 z58)
  (l59:LM K zkd "matches" "Season.matches" V1 f59 o59 v59 d59 m59 c59 t59 u59 n59 z59)
  (l60:LM K zkd "goes" "Season.goes" T4 f60 o60 v60 d60 m60 c60 t60 u60 n60 z60)
  (l61:LM K zkd "left" "Season.left" T5 f61 o61 v61 d61 m61 c61 t61 u61 n61 z61)
  (l62:LM K zkd "why" "Season.why" Rb f62 o62 v62 d62 m62 c62 t62 u62 n62 z62)
  (l63:LM K zkd "facts" "Season.facts" Tb f63 o63 v63 d63 m63 c63 t63 u63 n63 z63)
  (l64:LN K "_law_whole" "_law_whole" Qf f64 o64 v64 d64 m64 c64 t64 u64 n64 z64)
  (l65:LN K "_law_at" "_law_at" Jf f65 o65 v65 d65 m65 c65 t65 u65 n65 z65)
  (l66:LN K "_law_mix" "_law_mix" N1 f66 o66 v66 d66 m66 c66 t66 u66 n66 z66)
  (l67:LN K "_law_clubs" "_law_clubs" Yy f67 o67 v67 d67 m67 c67 t67 u67 n67 z67)
  (l68:LN K "_law_one_is" "_law_one_is" Rf f68 o68 v68 d68 m68 c68 t68 u68 n68 z68)
  (l69:LN K "_law_list_is" "_law_list_is" T6 f69 o69 v69 d69 m69 c69 t69 u69 n69 z69)
  (l70:LN K "_law_tuple_is" "_law_tuple_is" Tc f70 o70 v70 d70 m70 c70 t70 u70 n70 z70)
  (l71:LN K "_law_rows_are" "_law_rows_are" Td f71 o71 v71 d71 m71 c71 t71 u71 n71 z71)
  (l72:LN K "_law_deed_is" "_law_deed_is" T7 f72 o72 v72 d72 m72 c72 t72 u72 n72 z72)
  (l73:LN K "_law_deeds_are" "_law_deeds_are" Ue f73 o73 v73 d73 m73 c73 t73 u73 n73 z73)
  (l74:LN K "_law_matches" "_law_matches" Z9 f74 o74 v74 d74 m74 c74 t74 u74 n74 z74)
  (l75:LN K "_law_do" "_law_do" Jm f75 o75 v75 d75 m75 c75 t75 u75 n75 z75)
  (l76:LN K "_law_cell" "_law_cell" P7 f76 o76 v76 d76 m76 c76 t76 u76 n76 z76)
  (l77:LN K "_law_done" "_law_done" P8 f77 o77 v77 d77 m77 c77 t77 u77 n77 z77)
  (l78:LN K "_law_due_draw" "_law_due_draw" Te f78 o78 v78 d78 m78 c78 t78 u78 n78 z78)
  (l79:LN K "_law_spoiled" "_law_spoiled" T8 f79 o79 v79 d79 m79 c79 t79 u79 n79 z79)
  (l80:LN K "_law_drawn" "_law_drawn" Qi f80 o80 v80 d80 m80 c80 t80 u80 n80 z80)
  (l81:LN K "_law_due" "_law_due" N5 f81 o81 v81 d81 m81 c81 t81 u81 n81 z81)
  (l82:LN K "_law_fits" "_law_fits" P9 f82 o82 v82 d82 m82 c82 t82 u82 n82 z82)
  (l83:LN K "_law_stands" "_law_stands" Rh f83 o83 v83 d83 m83 c83 t83 u83 n83 z83)
  (l84:LN K "law" "law" Gz f84 o84 v84 d84 m84 c84 t84 u84 n84 z84)
  : ∃ fd:FuncData,(∀ (s:Shared) (v:Value),BindsTo s fd ⟨[v],[]⟩ [("_law_script",v)])/\∀ base:Heap,K.In base->base.Ns mainGlobals mg->FnOk l.prog w K mg base (CX1 l.prog w) 10 fa fd ["_law_script"] (An K):=by
 have e:=hfa.symm.trans (mg_of X G l84.b);cases e
 let a:Ad:=⟨zlr,zko,zks,zkl,zkn,zkm,zk8,zk0,zkq,zk4,zkz,zku,zlh,zk9,zkk,zkr,zkf,zkj,zkh,zkd⟩
 have T:Tx K mg a:=⟨⟨zph,zpe,zps,zpi⟩,
  zma,
  zlz,
  ⟨zpr,zpp,zpn,zpc⟩,
  zll,
  ⟨zp6,zp5,zp1,zp4⟩,
  zmn,
  zol,
  zmc,
  zob,
  ⟨zpb,zpd,zpl,zo5⟩,
  znd,
  zo6,
  zls,
  zlt,
  zmk,
  znh,
  zlf,
  zli,
  ⟨mg_of X G zmv,znt⟩,
  ⟨mg_of X G zm2,zn9⟩,
  ⟨mg_of X G zl0,zmr⟩,
  ⟨mg_of X G zn8,zov⟩,
  ⟨mg_of X G zml,znk⟩,
  ⟨mg_of X G zlw,zmh⟩,
  ⟨mg_of X G zl4,zmp⟩,
  ⟨mg_of X G zm1,zn1⟩,
  ⟨mg_of X G zok,zpm⟩,
  ⟨mg_of X G zmi,zng⟩,
  ⟨mg_of X G zn2,zor⟩,
  ⟨mg_of X G zno,zod⟩,
  ⟨mg_of X G zmu,znv⟩,
  ⟨mg_of X G zlm,zl7⟩,
  mg_none_of X G zpt,
  mg_none_of X G zk5,
  mg_none_of X G znn,
  mg_none_of X G zlx,
  mg_none_of X G zmf,
  mg_none_of X G zln,
  mg_none_of X G zn0,
  mg_none_of X G zqu,
  mg_none_of X G zki,
  mg_none_of X G zo0,
  mg_none_of X G zp3,
  mg_none_of X G zqp,
  mg_none_of X G zmg,
  mg_none_of X G zqs,
  mg_none_of X G zqi,
  mg_of X G zoe,
  mg_of X G zm2,
  mg_of X G zml,
  mg_of X G zlw,
  mg_of X G zl4,
  mg_of X G zl0,
  mg_of X G zn8,
  mg_of X G znr,
  mg_of X G zmv,
  mg_of X G zno,
  mg_of X G zm1,
  mg_of X G zmu,
  mg_of X G zok,
  mg_of X G zn2,
  mg_of X G zlm,
  mg_of X G zmi,
  mg_of X G zo3,
  mg_of X G zoy,
  mg_of X G zpw,
  mg_of X G zoz,
  ⟨zn5,Kc zm0,zm0⟩,
  fun r h=>⟨ga r h,gk r h,Kc (mo r h),at_ r h,gt,tk,mo r h,mx r h⟩,
  mB,
  kit,
  zqz,
  ⟨_,mg_of X G zl8⟩,
  ⟨_,mg_of X G zl1⟩,
  ⟨_,mg_of X G zly⟩,
  ⟨_,mg_of X G zlk⟩,
  ⟨_,mg_of X G zlq⟩,
  ⟨_,mg_of X G zl9⟩,
  ⟨_,mg_of X G zmx⟩,
  ⟨_,mg_of X G zl3⟩⟩
 refine⟨fnOf "law" "law" (Ti Gz) (Yf Gz) (Zj Gz) .none v84 d84 m84 n84 c84 t84,fun s v=>.of_eq rfl,fun base KX NX=>?_⟩;have Z:XG l.prog w base K mg h:=⟨X,G⟩;have zqc:=nM Z l3 zpf zpo zo3 fun F=>Px F T;have znj:=mM Z l4 fun F=>Mm F T;have zkt:=mM Z l5 fun F=>Kw F T;have zna:=mM Z l6 fun F=>Mo F T;have zn3:=mM Z l7 fun F=>J9 F T;have zkx:=dN Z l8 fun F=>Ky F T;have znq:=dN Z l9 fun F=>Kz F T;have znz:=dN Z l11 fun F=>K0 F T;have zp7:=nM Z l13 zpa zo8 zoy fun F=>Pz F T;have zk7:=mM Z l15 fun F=>Rq F T;have zmy:=mM Z l17 fun F=>Nt F T;have zl2:=mM Z l18 fun F=>Ou F T;have zlp:=dN Z l21 fun F=>Mt F T;have zl6:=dN Z l22 fun F=>Ie F T;have zni:=dN Z l23 fun F=>Mu F T;have zo1:=dN Z l24 fun F=>zbv F T;have zms:=dN Z l26 fun F=>Bx F T;have zlo:=dN Z l28 fun F=>Mw F T;have zoo:=dN Z l29 fun F=>Cj F T;have zm4:=nM Z l31 zpz zqb zpw fun F=>Ow F T;have zlj:=mM Z l34 fun F=>Nz F T;have zl5:=mM Z l35 fun F=>Ih F T;have zm9:=mM Z l39 fun F=>M0 F T;have zn7:=mM Z l40 fun F=>Il F T;have zk6:=mM Z l45 fun F=>Rt F T;have zkv:=mM Z l46 fun F=>Qe F T;have zle:=mM Z l47 fun F=>K8 F T;have zk2:=mM Z l48 fun F=>Sm F T;have zmm:=mM Z l58 fun F=>M7 F T;have zog:=dN Z l64 fun F=>F5 F T;have zmw:=dN Z l65 fun F=>zbx F T;have zm6:=dN Z l66 fun F=>Bz F T;have zof:=dN Z l67 fun F=>F6 F T;have znc:=dN Z l78 fun F=>Ld F T;have zny:=dN Z l79 fun F=>Jn F T;have zm5:=dN Z l0 fun F=>J1 F T zkt zn3;have zne:=dN Z l10 fun F=>Mp F T zkx;have zlc:=mM Z l14 fun F=>Qy F T zkx;have znb:=mM Z l19 fun F=>Mr F T zk7;have zoj:=dN Z l25 fun F=>zeb F T zlp zl6 zni zo1;have zou:=dN Z l30 fun F=>Ck F T zlp zlo zl6;have zlv:=mM Z l36 fun F=>K4 F T zoo;have zoa:=mM Z l37 fun F=>Ij F T zlo;have zmd:=mM Z l56 fun F=>Q3 F T zmy;have zkg:=mM Z l57 fun F=>O0 F T zkt;have zkw:=dN Z l68 fun F=>Iq F T zog;have znp:=dN Z l74 fun F=>Jl F T zm6;have zoq:=dN Z l76 fun F=>Cn F T zmw zm6;have zpq:=dN Z l81 fun F=>B1 F T znc;have zpj:=dN Z l1 fun F=>Bu F T zm5;have zo7:=dN Z l12 fun F=>Bw F T znq zne znz;have zn4:=mM Z l16 fun F=>Ib F T zlc;have zmz:=mM Z l20 fun F=>Nv F T znb;have zqw:=dN Z l27 fun F=>zfg F T zms zoj;have zm7:=mM Z l32 fun F=>My F T zm4;have zme:=mM Z l33 fun F=>Qz F T zlv zms zoj zm4;have zoh:=mM Z l38 fun F=>F2 F T zou;have zp8:=nM Z l42 zpg zo9 zoz fun F=>P4 F T zkx zp7 zqc;have zk1:=mM Z l43 fun F=>T1 F T zkg;have zkp:=mM Z l49 fun F=>P6 F T zk6 zkt zkg zk2;have zm8:=mM Z l63 fun F=>M9 F T zkg zna;have zlg:=dN Z l69 fun F=>Ji F T zkw;have znl:=dN Z l70 fun F=>Lb F T zkw;have zlu:=dN Z l72 fun F=>Jk F T zkw;have zoi:=dN Z l80 fun F=>F7 F T znp zny;have zp0:=dN Z l2 fun F=>zbu F T zpj;have znx:=dN Z l41 fun F=>K6 F T zm4 zqw;have zk3:=mM Z l44 fun F=>Sk F T zk1;have znf:=mM Z l55 fun F=>M5 F T zk1 zk2 znj zn7 zkt;have zmq:=mM Z l59 fun F=>O2 F T zkp zlj;have znw:=mM Z l60 fun F=>Jc F T zkp zl5;have zns:=mM Z l61 fun F=>Je F T zkp zoa;have zn6:=mM Z l62 fun F=>Io F T zkp zoh;have zmj:=dN Z l71 fun F=>Lc F T znl;have zmb:=dN Z l73 fun F=>N2 F T zlu;have zos:=dN Z l82 fun F=>Cp F T zkw zlg zlu;have zld:=mM Z l50 fun F=>Q0 F T zl2 zmz zkg zp0;have znm:=mM Z l51 fun F=>M4 F T zk3 zlc zkv zle zkg zn4;have zm3:=dN Z l83 fun F=>Ir F T zm8 zkw zkg zmj zmb zmm zmq zlg zns zn6 znw;have zmo:=mM Z l52 fun F=>Ox F T zk3 zo7 zkv zle zkg znx zld zl5;have zmt:=mM Z l54 fun F=>Oy F T zld zlj zlv zm7 zme zm9;have znu:=mM Z l53 fun F=>Ja F T zk6 zkt zk7 zkv zle zkg zmt;have zp2:=dN Z l75 fun F=>zbz F T znm znu zmo znf zmd;have zot:=dN Z l77 fun F=>Co F T zp2;exact zhi (Pd l84.l l84.c l84.k) T zmw zp8 zof zoq zoi zpq zot zos zm3
theorem walk{l:OpenLaw}{q:Program}{loose:List Str}{XP:(Str->Option Value)->Heap->Prop}{YP:World->Heap->Prop}{d:DefRec}{K:Params->Frag}(hn:l.most=some 63)(hdf:d.params.defaults=[])
  (hY:∀ (w:World) (h:Heap),YP w h->(K w.params).In h)
  (F:∀ (w:World) (mg:Str->Option Value) (fa:Addr) (h:Heap),(K w.params).In h->h.Ns mainGlobals mg->mg d.name=some (.ref fa) ->
   ∃ fd:FuncData,(∀ (s:Shared) (u:Value),BindsTo s fd ⟨[u],[]⟩ [("_law_script",u)])/\∀ base:Heap,(K w.params).In base->base.Ns mainGlobals mg->FnOk l.prog w (K w.params) mg base (CX1 l.prog w) 10 fa fd ["_law_script"] (An (K w.params))) :
  WalkO q loose XP YP l.row.toRowW d [] (fun f vs=>PySem.call f vs) :=
 L2.ze0 (n:=63) (k:=10) (x:="_law_script") (CX:=fun w=>CX1 l.prog w) (sp:=fun w=>An (K w.params)) hn ⋯ hdf ⟨rfl,by decide,by decide⟩ hY F (fun _ _ a ns hl _ hS=>⟨a,ns,rfl,hS,hl,fun _=>rfl⟩) fun _ _ _ _ _ z=>by obtain⟨_,_,_,_,_,_,_,_,_,_,z⟩:=z;exact z
end K24
open PySem PySem.W PyProof.Rows
local macro_rules|`(command|universe $x*)=>do return Lean.mkNullNode (<-x.mapM fun i=>let n:=i.getId.toString.foldl (fun n c=>let k:=c.toNat;n*62+(if k<58 then k-48 else if k<91 then k-55 else k-61)) 0;let i:=Lean.mkIdent (.mkSimple s!"tw{n-10*62^10}");`(command|def $i:ident:=Nat))
namespace PySem.W.Fast
universe PGd64nrK324 HtzJbbBwPvS EaweXdwU9eX FQHbdMvTCd8 DCgAWjjA0WC DDSEVZ00Qre IwoU1IC0t8Z KjtJhkmInBE LxmnSHZ2nt6 BbwYtHZ8kyI Vq1TbIhHAhT JMQScR3cTgq Sb8RSIufStM J5tVcVRNsSh Dt2BEZLlRqf EMVLCv5auw6 TsG108Om2lN CudTr6eZEr2 BaIbVjzxNEV Usfc2aIQahc UceEQzinzw8 Rg5fQ1p5sZl UVBOPNwLLU0 VhvU68ZazGN FLwXv3zuydd AvfLIrW5Gi9 CNdbgiNohfH MFlU7I3yxER UGK4edP3iVs AA3FZjDdo71 Gv02lk6GoBD O8OmtiiVpIm F9bBxDy3HCb DvphciJr3Nb BY7WWBwNExp IkcBGvFhzYr ESLYmUZTBGu CBIurp4r5Nc PVqfb2BtEWC KUVSOmGwqLV MbmGrqdVTzw O8b0Pn3P7GV Efr23ACxEjq QN40Y8O4XGH RWTQWDpCyJQ JOfoXoGOQH0 EPJfTrvpGo3 M85EopMbcIv LdHmyPw43eT RPSFAOPZeF1 FhT2bDiAzyJ LgZs8JoNiI8 BnM2IS34K4a Gf4AuRwKJDZ UtI1GyZnM9Z G1XizcMOyHr PQhT1duGp5k Rsf4JYFIk2O Up9ZEL4g8wY DpTRMOneqlU FBvL3jd4gUM TN2KjHZTwfQ TozjMxJnIRs HVFNW8vabgH P9vUZTkTIxE GdWJBU5D8SN DsWakLWKGeM GsAS8qDgT9k UtkOna9UpSz RvPhXWQdLQS EwzeTFpvPY8 KfwBsKF2WwR IkWn1yFgJVQ F74M43DVCf7 EipP0QsjGGG G9QCfCrNC7b KYl1zRef7oW DUDsmQSHJcE DcOQlOuHLpj AZQ9Nq6ec9Y Q24H8JROnxf REWDJpP7JPD K42pH1jglvt N65xyjppi29 JJrFi3d7ebt GVfNwn4D1LN JGDBh2ekCbJ RtEMCkpVyAL EO2BdnMgM4m A3PBC3wvFyn S08VAVNa9Bx PMx3HnXt7F2 QbNfVtAkfZ2 MiPOapsmuX3 HnQGeuAx5Vk GjvJUGXDjXB D2AKcX7VwGh GcbmKaIk7CD JgXqEkM1z87 Q0yZCTuAfzl FAxnz0wGYWn JvqW7YHwVce EZEMmhx4r1q CyjHqC9gJBx Rn5OE9deTV5 RAbwLYD1M5Y Onrh1FeZM9I RuWRX3WQ2vP DVtaurSbRy6 BrZd1NYCFmA HGvOUDiLFkA Bna0pegqiEd EeUbkmQ937n ADlWpn6VgmN BnMHh7lo5sy AypyIGPGuVN REP6qX391wv QvdUzxH1DFz CvpeczRkDms DgVtmX4JkYE JaRW2lAnaDu OMUgdqZa3dl TWFzmr0U8qQ UYWJ1yRU1Lj LatiIM2BIqX NLvmly9tzrd N5I1TkQVERe I0rElqX7cRQ SYOxcJ1kP2U JHQ7H1Wx9P1 B1ItgrQNf4d KjpxYly5fSv QM7SOivN6rt ENauVqu3iil GEwy4BidJFF P3G45JQbTWx N3G4Bo7p2IJ LDY5Z49YKBz ASlW3gJWJlv Vr75Ti2B15t M8MwRdPb1oh Gwk1bQ2hBYN JcyNOL4lpyr HmfQVJlv9zT OxAWQM2Bcuq UCyFzgai8Bt R9pPmbgiOVJ PmUrPU81PbT ILcy3U43D5F RZ6mRWXLW46 SoYBaCw6QwT Ekv0vh4PULq RGvGcLrxFE6 TNxasGeEXQn LsjL5pJWydq QIvHHX96Wzd N3MpPAX4Xct ExraUmek17N CJUy3OufleL BJDAc7zMKJ8 JsN7m3tnYUY DBE4AaFrUlK QLMUe3IAXDA CP9mc1UQiGs EhzKQAIythr CrtpAjZhN7E RefBdRYFfMX SL3OkDJ2Jsn AI14V4zMBvy Soyt9Et7lzq CrRv9BT2rpj ONZtx3Ity4u AB8NXEa9mOj OoSlwTMpfEz Mm6SW6iUpYe PxAc61raEiE KJhEedt8qOJ QSDboYQwpwp MpvaJry7RDM HZkCaCxIls5 JhNG9ASobpR HaiU0L45Nxf BBgXrvSzIFf MF9mj9plQtU LHbpqKUHtRY BcwMKSe2Ycx SDJPAsFbgz7 IkEM0JRQfkO FNNwF9c6bOt OIqFkgwHmW0 SM719C4XQlN FyCg0BkKI7R TNOaNuNXlB7 BzmQgFdk3jp InN8AIHFoEe SwDV2JntF17 AcoMecCSTIK B58kpBeUK9Z AMwPvWcbI6l TNAhIEVxtOA UwDZaV4s2yg E1Ru4jWBg3G ROtSW7uNp0z SejzXrUp7bh TM1ca0Ghi6J BmxCg44pvFr BpqGNF8AFwK V0rqrGxJufI HsCa8thVazd IGVzqxbfSDx PPnML7XDuo7 E3uq3fI83qm NJ41EMXlZMq RbDu5j7fxkY EwnfrOkrzqj VxRwPQvN3IE N1yLt57zHj0 KzGFPfvWNOQ F72qH8s1cur UPMGxMYBytO ONdPqCx7NfK I1904WYk3U3 UXI3sxIQavv VNydHh6CnY4 SGOnnhfcvne QB6a45e1vjK P3TWSn524U1 FYyfwEgybMZ DISXGssnXjU VwwTZpPtZ53 Vdy7zzQudTX By575IbkQPG TbEtrQmvOXR Qx6jVbwCRYT IrR0M5e5UmU QRUAD93Y9Ww BcVwlH3abtA Qu1XHtCNB4Z G9irBgIFMpD NwoMWoVEy75 AxRFfqENUIV DsNw4fHIEzt U5j1eg5CGwd GvW21SXE6os RTblJDXJDVx U0UkoebfJ1C R6J0fgTC5Nh RanUk3FBtqB TACaLKgTnnz RjPWaMnAyXt L9NYYcRzN6k TcMFdHYttGj HalqsVfCD6O CGRVhWOWXYD PZiVHuppgzx UutkPhlgmyS A8yzofugszu TEVwKqzQnTy IT4kaVLLjaw NPqMBZ8X26C Dl3382XeG8e LTuj2NsqIx4 QGZnbJpbHQQ By5vC8w5dJn EjdBfVZGGT7 B71v0iDoGQA J7aC1DCdXYW AuIDtHawUoW RpJAvDsZGuw AlW7b1RkrxI P9TYLriTO3U MWgFYz33Cvd ALzjOZiiFK5 VsecQvsf14Y SQhyGH3ohPL KL1tETFTHB7 Elb5L8oPNvq ASQuseqCkUG Bx5lMgNEVGu FmlEqCX5u4R IU6SDSMHq4k FSvXUs2Tgwh TGKVLoAot1U JuSOCW7lVpx NvcvInAX9ov FqNdNAJ6jUW ToGfRJty4SC O8hh2SoaXkS HUmUjdRMEwV HzJl4EiLTQo KJj2WvRAQOK K21cIAfhY1a Gh3XHoRzDgz Q5EVl0iT5g5 Nit3QC7olXP LqYYPoAph7z JAYbDnf9HfW TBVF1upgmQr IDHi52MfJwE IY1TJz29hMl JXGXvUuzeR0 ObDkBhauU8c LKR4F8kxYtc FmF99XkLOBO Lf1gc6J22cB PHwcyjkgOJN NnN0iq4XBFU F7NMzw2Scyy THiUvMb5ISC IfQRHnQgmyB RzaHbJcYOqj SnqRpovaNP1 GWR9UhhnSML SAU5yfCEA45 TUcZSW94EsC JO5riFWTPTC JJ4IDNCt4fy Usa4tSF50np OCVWCWZ4RMu Jz3T0ywau3e MfOL6fE5cTJ NhwHBSOH0Gu MhXifceHu1h Rnp3JCvn7xC D0dwTmPlWzu OinxtEIDXtf G3EtaUnBAby IOF669FVSm4 KVOZ74wh3CL HOoIQyFEB4E L5iI3BLzW6a QCbpvN2xllc NeFgLOiMuIE Rujh3b0NWaW CKLzFdP86Yo Pv1houTDn3c TQjJAYnsfa0 DIHEo2SDAch DqLTqNwZQ7i PlEehQGidtD AhiNhdOOQUL AJuPgHQ5v4E IPt14FFlpoE UFoSWSmHTyQ LQC4rxJTYo4 ReJxVUrzlnj AXE0ASyBwNf F0zMcTzdRgi Jvko1k8MePZ EKkxKJeGO4c J2Lfys6sUjY RqcEdL723iJ BnXzb5VBvf5 BbTwEGWxHlI SSdtWqPz1Ct A1ZnGjRMhaO OO36Wb7k4Ot FX56ijmIZ9U IP8CDOOtFUl A9U2RdGd3R7 Hkc54dzKgSu V9NUi7f9NFN SJbPjwgbFGy Bw4ohN9PIr6 LdvbHr6qHAy Gc3CuEXiIqk RMbEI2yGaMU GcGJuz3NRrX V2qZz1rhS9p EpvThNzJECm DWqFftjAfox OWmK9D6TxEi QfltErkQREr VIGWEN0qTxm PakdDuKhY8S RGXYUflWp4n JAl4lBsau4S Ve0rQmhq8tW K6Zq9NnhLlk SROKO0NkqEN KyqG5R0S5X2 SP8kjAuoa3V Iz9GqFemteX NVk6JZpylqK OByXtnc7a1e POaUtaDrgVu Dfuo8KVKT9p PBeWzAAsVBt G2rONqppvbn PQZRhunduMw Oedc07wyJ28 MBavG4GskOY R2Br4qfmz6O G8xK7uOsgSY DOpxNXId5P7 UQ1fHslKufB Ggst7JhS1yz DdGIIoGxfty Ir1qxqvm2KA JYN4Vtvfn4u N1SHwIa6x8G Dji2vqZisTm AdmW9l4dabT GBrZgUzeiNg BT2AzAETgw8 F89AVRmXXW8 GYDFCNaU9bL VXE6kj3xdNL FGX8iVuAt8B MRArO1MmZm3 S4YwgkBg48Y MOmCKiAUvqP NNwvE0olNWg LXxXVtduFGm OcBbzmt9vs6 EH87u9RZ7O3 C2buJ55pXoq IPpQfxQKDKs PLGgsOwX2Y8 Jq2ewSqSovE PduglMZ9Zxy LuCLv5vY9Gh ObsfYoFsgWJ PLJiTAXhHcY Mug6G4AghVd VmAm7EX2fuw ABpqAD8g3yS EhRyYdrisv4 HWsp29cMLrP Iqg8T6HoaZn OCnWMO0QBuB PkpCP3DQ3Ru MTsttBKSFfZ UOZdr4JpcnP SbmpwrCD6JC G6AJkszVBLC Sr9VxCfef1J MgHL1VBEw4Z RNgFuHsglFv VkiqupGAFmM OUA9lAN6q71 NbhzFXFZQol MVTTeNa9P7P G2ZNH4f9oiR DViCRWNn2it N9Xkha9oZFq RaJOyzZJjMa FRhlJn0ZDoq POtMCmxOsDM SqNL6kxPVur QBbOWMb0Y4E GGlgClZQ4d4 RJScFy39MzD HeT1M6DkHcw SA3T894lXbC R0ZqLF01PQq NoWRXGGmepi IEvLe4oWWgj HRejd71x4Zu JgrxUjt6VcJ HQ8xg4QKWpR QjGtdpZigVS P6hAvCOPp3W CgsVWNlxWxA O88j6ronCgu Bivg0NvKLmo DUlsdq3w8Bc EBm89kCATpA VyPjAFntAXp M2AqtXvr6mf Cx5ZEjhtNRB QjmyRM4ARD0 HD7Ikz9Fejr I5gozE3ipO9 LlkUXUxrpMf FKN0AYdJbqp N5rC4IT8WCn BcCQq4av51e ERmEnKp8ZxU O2Gh0LRLSoN SkxZgSabcEn CuERHFP26jv UMd3lEyYXEn JUR04lW42jf TqzskVZo4nH CDMmK2pk0LM JOCKZdJbrwi HFlnM8Bvcf5 UxKOV0qIGdd Q6L1okccnjl NwVJmg0lJay P76qfZnQ0Nh TaF2Itg7qRF C73ijANNQJo IzRMaYdXjeW RFiPxg5JYGp CffWdz39Im2 QQY9M2Odbir AsSirOrvCUm RA9Qr1V53TV BQOhqMdreRt DtlYrrKsPJo ENsr1c19jdg IQ0K51uF4GU TqhQYUFJtD4 CCXbGryn3XF FQZyU3LEHrS AlNnaTQvc2j Dp5vczETTZs PFXx3fuRsUq CKe4PYKLywl IBC6e7pYu1e K1u8dKBluI3 KJOhpzMjiSw IRmOI2mwYiU RaBYof20S4G EELwKOZuA3W Ogjjj98m0UQ OU3fWjo6xG5 UZt3DRQ5Vse TbZJ4ebyzEx CmGnXSTfQGo MxVMJE62gmn Iaa7C0Do0lx C7PV4ZmDNqm Eha5AZOPKFA QDFAUCSG88p McsGIbk8Qk6 Ed4IRDZdaK6 HCT3TfTyjO9 MmeHdi9iGqs H9OkBemEBxd Nik3XnzdUxq BxqE6sVk13E SCb9kSpaqi3 M3Gm3nL7l8t TpqjKBiV7Tx HaEC2TIpuwg Rf2gpVjEeeF VU3d80Sqs8f Onhm8lS8ZlD MUnV0p7yEtK TSHo4FEWkfw JppXozXXmBI GcP6iS9zaL0 NzlA2yInYaL N1MQBlHWi6x TwcOJcp7YVY Hnzr9VB1ZSR GWFv3beN8fM J132KvuHmIS Ps2LDtjt4EL BzOwXtLXCtC KLEgld4Oa91 C850CVjkpX4 IZLuAnhmBxP O9LK10nUy9e CX3gEpmgvnc JKZsTdFizfj LF0Z9qjnVH5 IBkQn7QI12s JzILepDAvcK SXj1uVejC1a Lf04Int330d H1tk7Bpg49c M4LauHjIx7f SVgfxQ61faj HtB9dzqlGtN D8pkdRn7v4v MrJfuBXp2I7 MYy9JEwqVOJ GHeMgIzvKac BoB3l1bFATq DQD1c5jmmRZ L6uZ5Mtlgzq HU1i4amzCif CdzHyCXvAF5 ACX1RaeEsMb RIbvmgj16KE BHGHnQiCltA CKgCg6jSbun UkYiA9Tyn47 IO2PWPOQnkY R3nt8Q67cL8 UdoTpDFgzPQ KDZHTyabK5I HT8EH6bEmCL JXM4xKZnrF9 ACSVVvOcCdV SOBn6VBwvXZ NN0gd69ftm4 IfXJOhxAEKh HQQDPXw1YoA TsEZKDYVMun HsEffuhHvDf QClszgwbJMX D6wJz9Z4eD2 KNwQm4p1cbK J8XlZidzmIl NlPL65ex8lr Dhb2klFpoMG LWcOhXi0wcB FN4VLsToWQP E3RYHk9yiKX PxmABy6xF4s DbrP3HeDTBr Ogp5urFzKro K8gCTvQUzdq AgSpsWRMmAd C1TkUVvrXaN HMcJPDPdvzM GReq1XsavBC UHbr9pj9iKM OL2aTC7bgwD TVHZT7OboBH A2X1aWAbwpo UyFJcWsvnKI UMOJYLDOPbR Ehefh4K6gAE VAx5xJCf5TZ CxyPNgk6chU G8lq89rJ0e6 LZrJD7KHmOT VvPhzcQcWjr P0GbF5vQ0iI SxUXToA5r6S T6SgGNFnUfi AhOIrzJhv8D PPQU7VAZORX R47XqXEcbzV RqpVAU0nVEz KhvC75yMDVW B5Ntro1b47L VDaEuy91GZB NhIH7vNgyKb AZTY88bqmQA FaoOwquxCHA HsmmYJkWEQs SkzUbWis9a7 HQNUAZanGQE Pyp08Lt68Qt UUcr3cj6AQW GAnhlen7RP8 J5d76yggBuA TC7dpdfqSyn KsEvYduWFCS LExiuwWpkBJ Mriywa8m5hV PrZw7ngYjGW C2q89VtUWEI QzW3OK06lFg UVZvdrokDsL DSCu7fbHvrM JZxAytlQaAh M2CgzjE22Hl NqTePOic8yv TncTEYzzk97 K501xGR78HW SBDFtbAdOgj TNbZVFzVpkV UsBwHjILF9w DGjQKYMLPdA ADoNZAB5Bpt QiN1aMsoCui CEaUlwxvfSk SxRR4Mbw1Nx LpqK974oQmS JoHKp5McVOG CvQRdpmFCSF JOI7KvRDjjB SDVxvMMgMI0 HuqPnnnENlC LPr1eq98zl7 QFIPO8vae2M VGaoLzHCadb JJ0PgK2RJ4c RQlutYQJ7Vh D2phLkZhxce T5uXr5P3oAR B4oealaiL0P LGZY2wQ6chc B6fIRhp48eA Ia7dTS7FVvW FZbSkTWenbB GQenCGajdEk PFlsR77hjK0 UI15wvkvJAi InvU9BYYOxb MJiapHyryhR NazSZMhoxzG IEqEMyj4HN9 UOW6qlAKIex FMyuKdbCRNX UhBQWtUhkhS VCzgx0DAJfC RP8GjtfZuKY NXEbJz7eifN OEu2DWPHx20 JGC0FakV0Z3 Mhn2AFw9Ja5 TVyUodmO0L9 TDPn5tYNP8C J6K4MMfpUmn OHSQhk05G5G LZasSvFm2p0 Ox6G0AY2m7v CtPwqrHGNwm LMY4AkcFfqZ TsuxU7QOldd QOskhrvhh3i DsBaC5XexOz IoWRRJXCik3 IK63AADJAqO Jel5KRvOCJW R2ifSlZJJx4 TKl1okV0FBe FvsJyau89JA QW8xj8UKs0x QzNzhL2WrRX SVaUzlwSe1j Q3qKaKelnoG MTogJo1t6cK I5okRJVa4Qj K4931Sr5bvP PiUnDAhnksU NxktR35QmHd KbTD6DWlh5T Ut0TPbGCRth NgLkT9TzUaC F2oKbvxBLSQ ITzfN8YU4Rk CehEkiPMjON NclUfRQXXiJ HrCDXIJ2naW QBEjXO9dQAZ Uq1o3gM82i6 Om5dMOxDqFk EVh2fZjlSOW Io7WkpJLxIw IGVnnu9mEE9 CtmXVWBQFs2 CfwExLeRyLV CvtcOnuYJN4 Cwtf9zov44c QWtexppasB2 J5zCWpB1ynS GOmfNdp2jCg GlYpW2E7Kfw GVBc69HyGuH UwTgtzRytFk DKzQU8KnYsH HtMFb8QWrkS BkIYClb1Ibt CwyfjD2aC30 Kb6gQWrH4Qh F2LV5tlgOt9 IlsKluaPz72 H4CurqzNTCk DnUoUbDoKbr LPEshLvyCbP IEHMRz1faOA OSZZnySTcpS VAn3tZe1hkO T5d1uGxTOeD RZteqWZHeCF KOXdZSbjBl9 LbOrrxk6O97 OirjfupD6rO HMrm5iSDrIP GEdCKqU5dxS TFnH4kvD87P BasFFmp8UOU JD2bdRK6vfq GbKKE9WnQSt IgLrvsnvXXc IlnZELOcOSi TyP9H8yIoAt FP8g0tvn6le S0KvulsPl20 A98HwTQMBCY GO4NMtaDcvK PpUCB4rtNk7 ALsnqLR7xz5 TtE5ACEfpYS Skp70Vm8Jhn Ll3N81cZV6U OFNwXnm8xMd Kk0do1EAidQ DS2xiUjkGfL S66R7edcHxd KAeJqBFQpPB GvWJEoLXlFB JXrDZRuKopp T9ELOd39IQT CnKjOv9nycV GreI7mHrVp8 L6ciaU4fUta AxUsju6RrkU B8XYrKK5pFg NENZzUnThNX QHc7EpCT73n QhWpQ5sgp0h RcypEXKvXfn D1rwDKz0B2S IV4AzkydxV2 V3jA2gK9Xif KVs6WAQoj2C LkUHUTu5XkA H2irwxAGb4D K2bHTYDNbnV Sd49BCap2Co UPavQS84Oht JKQfpBIafW5 TJv3ielEARs BONA7jUb8zf EQTekMJJfuF C8OH03KjS54 PWVTRtaDijg EV4mvkwoIkz PhO4mDlRgIh BCRbyxMnOgu EXck33hUoS9 LEPuuMNFteA CKWWttAiNmk Oa2z3JbDdek JYDZkYZJLnM EwO4s4MgknQ Eg26r7zgjrc Pd6GxxmhbP9 GTnzxMN29Fs QUhLrAOalB4 C672ihCZnED OMsmnAY4DPb OQiR6Rdaem2 AWycZqCt2RY NIVqCY0xAgI SaHBvrYNOJg RwF6dy8l8Ax CDROgajfzvj AKyLDSMVCHJ SA8q03HLxfS OAHcvOoT3p5 MMwYIiExeUW OnlOSmAgpVX DEPcko3nLTG OEaUsCTdu89 IAIyLeyh7aw ENc7phFX6Yo KBvKI0neOxm Den7Ns1TDWu SB82geEFlog QSdZ51I18AP MIW4hUIUPwb CzrHG1CPuS0 LzYG0QX0kRF UVu1gypbG1W RMgfIN49wq7 QmWursUgh8x IPfB568Qk1x Cy5HqETRuFr J78QzhJwarS ImwWm1ikbA3 FDqoAdrBlyU JbLbU0sppNB VJKtgfDM9nX IRJlPrliqXK QQddzDtvdny LfBc3FfGGU2 Qa1f8urft2N VeRuhzWYqs7 EWSwftDA5H7 DPlOMCzjDJP MZzXj4AMRSq O5yhQrJmU8w MvuwtZpGInH IJDX9IUwklF KKLGdAOIdkM EMMfm1fWUKQ CQVcvwNq0rv PNa1aktIzBs TmfUHKSSZq6 MNiCZw2KPGJ Pt671axOHS3 F23v0ZJ1ok1 H6TzQtfXEG2 IILGcMHDCic HVLmk126B2R RyXycORc2VT Tydh11ByZxs CR5fAmFiPq4 PcrMGuWmK3P BNQ9n8eey92 S3vumF5FxmQ IL4g6PGIvTG SGI8Id8BtpK GA784oa0M5J Ts76EPXzNtn V4RGeU9ae8k MPWhgmpEnKt GIP75Q4ZyGc C7ZnN0akSgQ MxTyJmmIef9 T1YKakH6R4U J8CyCNt24ZN MCeTBJtUVff BUrHCXAoWQ4 Do6w2a9o0XT VTAzh5sD8U6 LRzqbB75gZ4 TzohFnWU5XK H6GeLxyXB04 JRticiX5jB4 Ouj1ve5GiTs UihRRVcgyHX UMD3CUI38w8 Geo8VfBkkj9 RZJ3234jHxM DvpqZ4rNfJi QvOMY45fLRU BpkFLquazjf OEHLQLbHpvF MvYLVB0OCdX Q1MQ8fVeZUd NOknvA4gBM0 R9GFWxOrROL UZS3aKbOTpm Lu4A6wdgGNo HM3A8JBUA4p Evckww7YPYx MXhoUao889Z GbfLb7mJBgA JDxqGtAxAgi NGti5reKlCU BTlxnyarLXV IQXQUXUeqPC RGGdOdofuod JjzTiM6JaqU JKgN5aSUceU C3aJvFfDxOJ SkCsWh3nn0N ITCy7XBYaV5 OgnP3KCLl2B AfnEI9e7X4U GuUTUUg1rYX ElK2owxFna3 PJjEimH3348 LknG2T0uTvn TCRghE4X3Ms NwaE2cOiNpM JwUn1QgR7TB CcuwTorTsUh FF081dXyyzZ DBMsXDukQsI ERkzVTqM15H ATERlTz6o0H F0VJIMtQxmb FbozwWQhOtN EHo0rQ1Sx7l PjxqrCH9t5E Th9BTTK2vAy L0tepbcQgtA Mc7SMFrS8oS O6Rns4qPWHz VwcbT4gLzCL AUYBCK3glJW QPGYxkY5Dzb RoiuyO5AcHW Dwwv1HdKwtP P5kDmUvliqX OpOy1K7ubrt OZDcQJuyQlC LLcbCLsF9Uu Hd6MvlCqZj1 OwpouNvX9wh GR32VqAvfIb SVZvvFXrWKG EF72KXs7Gkw PXBUC1jc7vL J0wgcywugYL JiVNUFwyAiG E2P6bvDCg7F C8ZrrrqnSoJ MyAHUMPlx69 NLgqjyM46sO DfaxiKnAySt KZ6tiwN4PVS PD2r1ExfJsd VC2OHtG85P2 KI5dmRhQVmr DK2cgBNXWb2 I9Tav0f7kNE Gq053t76RLg G4hvXALm3Is KGYBGe8VD8C DtD9u82kxXU S8MqFmUiryX A6MZ2z19Jbi JqQxSUpAx18 GI2X8gV3qR2 Cxa2s2JxDdx SS5xE5u1g3c KS1nN0wxfPf NhF41q59yog FvTMi2GV0Yb Mv7lfSYXIjU PyKki5qpWf1 TlYWqAcQgsd Im2sW0oA44l PelPqg7xwzR DsHuCOHC5ou VTDgou1uXiz RYgYznLzPIg VHtOEcxxCYK CTLAPfMx5EO NgEpbxkgzju U7tlsl10rT7 VopEOJejPbm N8tsT87w55t PaLeAdqQ96F EDAZ3D39MFS SqFiREEtwAq CkG2xDTVlcm RUI895MO940 ESXOpfepJSK DG6f4iYLlM4 JGcKghjxzJx DmBBTQjtf4h HN3wRFLO8aK COQJ7LnfT0Z UDijeRBiPwO PVnUgctbZf0 H8HNYv5ZrHq RnvHekadINK DfYpl2tbMqa Fwxz6cGFYlW Nmgx5cm3dao VEaBqK3fotG MEH2ll1TcQK FkqknPXAPuz JQvzyhSsm7f LC5dLUMAHdp IHbapTV7PFN U9VqHrfAAGD KhNLIpZh169 Qv62deP6WcL Fd1DdH6uI6N DbWMR6kj47B BQfGGJFrdXH U7mE3neoAw3 MTDZ7aNadOM AovGjT1JBXU N6YtF2mbh4c UARkFQHmOf2 VrauBsl7pNT CKb8RnzaX8H H21FLxXFojQ HtygLmqldvU H1Ue1j2TLYV OADVPjw9wRp Nop4mNqjqZL GR2nIt2sTaF NViwTlhOipp QBT8vX1Roa4 UUP1E2Oz7QN NhTHuSMePE8 GFoDuXW6uDR PRXtbiqOfgr Qqj8raTeROO TsT5bGurSmA QtcanOeDIy6 DIWNvWN9IaN UkVEVHI3LhL EcDTAX3fKuH GpffPNlT9Cv QrD0b5Qkhbx IIEmyuFoGPC C2O0FBCg4fX HapLrXCJEYY Ks5BlAL25Ie URux7tHflTx Dh5Z4ZYc0nf RzuMGLD6a1Y Lr8xZARVW34 VKZcBCK7iP1 DKnibfPNlRs HXXGLyiEWCi G0IG30dwadx Ao0rPzKpFCo GFeITLR7Ety LoDA4uv8fkw TCSzUn6T7pd CFgF8TGoHQU PKaKvopqleJ UzjfP8ZObrg OH99LzvzBxR MOBcDVH2jNt Gap7IgGL205 OHbfAMVWfzI T9mdkjFdklM GGsMJ9ajsal QNZbPqHnuwv MPRPavqCugR V1kdX2gOdrc LKSrfTgmAQz HNpdP4z3Vu5 HPFIookTK1N MKeY4rAeL2e UBQ9sBIlL6m E7rNH0wovPF TFA0nqdrbDj OeixfCV2kiI TYpKy8jFCqK NnQZ8ERiZyB L0ajsNrreAc C3lbE1pppXQ ERMSAXMGxuS LexKNZj9oVW UJEquqryIyZ M2hg869t5pL GqJGyiwpUQ6 SeUxFkuZiwa VUaOR5beenB
end PySem.W.Fast
set_option maxRecDepth 100000 in
set_option maxHeartbeats 0 in
theorem PySem.Challenge.cw_whistlebook_k24_draw_up_and_close_holds : PySem.Challenge.rw_whistlebook_k24_draw_up_and_close.Holds := by
 w_on;o_law;k_head;(case hw=>w_witness2)
 k_fill
 refine K24.walk (l:=PySem.Challenge.rw_whistlebook_k24_draw_up_and_close) rfl rfl (fun w h Y=>PySem.W.kIn_of Y) ?F
 case F =>
  intro w mg fa h KX G hmg
  refine' K24.zhj KX G hmg ?zoe ?zm2 ?zml ?zlw ?zl4 ?zl0 ?zn8 ?znr ?zmv ?zno ?zm1 ?zmu ?zok ?zn2 ?zlm ?zmi ?zo3 ?zoy ?zpw ?zoz ?zph ?zpe ?zps ?zpi ?zpf ?zpo ?zma ?zlz ?zpr ?zpp ?zpn ?zpc ?zpa ?zo8 ?zll ?zp6 ?zp5 ?zp1 ?zp4 ?zpz ?zqb ?zmn ?zol ?zmc ?zob ?zpb ?zpd ?zpl ?zo5 ?zpg ?zo9 ?znd ?zo6 ?zls ?zlt ?zmk ?znh ?zlf ?zli ?znt ?zn9 ?zmr ?zov ?znk ?zmh ?zmp ?zn1 ?zpm ?zng ?zor ?zod ?znv ?zl7 ?zpt ?zk5 ?znn ?zlx ?zmf ?zln ?zn0 ?zqu ?zki ?zo0 ?zp3 ?zqp ?zmg ?zqs ?zqi ?zn5 ?zm0 ?ga ?gk ?at_ ?mx ?mo ?mB ?kit ?zqz ?gt ?tk ?zl8 ?zl1 ?zly ?zlk ?zlq ?zl9 ?zmx ?zl3 ?l0 ?l1 ?l2 ?l3 ?l4 ?l5 ?l6 ?l7 ?l8 ?l9 ?l10 ?l11 ?l12 ?l13 ?l14 ?l15 ?l16 ?l17 ?l18 ?l19 ?l20 ?l21 ?l22 ?l23 ?l24 ?l25 ?l26 ?l27 ?l28 ?l29 ?l30 ?l31 ?l32 ?l33 ?l34 ?l35 ?l36 ?l37 ?l38 ?l39 ?l40 ?l41 ?l42 ?l43 ?l44 ?l45 ?l46 ?l47 ?l48 ?l49 ?l50 ?l51 ?l52 ?l53 ?l54 ?l55 ?l56 ?l57 ?l58 ?l59 ?l60 ?l61 ?l62 ?l63 ?l64 ?l65 ?l66 ?l67 ?l68 ?l69 ?l70 ?l71 ?l72 ?l73 ?l74 ?l75 ?l76 ?l77 ?l78 ?l79 ?l80 ?l81 ?l82 ?l83 ?l84
  (case zoe|zm2|zml|zlw|zl4|zl0|zn8|znr|zmv|zno|zm1|zmu|zok|zn2|zlm|zmi|zo3|zoy|zpw|zoz|zph|zpe|zps|zpi|zpf|zpo|zma|zlz|zpr|zpp|zpn|zpc|zpa|zo8|zll|zp6|zp5|zp1|zp4|zpz|zqb|zmn|zol|zmc|zob|zpb|zpd|zpl|zo5|zpg|zo9|znd|zo6|zls|zlt|zmk|znh|zlf|zli|zpt|zk5|znn|zlx|zmf|zln|zn0|zqu|zki|zo0|zp3|zqp|zmg|zqs|zqi|zn5|zm0|gt|tk|zl8|zl1|zly|zlk|zlq|zl9|zmx|zl3=>(show _=_;k_is))
  (case znt|zn9|zmr|zov|znk|zmh|zmp|zn1|zpm|zng|zor|zod|znv|zl7=>(show PySem.W.excIn _ _ _ _=true;k_exc))
  (case ga|gk|at_|mx|mo|mB=>(intro r h;cases r<;>first|exact absurd rfl h|(dsimp only[_root_.G.Ref.cls];k_is)))
  (case kit=>(intro r t h;cases r<;>first|exact absurd rfl h|(cases t<;>(dsimp only[_root_.G.Ref.cls];first|(show _=some true;kit_is)|(show _=some false;kit_is)))))
  (case zqz=>(intro r h;cases r<;>first|exact absurd rfl h|(dsimp only[_root_.G.Ref.cls];kit_is)))
  (case l0|l1|l2|l8|l9|l10|l11|l12|l21|l22|l23|l24|l25|l26|l27|l28|l29|l30|l41|l64|l65|l66|l67|l68|l69|l70|l71|l72|l73|l74|l75|l76|l77|l78|l79|l80|l81|l82|l83|l84=>(constructor<;>(show _=_;k_is)))
  (case l3|l4|l5|l6|l7|l13|l14|l15|l16|l17|l18|l19|l20|l31|l32|l33|l34|l35|l36|l37|l38|l39|l40|l42|l43|l44|l45|l46|l47|l48|l49|l50|l51|l52|l53|l54|l55|l56|l57|l58|l59|l60|l61|l62|l63=>(constructor<;>(show _=_;k_is)))
#print axioms PySem.Challenge.cw_whistlebook_k24_draw_up_and_close_holds
