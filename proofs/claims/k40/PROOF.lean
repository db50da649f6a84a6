import PyProof.Rows.All
import Wide.All
import OpenK.AllK
import Wide.FinOn
import PyProof.EqAt
import PyProof.EqKinds
import PyProof.TupleCall
import Lean
import KE.KDictList
import PyProof.MaxThree
import KE.LcSums
import PyProof.Rows.FactsN_abs
import PyProof.FactsAll.list_3
import PyProof.SeqI3
import PyProof.EnumIter
import PyProof.EnumMake
import PyProof.EnumFor
import PyProof.ZipIter
import PyProof.FactsAll.zip_1
import PyProof.DictIter
import PyProof.MinMaxWalk
import PyProof.Rows.TupDisplay
import PyProof.Rows.SetFrom
import PyProof.FactsAll.NoneType_1
import PyProof.StrCalls2
import PyProof.FactsAll.list_4
import PyProof.ListRange
import PySem.Challenge.RW_whistlebook_k40_whole_any_pattern
set_option bootstrap.genMatcherCode false
set_option compiler.extract_closed false
set_option genSizeOfSpec false
local macro_rules|`(command|def $i:declId $s:optDeclSig $v:declVal)=>`(command|noncomputable def $i:declId $s:optDeclSig $v:declVal)|`(command|abbrev $i:declId $s:optDeclSig $v:declVal)=>`(command|noncomputable abbrev $i:declId $s:optDeclSig $v:declVal)
open PySem.W(Frag)
open Sum(inl inr)
local macro_rules|`(⋯)=>`(by first|decide +kernel|lia|omega|walk_at "ar")
local macro_rules|`(tactic|omega)=>`(tactic|lia)
abbrev zs4:=@List.length_map
abbrev zs5:=@List.getElem?_eq_getElem
abbrev zs6:=@List.getElem?_eq_some_iff
abbrev zs7:=@List.getElem?_map
abbrev zs8:=@List.length_append
abbrev zs9:=@List.mem_singleton
abbrev zta:=@decide_eq_true
abbrev ztb:=@List.mem_of_getElem?
abbrev ztc:=@Nat.le_refl
abbrev ztd:=@decide_eq_false
abbrev zte:=@List.mem_map
abbrev ztf:=@List.mem_cons
abbrev ztg:=@List.mem_append
abbrev zth:=@List.mem_append_right
abbrev zti:=@List.map_append
abbrev ztj:=@List.size_toArray
abbrev ztk:=@Nat.le_trans
abbrev ztl:=@Int.toNat_natCast
abbrev ztm:=@List.map_cons
abbrev ztn:=@Nat.lt_of_lt_of_le
abbrev zto:=@List.take_length
abbrev ztp:=@List.take_succ_eq_append_getElem
abbrev ztq:=@List.getD_eq_getElem?_getD
abbrev ztr:=@List.length_range
abbrev zts:=@Nat.ne_of_lt
abbrev ztt:=@List.length_cons
abbrev ztu:=@List.mem_append_left
abbrev ztv:=@Bool.false_ne_true
abbrev ztw:=@List.getElem_mem
abbrev ztx:=@List.mem_cons_of_mem
abbrev zty:=@beq_eq_false_iff_ne
abbrev ztz:=@List.mem_cons_self
abbrev zt0:=@List.nodup_cons
abbrev zt1:=@List.mem_filter
abbrev zt2:=@List.getElem_of_mem
abbrev zt3:=@List.lookup_cons
abbrev zt4:=@List.getElem?_append_right
abbrev zt5:=@List.mem_range
abbrev zt6:=@Nat.zero_le
abbrev zt7:=@List.getElem?_append_left
abbrev zt8:=@List.filter_cons
abbrev zt9:=@List.getElem?_range
abbrev zua:=@Option.map_some
abbrev zub:=@List.length_filter_le
abbrev zuc:=@Int.zero_add
abbrev zud:=@List.map_map
abbrev zue:=@List.not_mem_nil
abbrev zuf:=@List.take_add_one
abbrev zug:=@List.getElem?_set_ne
abbrev zuh:=@List.getElem?_set_self
abbrev zui:=@List.append_nil
abbrev zuj:=@List.filter_cons_of_pos
abbrev zuk:=@List.filter_cons_of_neg
abbrev zul:=@List.filter_append
abbrev zum:=@Nat.lt_irrefl
abbrev zun:=@List.map_congr_left
abbrev zuo:=@List.append_assoc
abbrev zup:=@List.getElem?_eq_none
abbrev zuq:=@Nat.le_succ_of_le
abbrev zur:=@List.length_take
abbrev zus:=@Bool.and_eq_true
abbrev zut:=@List.all_eq_true
abbrev zuu:=@List.reverse_cons
abbrev zuv:=@Nat.lt_succ_of_lt
abbrev zuw:=@Option.isSome_iff_exists
abbrev zux:=@Bool.false_eq_true
abbrev zuy:=@List.nodup_nil
abbrev zuz:=@List.filter_congr
abbrev zu0:=@List.length_set
abbrev zu1:=@List.length_take_le
abbrev zu2:=@Nat.not_lt_zero
abbrev zu3:=@List.mem_filterMap
abbrev zu4:=@Nat.lt_of_le_of_lt
abbrev zu5:=@List.range_succ
abbrev zu6:=@List.filterMap_cons
abbrev zu7:=@List.length_reverse
abbrev zu8:=@List.length_drop
abbrev zu9:=@List.find?_cons
abbrev zva:=@List.filter_nil
abbrev zvb:=@Bool.not_eq_true'
abbrev zvc:=@Nat.lt_succ_self
abbrev zvd:=@List.any_cons
abbrev zve:=@List.filter_map
abbrev zvf:=@Int.emod_lt_of_pos
abbrev zvg:=@Nat.le_of_lt
set_option Elab.async false
set_option linter.all false
set_option maxRecDepth 100000
namespace L2
open PySem PySem.Spec PyProof.Rows
abbrev Key:=Sum Int Str
def Jr:Key->Value->Bool
 | .inl k,v=>Value.isInt k v
 | .inr x,v=>Value.isStrOf x v
def zj4(w:World):Key->Int
 | .inl k=>hashInt k
 | .inr x=>hashStr w x
theorem Yv:∀ {k:Key} {v:Value},Jr k v=true->(∃ i t,k=inl i/\v=Value.int i t)\/(∃ x t,k=inr x/\v=Value.str x t)
 | .inl i,v,h=>by
   obtain⟨t,e⟩:=Value.isInt_shape (k:=i) (v:=v) h;exact .inl ⟨i,t,rfl,e⟩
 | .inr x,v,h=>by
   obtain⟨t,e⟩:=Value.isStrOf_shape (x:=x) (v:=v) h;exact .inr ⟨x,t,rfl,e⟩
theorem zbt(i:Int)(t:Tok):Jr (.inl i) (.int i t)=true:=by simp[Jr,Value.isInt]
theorem zbu(x:Str)(t:Tok):Jr (.inr x) (.str x t)=true:=by simp[Jr,Value.isStrOf]
theorem zgv(a b:Int):decide ((inl a:Key)=inl b)=(a == b):=by
 by_cases e:a=b
 ·subst e;simp
 ·have h:¬ (inl a:Key)=inl b:=fun q=>e (inl.inj q);rw[ztd h];exact(zty.mpr e).symm
theorem zgw(a b:Str):decide ((inr a:Key)=inr b)=decide (a=b):=by
 by_cases e:a=b
 ·subst e;simp
 ·have h:¬ (inr a:Key)=inr b:=fun q=>e (inr.inj q);rw[ztd h,ztd e]
theorem zgx(a:Int)(b:Str):decide ((inl a:Key)=inr b)=false:=ztd (fun q=>nomatch q)
theorem zgy(a:Str)(b:Int):decide ((inr a:Key)=inl b)=false:=ztd (fun q=>nomatch q)
def Yi(prog:Program)(w:World):PySem.KeyKind prog w Key where
 is:=Jr
 hash:=zj4 w
 inj:=fun v a b ha hb=>by
  rcases Yv ha with ⟨i,t,rfl,rfl⟩|⟨x,t,rfl,rfl⟩
  ·rcases Yv hb with ⟨j,u,rfl,e⟩|⟨y,u,rfl,e⟩
   ·injection e with e1 _;rw[e1]
   ·exact nomatch e
  ·rcases Yv hb with ⟨j,u,rfl,e⟩|⟨y,u,rfl,e⟩
   ·exact nomatch e
   ·injection e with e1 _;rw[e1]
 byValue:=fun k v h=>by
  rcases Yv h with ⟨i,t,rfl,rfl⟩|⟨x,t,rfl,rfl⟩<;>rfl
 pyHash:=fun hv h=>by
  rcases Yv hv with ⟨i,t,rfl,rfl⟩|⟨x,t,rfl,rfl⟩
  ·exact wpAny_pyHash_int h
  ·exact wpAny_pyHash_str h
 eqBool:=fun hu hv h=>by
  rcases Yv hu with ⟨i,t,rfl,rfl⟩|⟨x,t,rfl,rfl⟩
  ·rcases Yv hv with ⟨j,u,rfl,rfl⟩|⟨y,u,rfl,rfl⟩
   ·rw[zgv] at h;exact wpAny_eqBool_int h
   ·rw[zgx] at h;exact SeqAt.EqAt.int_str i t y u _ _ _ _ h
  ·rcases Yv hv with ⟨j,u,rfl,rfl⟩|⟨y,u,rfl,rfl⟩
   ·rw[zgy] at h;exact SeqAt.EqAt.str_int x t j u _ _ _ _ h
   ·rw[zgw] at h;exact wpAny_eqBool_str h
 «strs»:=fun k x t v h=>by
  rcases Yv h with ⟨i,u,rfl,e⟩|⟨y,u,rfl,e⟩
  ·exact nomatch e
  ·injection e with e1 _;subst e1;cases v<;>rfl
theorem D5(prog:Program)(w:World)(i:Int)(t:Tok):(Yi prog w).is (.inl i) (.int i t)=true:=zbt i t
theorem D6(prog:Program)(w:World)(x:Str)(t:Tok):(Yi prog w).is (.inr x) (.str x t)=true:=zbu x t
inductive V where
 | non|bl (b:Bool)|int (i:Int)|str (x:Str)|byt (b:Array UInt8)|flt (b:UInt64)|ref (a:Addr)|ty (n:String)
 deriving DecidableEq
def RelV:V->Value->Prop
 | .non,u=>u=Value.none
 | .bl b,u=>u=Value.bool b
 | .int i,u=>∃ t,u=Value.int i t
 | .str x,u=>∃ t,u=Value.str x t
 | .byt b,u=>∃ t,u=Value.bytes b t
 | .flt b,u=>∃ t,u=Value.float b t
 | .ref a,u=>u=Value.ref a
 | .ty n,u=>u=Value.type n
abbrev Vals:List V->List Value->Prop:=Paired RelV
theorem Vals.length(r:Vals xs us):xs.length=us.length:=Paired.length r
theorem Vals.get:∀ {xs:List V} {us:List Value} {i:Nat} {x:V},Vals xs us->xs[i]?=some x->∃ u,us[i]?=some u/\RelV x u
 | _,_,_,_,.nil,e=>by simp at e
 | _,_,0,_,.cons r _,e=>by simp at e;subst e;exact⟨_,rfl,r⟩
 | _,_,i+1,x,.cons _ t,e=>by
   obtain⟨u,h1,h2⟩:=Vals.get (i:=i) (x:=x) t (by simpa using e);exact⟨u,by simpa using h1,h2⟩
theorem Vals.set(r:RelV x u):∀ {xs:List V} {us:List Value} (i:Nat),Vals xs us->Vals (xs.set i x) (us.set i u)
 | _,_,_,.nil=>.nil
 | _,_,0,.cons _ t=>.cons r t
 | _,_,i+1,.cons q t=>.cons q (Vals.set r i t)
theorem Vals.append:∀ {xs ys:List V} {us ws:List Value},Vals xs us->Vals ys ws->Vals (xs++ys) (us++ws)
 | _,_,_,_,.nil,s=>s
 | _,_,_,_,.cons r t,s=>.cons r (Vals.append t s)
theorem Vals.take:∀ {xs:List V} {us:List Value} (n:Nat),Vals xs us->Vals (xs.take n) (us.take n)
 | _,_,0,_=>.nil
 | _,_,_+1,.nil=>.nil
 | _,_,n+1,.cons r t=>.cons r (Vals.take n t)
theorem Vals.drop:∀ {xs:List V} {us:List Value} (n:Nat),Vals xs us->Vals (xs.drop n) (us.drop n)
 | _,_,0,r=>r
 | _,_,_+1,.nil=>.nil
 | _,_,n+1,.cons _ t=>Vals.drop n t
def RelO:Option V->Option Value->Prop
 | some v,some u=>RelV v u
 | none,none=>True
 | _,_=>False
def KV{κ:Type}:List (κ×V)->List (κ×Value)->Prop:=Paired fun (p:κ×V) (q:κ×Value)=>p.1=q.1/\RelV p.2 q.2
def kV:Key->V
 | .inl i=>.int i
 | .inr x=>.str x
inductive HO where
 | lst (xs:List V)
 | tup (xs:List V)
 | dK (kvs:List (Key×V))|dT (kvs:List (List Key×V))
 | set (S:Int->Bool) (n:Nat)
 | ins (C dx:Addr) (fs:List (Str×V))
 | own (x:Addr)
 | xd (fs:List (Str×V))
 | met (f x:Addr)
 | rng (lo hi:Int)
 | frz (o:Obj) (u:HO)
 | tbl (ps:Array Value)
 | ext (φ:Heap->Prop)
abbrev Hp:=Addr->Option HO
def upd(H:Hp)(a:Addr)(o:HO):Hp:=fun b=>if b=a then some o else H b
theorem Ze:upd H a o a=some o:=by unfold upd;rw[if_pos rfl]
theorem Zh(h:b≠a):upd H a o b=H b:=by unfold upd;rw[if_neg h]
theorem Jg:upd (upd H a o) a u=upd H a u:=by
 funext b;unfold upd;split<;>rfl
theorem Xm{H:Hp}{a b:Addr}{o u:HO}(h:H a=some o)(h':H b=some u)(d:o≠u):a≠b:=by
 intro e;subst e;rw[h] at h';exact d (Option.some.inj h')
theorem Zg{H:Hp}{a b:Addr}{o:HO}(h:H a=some o)(h':H b=none):a≠b:=by
 intro e;subst e;rw[h] at h';cases h'
section
variable(P:Program)(w:World)
def Yw(H:Hp)(h:Heap)(a:Addr):HO->Prop
 | .lst xs=>xs.length<=sizeLine/\∃ (its:List Value) (n:Nat),Vals xs its/\h.get? a=some { cls:=.type "list",data:=.seq its.toArray n }
 | .tup xs=>xs.length<=sizeLine/\∃ its:List Value,Vals xs its/\IsTup h a its.toArray
 | .dK kvs=>kvs.length<=sizeLine/\(a == sysModules)=false/\∃ vs,KV kvs vs/\h.DictOf (Yi P w) a vs
 | .dT kvs=>kvs.length<=sizeLine/\(a == sysModules)=false/\∃ xs:List (List Key×Addr×Value),
   Paired (fun (p:List Key×V) (q:List Key×Addr×Value)=>p.1=q.1/\H q.2.1=some (.tup (p.1.map kV))/\RelV p.2 q.2.2) kvs xs /\
   ∃ o es ep,h.get? a=some o/\o.ExactDict/\o.data=.dict es ep/\es.toList=xs.map (entryOfKey (tupleKind (Yi P w)))/\(xs.map (·.1)).Nodup
 | .set S n=>h.SetOf (intKind P w) a S n
 | .ins C dx fs=>H dx=some (.own a)/\fs.length<=1000/\dx≠a/\h.get? a=some (PySem.W.instObj C dx) /\
   ∃ mA,h.Ns1 dx mA/\(∀ f,RelO (fs.lookup f) (mA f))/\PySem.Within mA (fs.map (·.1))
 | .own _=>∃ o,h.get? a=some o
 | .xd fs=>∃ mA,h.Ns1 a mA/\∀ f,RelO (fs.lookup f) (mA f)
 | .rng lo hi=>∃ t u v,h.get? a=some { cls:=.type "range",data:=.fields #[.int lo t,.int hi u,.int 1 v] }
 | .frz o u=>h.get? a=some o/\Yw H h a u
 | .tbl ps=>h.get? a=some { cls:=.none,data:=.fields ps }
 | .met f x=>h.get? a=some (PySem.W.methodObj (.ref f) (.ref x))
 | .ext φ=>φ h/\(∃ o,h.get? a=some o)/\∀ h1 h2:Heap,φ h1->(∀ o,h1.get? a=some o->h2.get? a=some o)->φ h2
def HOk(H:Hp)(h:Heap):Prop:=∀ a o,H a=some o->Yw P w H h a o
end
section
variable{P:Program}{w:World}{H H':Hp}{h h':Heap}{a:Addr}{o:HO}
theorem Yw.lt(x:Yw P w H h a o):a<h.objs.size:=by
 cases o with
 | lst xs=>obtain⟨_,_,_,_,e⟩:=x;exact Heap.lt_size e
 | tup xs=>obtain⟨_,_,_,p⟩:=x;exact p.lt
 | dK kvs=>obtain⟨_,_,_,_,o,_,_,e,_⟩:=x;exact Heap.lt_size e
 | dT kvs=>obtain⟨_,_,_,_,o,_,_,e,_⟩:=x;exact Heap.lt_size e
 | set S n=>obtain⟨o,_,_,_,e,_⟩:=x;exact Heap.lt_size e
 | ins C dx fs=>obtain⟨_,_,_,e,_⟩:=x;exact Heap.lt_size e
 | own y=>obtain⟨_,e⟩:=x;exact Heap.lt_size e
 | xd fs=>obtain⟨_,⟨_,_,_,e,_⟩,_⟩:=x;exact Heap.lt_size e
 | rng lo hi=>obtain⟨_,_,_,e⟩:=x;exact Heap.lt_size e
 | frz ob u=>obtain⟨e,_⟩:=x;exact Heap.lt_size e
 | tbl ps=>exact Heap.lt_size (show h.get? a=some _ from x)
 | met f y=>exact Heap.lt_size (show h.get? a=some _ from x)
 | ext φ=>obtain⟨_,⟨_,e⟩,_⟩:=x;exact Heap.lt_size e
theorem Paired.mapP:∀ {l₁:List α} {l₂:List β},Paired F l₁ l₂->(∀ a b,F a b->G a b)->Paired G l₁ l₂
 | _,_,.nil,_=>.nil
 | _,_,.cons r t,f=>.cons (f _ _ r) (Paired.mapP t f)
theorem Yw.stay(x:Yw P w H h a o)(k:∀ b u,(b=a\/H b=some (.own a))->h.get? b=some u->h'.get? b=some u)
  (ho:∀ b,H b=some (.own a)->H' b=some (.own a)) (ht:∀ b xs,H b=some (.tup xs)->H' b=some (.tup xs)):Yw P w H' h' a o:=by
 induction o with
 | lst xs=>obtain⟨z,its,n,r,e⟩:=x;exact⟨z,its,n,r,k _ _ (.inl rfl) e⟩
 | tup xs=>obtain⟨z,its,r,ob,e,c⟩:=x;exact⟨z,its,r,ob,k _ _ (.inl rfl) e,c⟩
 | dK kvs=>obtain⟨z,y,vs,r,ob,es,ep,e,c⟩:=x;exact⟨z,y,vs,r,ob,es,ep,k _ _ (.inl rfl) e,c⟩
 | dT kvs =>
   obtain⟨z,y,xs,r,ob,es,ep,e,c⟩:=x;exact⟨z,y,xs,Paired.mapP r fun p q z=>⟨z.1,ht _ _ z.2.1,z.2.2⟩,ob,es,ep,k _ _ (.inl rfl) e,c⟩
 | set S n=>obtain⟨ob,es,ep,t,e,c⟩:=x;exact⟨ob,es,ep,t,k _ _ (.inl rfl) e,c⟩
 | ins C dx fs =>
   obtain⟨d,z,ne,e,mA,⟨od,es,ep,e2,c⟩,r⟩:=x;exact⟨ho _ d,z,ne,k _ _ (.inl rfl) e,mA,⟨od,es,ep,k _ _ (.inr d) e2,c⟩,r⟩
 | own y=>obtain⟨ob,e⟩:=x;exact⟨ob,k _ _ (.inl rfl) e⟩
 | xd fs=>obtain⟨mA,⟨od,es,ep,e,c⟩,r⟩:=x;exact⟨mA,⟨od,es,ep,k _ _ (.inl rfl) e,c⟩,r⟩
 | rng lo hi=>obtain⟨t,u,v,e⟩:=x;exact⟨t,u,v,k _ _ (.inl rfl) e⟩
 | frz ob u ih=>obtain⟨e,q⟩:=x;exact⟨k _ _ (.inl rfl) e,ih q⟩
 | tbl ps =>
   have e:h.get? a=some { cls:=.none,data:=.fields ps }:=x;show h'.get? a=some { cls:=.none,data:=.fields ps };exact k a _ (.inl rfl) e
 | met f y =>
   have e:h.get? a=some (PySem.W.methodObj (.ref f) (.ref y)):=x;show h'.get? a=some (PySem.W.methodObj (.ref f) (.ref y));exact k a _ (.inl rfl) e
 | ext φ=>obtain⟨p,⟨o,e⟩,st⟩:=x;exact⟨st _ _ p fun o q=>k _ _ (.inl rfl) q,⟨o,k _ _ (.inl rfl) e⟩,st⟩
theorem HOk.lt(x:HOk P w H h)(e:H a=some o):a<h.objs.size:=(x a o e).lt
theorem HOk.fresh(x:HOk P w H h)(e:h.objs.size<=a):H a=none:=by
 cases q:H a with
 | none=>rfl
 | some u=>exact absurd (ztn (x.lt q) e) (zum _)
theorem HOk.kept(x:HOk P w H h)(k:∀ b u,h.get? b=some u->h'.get? b=some u):HOk P w H h':=fun a o e =>
 (x a o e).stay (fun b u _ q=>k b u q) (fun _ q=>q) fun _ _ q=>q
theorem HOk.laid(x:HOk P w H h)(k:∀ b u,h.get? b=some u->h'.get? b=some u)(hp:h.objs.size<=a)(new:Yw P w (upd H a o) h' a o):HOk P w (upd H a o) h':=fun b u e=>by
 have hn:=x.fresh hp;by_cases hb:b=a
 ·subst hb;rw[Ze] at e;cases e;exact new
 ·rw[Zh hb] at e;exact(x b u e).stay (fun c v _ q=>k c v q) (fun c q=>by rw[Zh (Zg q hn)];exact q) fun c xs q=>by rw[Zh (Zg q hn)];exact q
end
def Rd(H:Hp)(a:Addr)(u:HO):Prop:=H a=some u\/∃ o,H a=some (.frz o u)
theorem Rd.ok(r:Rd H a u)(x:HOk P w H h):Yw P w H h a u:=by
 rcases r with r|⟨o,r⟩
 ·exact x a u r
 ·obtain⟨_,q⟩:=x a _ r;exact q
def Mut:Option HO->Prop
 | some (.lst _)=>True
 | some (.dK _)=>True
 | some (.dT _)=>True
 | some (.set _ _)=>True
 | some (.ins _ _ _)=>True
 | some (.ext _)=>True
 | _=>False
section
variable{P:Program}{w:World}{H:Hp}{h h':Heap}{x e:Addr}{o':HO}
theorem HOk.write(ok:HOk P w H h)(mu:Mut (H x))(he:e=x\/H e=some (.own x))(k:∀ b u,b≠e->h.get? b=some u->h'.get? b=some u)(heo:∃ u,h'.get? e=some u)
  (new:Yw P w (upd H x o') h' x o'):HOk P w (upd H x o') h':=fun b u q=>by
 have nown:∀ c y,H c=some (.own y)->c≠x:=fun c y r z=>by subst z;rw[r] at mu;exact mu
 have ntup:∀ c xs,H c=some (.tup xs)->c≠x:=fun c xs r z=>by subst z;rw[r] at mu;exact mu
 by_cases hb:b=x
 ·subst hb;rw[Ze] at q;cases q;exact new
 ·rw[Zh hb] at q;by_cases hbe:b=e
  ·have q':H b=some (.own x):=by
    rcases he with z|z
    ·exact absurd (hbe.trans z) hb
    ·rw[hbe];exact z
   rw[q] at q';cases q';obtain⟨v,hv⟩:=heo;exact⟨v,by rw[hbe];exact hv⟩
  ·refine(ok b u q).stay (fun c v hc r=>k c v ?_ r) (fun c r=>by rw[Zh (nown c b r)];exact r) fun c xs r=>by rw[Zh (ntup c xs r)];exact r
   rcases hc with rfl|hc
   ·exact hbe
   ·rintro rfl;rcases he with z|z
    ·exact nown c b hc z
    ·rw[hc] at z;cases z;exact hb rfl
end
structure Un(fs ex:List Addr)(H H':Hp)(h h':Heap):Prop where
 keep:∀ b o,h.get? b=some o->H b=none->b∉fs->b∉ex->h'.get? b=some o
 slot:∀ b o,h.get? b=some o->H b=none->b∈fs->b∉ex->∃ sl,h'.get? b=some { o with slots:=sl }
 free:∀ b o,h.get? b=some o->H b=none->b∉ex->H' b=none
 there:∀ b o,h.get? b=some o->b∉ex->∃ o',h'.get? b=some o'
 tups:∀ b xs,H b=some (.tup xs)->H' b=some (.tup xs)
 frzs:∀ b o u,H b=some (.frz o u)->H' b=some (.frz o u)
 tbls:∀ b ps,H b=some (.tbl ps)->∃ more,H' b=some (.tbl (ps++more))
section
variable{fs fs' ex ex':List Addr}{H H1 H2:Hp}{h h1 h2 h':Heap}{a x e:Addr}{o:HO}
theorem Un.any(u:Un fs ex H H1 h h1)(q:h.get? b=some ob)(n:H b=none)(hx:b∉ex):∃ sl,h1.get? b=some { ob with slots:=sl }:=by
 by_cases hb:b∈fs
 ·exact u.slot b ob q n hb hx
 ·exact⟨ob.slots,u.keep b ob q n hb hx⟩
theorem Un.kept(k:∀ b u,h.get? b=some u->h'.get? b=some u):Un fs ex H H h h' :=
 ⟨fun b ob q _ _ _=>k b ob q,fun b ob q _ _ _=>⟨ob.slots,k b ob q⟩,fun _ _ _ n _=>n,fun b ob q _=>⟨ob,k b ob q⟩,fun _ _ q=>q,fun _ _ _ q=>q,fun _ ps q=>⟨#[],by rw[q];simp⟩⟩
theorem Un.refl:Un fs ex H H h h:=Un.kept fun _ _ q=>q
theorem Un.laid(k:∀ b u,h.get? b=some u->h'.get? b=some u)(hp:h.objs.size<=a)(hn:H a=none):Un fs ex H (upd H a o) h h' where
 keep:=fun b u q _ _ _=>k b u q
 slot:=fun b u q _ _ _=>⟨u.slots,k b u q⟩
 free:=fun b u q n _=>by rw[Zh (zts (ztn (Heap.lt_size q) hp))];exact n
 there:=fun b u q _=>⟨u,k b u q⟩
 tups:=fun b xs q=>by rw[Zh (Zg q hn)];exact q
 frzs:=fun b u xs q=>by rw[Zh (Zg q hn)];exact q
 tbls:=fun b ps q=>⟨#[],by rw[Zh (Zg q hn),q];simp⟩
theorem Un.write(mu:Mut (H x))(he:e=x\/H e=some (.own x))(k:∀ b u,b≠e->h.get? b=some u->h'.get? b=some u)(heo:∃ u,h'.get? e=some u):Un fs ex H (upd H x o) h h':=by
 have hx:∀ b,H b=none->b≠x:=fun b n z=>by subst z;rw[n] at mu;exact mu
 have hb:∀ b,H b=none->b≠e:=fun b n z=>by
  subst z;rcases he with r|r
  ·exact hx b n r
  ·rw[n] at r;cases r
 have hm:∀ b u,H b=some u->¬ Mut (some u)->b≠x:=fun b u q nm z=>by subst z;rw[q] at mu;exact nm mu
 refine⟨fun b u q n _ _=>k b u (hb b n) q,fun b u q n _ _=>⟨u.slots,k b u (hb b n) q⟩,fun b u q n _=>by rw[Zh (hx b n)];exact n,fun b u q _=>?_,
  fun b xs q=>by rw[Zh (hm b _ q fun z=>z)];exact q,fun b u xs q=>by rw[Zh (hm b _ q fun z=>z)];exact q,fun b ps q=>⟨#[],by rw[Zh (hm b _ q fun z=>z),q];simp⟩⟩
 by_cases hbe:b=e
 ·subst hbe;exact heo
 ·exact⟨u,k b u hbe q⟩
end
def trk(h:Heap)(H:Hp):List Addr:=(List.range h.objs.size).filter fun a=>(H a).isSome
def Eg(h:Heap)(H:Hp):Heap:=PySem.W.hideAll h (trk h H)
theorem zbv(h:Heap)(H:Hp):(Eg h H).objs.size=h.objs.size:=PySem.W.hideAll_size _ _
theorem zc7(e:h.get? b=some o)(n:H b=none):(Eg h H).get? b=some o :=
 PySem.W.hideAll_get _ e fun hm=>by
  have q:(H b).isSome=true:=(zt1.mp hm).2;rw[n] at q;simp at q
theorem zfb(e:(Eg h H).get? b=some o):h.get? b=some o/\H b=none:=by
 have e':h.get? b=some o:=PySem.W.of_hideAll (trk h H) e;refine⟨e',?_⟩;cases q:H b with
 | none=>rfl
 | some x =>
   have hm:b∈trk h H:=zt1.mpr ⟨zt5.mpr (Heap.lt_size e'),by simp[q]⟩;have z:(Eg h H).get? b=none:=PySem.W.hideAll_none (trk h H) hm;rw[z] at e;cases e
structure Mod(K:Frag)(mg:Str->Option Value)(base:Heap):Prop where
 kin:K.In base
 glob:base.Ns mainGlobals mg
 blt:∃ mb,base.Ns builtinsNs mb/\∀ x:Str,x≠"__name__"->mb x=bootBuiltins x
 nolimit:base.NoLimit
structure Cx where
 prog:Program
 w:World
 K:Frag
 mg:Str->Option Value
 base:Heap
 A:Around
 N:List Str
 s₀:Shared
 H₀:Hp
 env:Env
 outer:List Env
 stack:List Env
 ex:List Addr
 fn:Str->Bool
 calm:Bool
 pn:List (Addr×Obj)
 xe:Value->Shared->Prop
 lk:List (Option V):=[]
def frs(l:List Env):List Addr:=l.filterMap (·.frame)
abbrev Cx.fs(X:Cx):List Addr:=frs X.outer
def Vis(sc:Scope)(x:Str):Prop:=sc.names.lookup x=some .local\/sc.names.lookup x=some .cell\/sc.names.lookup x=some .free
def Loc(sc:Scope)(x:Str):Prop:=sc.names.lookup x=some .local\/sc.names.lookup x=some .cell
def Look(env:Env)(h:Heap)(m:Str->Option Value)(x:Str)(u:Value):Prop :=
 (env.kindOf x=some .local/\m x=some u)\/((env.kindOf x=some .cell\/env.kindOf x=some .free)/\∃ c,env.cells.lookup x=some c/\h.IsCell c (some u))
structure Cx.Ok(X:Cx):Prop where
 mod:Mod X.K X.mg X.base
 kind:X.env.scope.kind=.function
 glob:X.env.globals=mainGlobals
 blt:X.env.builtins=builtinsNs
 above:X.s₀.heap.objs.size<=X.env.locals
 inj:∀ x y c,X.env.cells.lookup x=some c->X.env.cells.lookup y=some c->x=y
 has:∀ x,(X.env.kindOf x=some .cell\/X.env.kindOf x=some .free)->∃ c,X.env.cells.lookup x=some c
 cab:∀ x c,X.fn x=true->X.env.cells.lookup x=some c->X.s₀.heap.objs.size<=c
 hd:X.calm=true->X.A.handled=none
 frames:X.A.frames=some X.stack
 stk:X.stack=X.outer\/(X.stack=X.env :: X.outer/\X.env.frame=some X.env.locals)
 exf:∀ b∈X.ex,b≠X.env.locals/\∀ x c,X.env.cells.lookup x=some c->c≠b
 bs:∀ b o,X.base.get? b=some o->X.s₀.heap.get? b=some o/\X.H₀ b=none
 bsz:X.base.objs.size<=X.s₀.heap.objs.size
 noex:∀ b o,X.base.get? b=some o->b∉X.ex
 exfs:∀ b∈X.ex,b∉X.fs
 funs:X.s₀.heap.FunFrames X.base X.outer
 frf:∀ b∈X.fs,X.H₀ b=none
structure Inv(X:Cx)(pins:List (Addr×Obj))(σ:List (Option V))(H:Hp)(s:Shared):Prop where
 ok:X.Ok
 os:s.os=X.s₀.os
 bare:AllBare s.gens
 base:Un X.fs X.ex X.H₀ H X.s₀.heap s.heap
 loc:∃ m,s.heap.Ns X.env.locals m/\∀ (i:Nat) (x:Str) (v:V),X.N[i]?=some x->(σ[i]?=some (some v)\/X.lk[i]?=some (some v))->Vis X.env.scope x->∃ u,RelV v u/\Look X.env s.heap m x u
 cell:∀ x c,X.env.cells.lookup x=some c->∃ v,s.heap.IsCell c v
 free:H X.env.locals=none
 freeC:∀ x c,X.env.cells.lookup x=some c->H c=none
 pin:∀ p∈X.pn++pins,s.heap.get? p.1=some p.2/\H p.1=none/\p.1≠X.env.locals/\p.1∉X.fs/\∀ v,p.2.data≠.cell v
 hok:HOk X.prog X.w H s.heap
 len:σ.length=X.N.length
section
variable{X:Cx}{pins:List (Addr×Obj)}{σ:List (Option V)}{H H':Hp}{s:Shared}{h':Heap}
theorem Cx.Ok.nofr(ok:X.Ok)(e:X.base.get? b=some o):b∉X.fs:=fun hb=>by
 have:=(ok.funs.mem hb).1;rw[e] at this;cases this
theorem Inv.bs(I:Inv X pins σ H s):∀ b o,X.base.get? b=some o->s.heap.get? b=some o/\H b=none:=fun b o e =>
 ⟨I.base.keep b o (I.ok.bs b o e).1 (I.ok.bs b o e).2 (I.ok.nofr e) (I.ok.noex b o e),I.base.free b o (I.ok.bs b o e).1 (I.ok.bs b o e).2 (I.ok.noex b o e)⟩
theorem Inv.bk(I:Inv X pins σ H s):∀ b o,X.base.get? b=some o->s.heap.get? b=some o:=fun b o e=>(I.bs b o e).1
theorem Inv.mod(I:Inv X pins σ H s):Mod X.K X.mg X.base:=I.ok.mod
theorem Inv.kIn(I:Inv X pins σ H s):X.K.In s.heap:=I.ok.mod.kin.keeps I.bk
theorem Inv.lt(I:Inv X pins σ H s):X.env.locals<s.heap.objs.size:=let ⟨_,hn,_⟩:=I.loc;hn.lt
theorem Inv.sz(I:Inv X pins σ H s):X.s₀.heap.objs.size<=s.heap.objs.size:=ztk I.ok.above (zvg I.lt)
theorem Inv.nofs(I:Inv X pins σ H s)(h:s.heap.objs.size<=a):a∉X.fs:=fun hb=>by
 obtain⟨_,o,ho,_⟩:=I.ok.funs.mem hb;exact absurd (ztn (Heap.lt_size ho) (ztk I.sz h)) (zum _)
theorem Inv.cne(I:Inv X pins σ H s):∀ x c,X.env.cells.lookup x=some c->c≠X.env.locals:=fun x c e z=>by
 obtain⟨v,o,ho,hd⟩:=I.cell x c e;obtain⟨m,⟨o',es,ep,ho',hd',_⟩,_⟩:=I.loc;rw[z,ho'] at ho;cases ho;rw[hd'] at hd;cases hd
theorem Inv.funs(I:Inv X pins σ H s):s.heap.FunFrames X.base X.outer:=by
 have all:∀ (l:List Env),(∀ b∈frs l,b∈X.fs)->X.s₀.heap.FunFrames X.base l->s.heap.FunFrames X.base l:=by
  intro l
  induction l with
  | nil=>intro _ _;trivial
  | cons env r ih =>
    intro hs hl;obtain⟨hk,⟨L,o,hf,hn,ho,hd⟩,hr⟩:=hl;have hL:L∈X.fs:=hs L (by unfold frs;rw[zu6,hf];exact ztz);obtain⟨sl,e⟩:=I.base.slot L o ho (I.ok.frf L hL) hL fun z=>I.ok.exfs L z hL;exact⟨hk,⟨L,_,hf,hn,e,hd⟩,ih (fun b hb=>hs b (by unfold frs;rw[zu6,hf];exact ztx _ hb)) hr⟩
 exact all X.outer (fun _ hb=>hb) I.ok.funs
theorem Inv.stack(I:Inv X pins σ H s):s.heap.FunFrames X.base X.stack:=by
 rcases I.ok.stk with e|⟨e,hf⟩
 ·rw[e];exact I.funs
 ·rw[e];obtain⟨m,hn,_⟩:=I.loc;refine .cons (by rw[I.ok.kind];decide) hf hn ?_ I.funs;exact Heap.get?_none_of_le (ztk I.ok.bsz I.ok.above)
theorem Inv.stkSub(I:Inv X pins σ H s):∀ b∈frs X.stack,b∈X.env.locals :: X.fs:=fun b hb=>by
 rcases I.ok.stk with e|⟨e,hf⟩
 ·rw[e] at hb;exact ztx _ hb
 ·rw[e] at hb;unfold frs at hb;rw[zu6,hf] at hb;exact hb
theorem Inv.stkFree(I:Inv X pins σ H s):∀ b∈frs X.stack,H b=none:=fun b hb=>by
 rcases ztf.mp (I.stkSub b hb) with e|hb
 ·rw[e];exact I.free
 ·obtain⟨_,o,ho,_⟩:=I.ok.funs.mem hb;exact I.base.free b o ho (I.ok.frf b hb) fun z=>I.ok.exfs b z hb
theorem Inv.step{g':Array GenState}{t':Nat}{d':Drawn}{ch:List Addr}(I:Inv X pins σ H s)
  (hch:∀ b∈ch,(b∈X.ex\/X.s₀.heap.objs.size<=b)/\b≠X.env.locals/\(∀ x c,X.env.cells.lookup x=some c->c≠b)/\∀ p∈X.pn++pins,p.1≠b)
  (keep:∀ b o,b≠X.env.locals->b∉X.fs->b∉ch->s.heap.get? b=some o->H b=none->h'.get? b=some o)
  (slot:∀ b o,b≠X.env.locals->b∈X.fs->b∉ch->s.heap.get? b=some o->H b=none->∃ sl,h'.get? b=some { o with slots:=sl }) (free:∀ b o,b∉ch->s.heap.get? b=some o->H b=none->H' b=none)
  (there:∀ b o,b∉ch->s.heap.get? b=some o->∃ o',h'.get? b=some o')
  (tups:∀ b xs,H b=some (.tup xs)->H' b=some (.tup xs)) (frzs:∀ b o u,H b=some (.frz o u)->H' b=some (.frz o u)) (tbls:∀ b ps,H b=some (.tbl ps)->∃ more,H' b=some (.tbl (ps++more)))
  (ns:∀ m,s.heap.Ns X.env.locals m->h'.Ns X.env.locals m) (hok:HOk X.prog X.w H' h') (hg:AllBare g') :
  Inv X pins σ H' { s with heap:=h',gens:=g',drawn:=d',toks:=t' }:=by
 have neL:∀ b o,X.s₀.heap.get? b=some o->b≠X.env.locals:=fun b o e=>zts (ztn (Heap.lt_size e) I.ok.above);have neC:∀ b o,X.s₀.heap.get? b=some o->b∉X.ex->b∉ch:=fun b o e hx hb=>by
  rcases(hch b hb).1 with z|z
  ·exact hx z
  ·exact absurd (ztn (Heap.lt_size e) z) (zum _)
 have cellK:∀ x c,X.env.cells.lookup x=some c->∀ v,s.heap.IsCell c v->h'.IsCell c v:=fun x c e v ⟨o,ho,hd⟩=>by
  have nch:c∉ch:=fun z=>(hch c z).2.2.1 x c e rfl;by_cases hc:c∈X.fs
  ·obtain⟨sl,q⟩:=slot c o (I.cne x c e) hc nch ho (I.freeC x c e);exact⟨_,q,hd⟩
  ·exact⟨o,keep c o (I.cne x c e) hc nch ho (I.freeC x c e),hd⟩
 refine⟨I.ok,I.os,hg,⟨fun b o e n hb hx=>?_,fun b o e n hb hx=>?_,fun b o e n hx=>?_,fun b o e hx=>?_,fun b xs e=>tups b xs (I.base.tups b xs e),fun b o xs e=>frzs b o xs (I.base.frzs b o xs e),fun b ps e=>?_⟩,?_,fun x c e=>?_,?_,fun x c e=>?_,fun p hp=>?_,hok,I.len⟩
 ·exact keep b o (neL b o e) hb (neC b o e hx) (I.base.keep b o e n hb hx) (I.base.free b o e n hx)
 ·obtain⟨sl,e1⟩:=I.base.slot b o e n hb hx;obtain⟨sl',e2⟩:=slot b _ (neL b o e) hb (neC b o e hx) e1 (I.base.free b o e n hx);exact⟨sl',e2⟩
 ·obtain⟨o',e1⟩:=I.base.there b o e hx;exact free b o' (neC b o e hx) e1 (I.base.free b o e n hx)
 ·obtain⟨o',e1⟩:=I.base.there b o e hx;exact there b o' (neC b o e hx) e1
 ·obtain⟨m1,e1⟩:=I.base.tbls b ps e;obtain⟨m2,e2⟩:=tbls b _ e1;exact⟨m1++m2,by rw[e2,Array.append_assoc]⟩
 ·obtain⟨m,hn,hl⟩:=I.loc;refine⟨m,ns m hn,fun i x v e1 e2 e3=>?_⟩;obtain⟨u,r,l⟩:=hl i x v e1 e2 e3;refine⟨u,r,?_⟩;rcases l with l|⟨k,c,e,z⟩
  ·exact .inl l
  ·exact .inr ⟨k,c,e,cellK x c e _ z⟩
 ·obtain⟨v,z⟩:=I.cell x c e;exact⟨v,cellK x c e v z⟩
 ·obtain⟨m,⟨o,_,_,ho,_⟩,_⟩:=I.loc;exact free _ o (fun z=>(hch _ z).2.1 rfl) ho I.free
 ·obtain⟨v,o,ho,hd⟩:=I.cell x c e;exact free c o (fun z=>(hch c z).2.2.1 x c e rfl) ho (I.freeC x c e)
 ·obtain⟨e,n,ne,nf,d⟩:=I.pin p hp;have nch:p.1∉ch:=fun z=>(hch p.1 z).2.2.2 p hp rfl;exact⟨keep p.1 p.2 ne nf nch e n,free p.1 p.2 nch e n,ne,nf,d⟩
theorem Inv.un{t':Nat}(I:Inv X pins σ H s)(u:Un X.fs [] H H' s.heap h')(hok:HOk X.prog X.w H' h'):Inv X pins σ H' { s with heap:=h',toks:=t' }:=by
 obtain⟨m,⟨o,es,ep,ho,r⟩,_⟩:=id I.loc;obtain⟨sl,hL⟩:=u.any ho I.free (by simp);exact I.step (g':=s.gens) (d':=s.drawn) (ch:=[]) (fun _ z=>nomatch z) (fun b o _ hb _ e n=>u.keep b o e n hb (by simp)) (fun b o _ hb _ e n=>u.slot b o e n hb (by simp)) (fun b o _ e n=>u.free b o e n (by simp)) (fun b o _ e=>u.there b o e (by simp)) u.tups u.frzs u.tbls (fun m' hm=>by
  obtain⟨o',es',ep',ho',r'⟩:=hm;rw[ho] at ho';cases ho';exact⟨_,es',ep',hL,r'⟩) hok I.bare
theorem Inv.call{g':Array GenState}{t':Nat}{d':Drawn}{ch:List Addr}(I:Inv X pins σ H s)(u:Un (frs X.stack) ch H H' s.heap h')(hok:HOk X.prog X.w H' h')(hg:AllBare g')
  (hch:∀ b∈ch,(b∈X.ex\/X.s₀.heap.objs.size<=b)/\b≠X.env.locals/\(∀ x c,X.env.cells.lookup x=some c->c≠b)/\∀ p∈X.pn++pins,p.1≠b) :
  Inv X pins σ H' { s with heap:=h',gens:=g',drawn:=d',toks:=t' }:=by
 obtain⟨m,⟨o,es,ep,ho,r⟩,_⟩:=id I.loc;obtain⟨sl,hL⟩:=u.any ho I.free fun z=>(hch _ z).2.1 rfl;exact I.step (ch:=ch) hch (fun b o hL hb hc e n=>u.keep b o e n (fun z=>(ztf.mp (I.stkSub b z)).elim hL hb) hc) (fun b o _ _ hc e n=>u.any e n hc) (fun b o hc e n=>u.free b o e n hc) (fun b o hc e=>u.there b o e hc) u.tups u.frzs u.tbls (fun m' hm=>by
  obtain⟨o',es',ep',ho',r'⟩:=hm;rw[ho] at ho';cases ho';exact⟨_,es',ep',hL,r'⟩) hok hg
theorem Inv.turned{t':Nat}{it:Addr}(I:Inv X pins σ H s)(k:∀ b o,b≠it->s.heap.get? b=some o->h'.get? b=some o)(hn:H it=none)(hL:it≠X.env.locals)
  (h1:it∈X.ex\/X.s₀.heap.objs.size<=it) (h2:∀ x c,X.env.cells.lookup x=some c->c≠it) (h3:∀ p∈X.pn++pins,p.1≠it):Inv X pins σ H { s with heap:=h',toks:=t' }:=by
 have nit:∀ b u,H b=some u->b≠it:=fun b u e z=>by rw[z,hn] at e;cases e
 refine I.step (g':=s.gens) (d':=s.drawn) (ch:=[it]) (fun b hb=>?_) (fun b o _ _ hc e _=>k b o (fun z=>hc (by simp[z])) e) (fun b o _ _ hc e _=>⟨o.slots,k b o (fun z=>hc (by simp[z])) e⟩) (fun _ _ _ _ n=>n)
  (fun b o hc e=>⟨o,k b o (fun z=>hc (by simp[z])) e⟩) (fun _ _ e=>e) (fun _ _ _ e=>e) (fun b ps e=>⟨#[],by rw[e];simp⟩) (fun m hm=>?_) (fun b u e=>?_) I.bare
 ·have e:b=it:=by simpa using hb
  subst e;exact⟨h1,hL,h2,h3⟩
 ·obtain⟨o,es,ep,ho,r⟩:=hm;exact⟨o,es,ep,k _ o (Ne.symm hL) ho,r⟩
 ·refine(I.hok b u e).stay (fun c v hc q=>k c v ?_ q) (fun _ q=>q) fun _ _ q=>q;rcases hc with z|z
  ·rw[z];exact nit b u e
  ·exact nit c _ z
theorem Inv.tok(I:Inv X pins σ H s)(t:Nat):Inv X pins σ H { s with toks:=t }:=I.un (h':=s.heap) (t':=t) Un.refl I.hok
theorem Inv.kept(I:Inv X pins σ H s)(k:∀ b u,s.heap.get? b=some u->h'.get? b=some u):Inv X pins σ H { s with heap:=h',toks:=t' }:=I.un (Un.kept k) (I.hok.kept k)
theorem Inv.laid(I:Inv X pins σ H s)(k:∀ b u,s.heap.get? b=some u->h'.get? b=some u)(hp:s.heap.objs.size<=a)(new:Yw X.prog X.w (upd H a o) h' a o) :
  Inv X pins σ (upd H a o) { s with heap:=h',toks:=t' }:=I.un (Un.laid k hp (I.hok.fresh hp)) (I.hok.laid k hp new)
theorem Inv.write(I:Inv X pins σ H s)(mu:Mut (H x))(he:e=x\/H e=some (.own x))(k:∀ b u,b≠e->s.heap.get? b=some u->h'.get? b=some u)(heo:∃ u,h'.get? e=some u)
  (new:Yw X.prog X.w (upd H x o) h' x o):Inv X pins σ (upd H x o) { s with heap:=h',toks:=t' }:=I.un (Un.write mu he k heo) (I.hok.write mu he k heo new)
theorem Inv.weak(I:Inv X pins σ H s)(hl:σ'.length=σ.length)(w:∀ (i:Nat) v,σ'[i]?=some (some v)->σ[i]?=some (some v)):Inv X pins σ' H s :=
 ⟨I.ok,I.os,I.bare,I.base,let ⟨m,hn,hl'⟩:=I.loc;⟨m,hn,fun i x v e1 e2 e3=>hl' i x v e1 (e2.imp_left (w i v)) e3⟩,I.cell,I.free,I.freeC,I.pin,I.hok,hl.trans I.len⟩
theorem Inv.pins_of(I:Inv X pins σ H s)(h:∀ p∈pins',s.heap.get? p.1=some p.2/\H p.1=none/\p.1≠X.env.locals/\p.1∉X.fs/\∀ v,p.2.data≠.cell v):Inv X pins' σ H s :=
 ⟨I.ok,I.os,I.bare,I.base,I.loc,I.cell,I.free,I.freeC,fun p hp=>(ztg.mp hp).elim (fun z=>I.pin p (ztu _ z)) (h p),I.hok,I.len⟩
theorem D7{N:List Str}(hN:N.Nodup){i j:Nat}{x:Str}(a:N[i]?=some x)(b:N[j]?=some x):i=j:=by
 obtain⟨h1,e1⟩:=zs6.mp a;obtain⟨h2,e2⟩:=zs6.mp b;exact(List.getElem_inj hN).mp (e1.trans e2.symm)
def D8(X:Cx)(i:Nat)(x:Str):Prop:=(X.fn x=true\/X.env.scope.names.lookup x=some .local)/\∀ v,X.lk[i]?≠some (some v)
theorem X4{i:Nat}:∀ v:V,([]:List (Option V))[i]?≠some (some v):=fun _ h=>by simp at h
theorem M0{M:Model}{A:Around}{E:Value->Shared->Prop}{i:Nat}{x:Str}{v:V}{u:Value}{Q:Unit->Shared->Prop}(I:Inv X pins σ H s)(hN:X.N.Nodup)(hi:X.N[i]?=some x)(hx:Loc X.env.scope x)(r:RelV v u)
  (h:∀ s',Inv X pins (σ.set i (some v)) H s'->(∃ a,Heap.SameBut a s.heap s'.heap/\(a=X.env.locals\/X.env.cells.lookup x=some a))->Q () s') (hf:D8 X i x:=by first|exact⟨.inl rfl,X4⟩|exact⟨.inr rfl,X4⟩|assumption|exact⟨.inl rfl,by assumption⟩|exact⟨.inr rfl,by assumption⟩):wpAny M A (storeName X.env x u) Q E s:=by
 obtain⟨m,hn,hl⟩:=id I.loc;have hcls:(X.env.scope.kind == .class||(X.env.scope.kind == .module&&X.env.locals != X.env.globals))=false:=by rw[I.ok.kind];rfl
 have hiσ:i<σ.length:=by rw[I.len];exact(zs6.mp hi).1
 have cne:=I.cne;have tracked:∀ {a:Addr} {h':Heap},(∃ o,s.heap.get? a=some o/\H a=none)->Heap.SameBut a s.heap h'->HOk X.prog X.w H h':=fun {a h'} ha hs b ob e=>by
  obtain⟨_,_,hfree⟩:=ha;refine(I.hok b ob e).stay (fun c w' hc q=>(hs.2 c ?_).trans q) (fun _ q=>q) fun _ _ q=>q;rintro rfl;rcases hc with rfl|hc
  ·rw[hfree] at e;cases e
  ·rw[hfree] at hc;cases hc
 rcases hx with hk|hk
 ·refine wpAny_storeName_local hk hn (fun h' hn' hs=>?_) hcls;obtain⟨oL,_,_,hoL,_⟩:=id hn;refine h _ ⟨I.ok,I.os,I.bare,⟨fun b o e n hb hx=>?_,fun b o e n hb hx=>?_,I.base.free,fun b o e hx=>?_,I.base.tups,I.base.frzs,I.base.tbls⟩,⟨_,hn',fun j y v' e1 e2 e3=>?_⟩,fun y c e=>?_,I.free,I.freeC,fun p hp=>?_,tracked ⟨oL,hoL,I.free⟩ hs,by simpa using I.len⟩ ⟨_,hs,.inl rfl⟩
  ·exact(hs.2 b (zts (ztn (Heap.lt_size e) I.ok.above))).trans (I.base.keep b o e n hb hx)
  ·obtain⟨sl,e1⟩:=I.base.slot b o e n hb hx;exact⟨sl,(hs.2 b (zts (ztn (Heap.lt_size e) I.ok.above))).trans e1⟩
  ·obtain⟨o',e1⟩:=I.base.there b o e hx;exact⟨o',(hs.2 b (zts (ztn (Heap.lt_size e) I.ok.above))).trans e1⟩
  ·by_cases hj:j=i
   ·subst hj;rw[hi] at e1;cases e1;rcases e2 with e2|e2
    case' inr=>exact absurd e2 (hf.2 _)
    rw[zuh hiσ] at e2;cases e2;exact⟨u,r,.inl ⟨hk,by simp⟩⟩
   ·have e2:σ[j]?=some (some v')\/X.lk[j]?=some (some v'):=e2.imp_left fun z=>by rw[zug (Ne.symm hj)] at z;exact z
    obtain⟨u',r',q⟩:=hl j y v' e1 e2 e3;refine⟨u',r',?_⟩;rcases q with ⟨k,e⟩|⟨k,c,e,z⟩
    ·refine .inl ⟨k,?_⟩;have:y≠x:=fun e=>hj (D7 hN e1 (e▸hi));simp[this,e]
    ·exact .inr ⟨k,c,e,z.sameBut hs (cne y c e)⟩
  ·obtain⟨w',z⟩:=I.cell y c e;exact⟨w',z.sameBut hs (cne y c e)⟩
  ·obtain⟨e,n,ne,nf,d⟩:=I.pin p hp;exact⟨(hs.2 p.1 ne).trans e,n,ne,nf,d⟩
 ·have hfn:X.fn x=true:=by
   rcases hf.1 with z|z
   ·exact z
   ·rw[z] at hk;cases hk
  obtain⟨c,hc⟩:=I.ok.has x (.inl hk);obtain⟨w',z⟩:=I.cell x c hc;refine wpAny_storeName_cell I.ok.kind hk hc z (fun h' hc' hs=>?_);obtain⟨oc,hoc,hocd⟩:=id z;refine h { s with heap:=h' } ⟨I.ok,I.os,I.bare,⟨fun b o e n hb hx=>?_,fun b o e n hb hx=>?_,I.base.free,fun b o e hx=>?_,I.base.tups,I.base.frzs,I.base.tbls⟩,⟨m,hn.sameBut hs (Ne.symm (cne x c hc)),fun j y v' e1 e2 e3=>?_⟩,fun y c' e=>?_,I.free,I.freeC,fun p hp=>?_,tracked ⟨oc,hoc,I.freeC x c hc⟩ hs,by simpa using I.len⟩ ⟨c,hs,.inr hc⟩
  ·exact(hs.2 b (zts (ztn (Heap.lt_size e) (I.ok.cab x c hfn hc)))).trans (I.base.keep b o e n hb hx)
  ·obtain⟨sl,e1⟩:=I.base.slot b o e n hb hx;exact⟨sl,(hs.2 b (zts (ztn (Heap.lt_size e) (I.ok.cab x c hfn hc)))).trans e1⟩
  ·obtain⟨o',e1⟩:=I.base.there b o e hx;exact⟨o',(hs.2 b (zts (ztn (Heap.lt_size e) (I.ok.cab x c hfn hc)))).trans e1⟩
  ·by_cases hj:j=i
   ·subst hj;rw[hi] at e1;cases e1;rcases e2 with e2|e2
    case' inr=>exact absurd e2 (hf.2 _)
    rw[zuh hiσ] at e2;cases e2;exact⟨u,r,.inr ⟨.inl hk,c,hc,hc'⟩⟩
   ·have e2:σ[j]?=some (some v')\/X.lk[j]?=some (some v'):=e2.imp_left fun z=>by rw[zug (Ne.symm hj)] at z;exact z
    obtain⟨u',r',q⟩:=hl j y v' e1 e2 e3;refine⟨u',r',?_⟩;rcases q with q|⟨k,c',e,z'⟩
    ·exact .inl q
    ·refine .inr ⟨k,c',e,z'.sameBut hs ?_⟩;rintro rfl;exact hj (D7 hN e1 (I.ok.inj _ _ _ e hc▸hi))
  ·by_cases hcc:c'=c
   ·subst hcc;exact⟨_,hc'⟩
   ·obtain⟨w2,z2⟩:=I.cell y c' e;exact⟨w2,z2.sameBut hs hcc⟩
  ·obtain⟨e,n,ne,nf,d⟩:=I.pin p hp;refine⟨(hs.2 p.1 ?_).trans e,n,ne,nf,d⟩;intro q;rw[q,hoc] at e;have q':oc=p.2:=Option.some.inj e;exact d w' (by rw[<- q'];exact hocd)
theorem D9(I:Inv X pins σ H s)(hN:X.N.Nodup)(hi:X.N[i]?=some x)(hx:Loc X.env.scope x)(r:RelV v u)
  (h:∀ s',Inv X pins (σ.set i (some v)) H s'->Q () s') (hf:D8 X i x:=by first|exact⟨.inl rfl,X4⟩|exact⟨.inr rfl,X4⟩|assumption|exact⟨.inl rfl,by assumption⟩|exact⟨.inr rfl,by assumption⟩):wpAny M A (storeName X.env x u) Q E s :=
 M0 I hN hi hx r (fun s' I' _=>h s' I') hf
theorem Inv.call'(I:Inv X pins σ H s)(ho:s'.os=s.os)(u:Un (frs X.stack) ch H H' s.heap s'.heap)(hok:HOk X.prog X.w H' s'.heap)(hg:AllBare s'.gens)
  (hch:∀ b∈ch,(b∈X.ex\/X.s₀.heap.objs.size<=b)/\b≠X.env.locals/\(∀ x c,X.env.cells.lookup x=some c->c≠b)/\∀ p∈X.pn++pins,p.1≠b):Inv X pins σ H' s':=by
 obtain⟨h',g',d',t',o'⟩:=s';have e:o'=s.os:=ho;subst e;exact I.call (g':=g') (t':=t') (d':=d') u hok hg hch
end
abbrev XK:=Value->Option Addr->Hp->Prop
abbrev St:=List (Option V)
abbrev VK:=V->Hp->Prop
abbrev TE:=St->Hp->VK->Prop
abbrev TT:=St->Hp->(Bool->Hp->Prop)->Prop
abbrev TA:=St->Hp->(List V->Hp->Prop)->Prop
structure N5 where
 nx:St->Hp->Prop
 rt:VK
 bk:St->Hp->Prop:=fun _ _=>False
 ct:St->Hp->Prop:=fun _ _=>False
abbrev TS:=N5->St->Hp->Prop
def EP(X:Cx)(pins:List (Addr×Obj))(σ:St)(Q:VK)(u:Value)(s':Shared):Prop:=∃ v H',Inv X pins σ H' s'/\RelV v u/\Q v H'
def TP(X:Cx)(pins:List (Addr×Obj))(σ:St)(Q:Bool->Hp->Prop)(b:Bool)(s':Shared):Prop:=∃ H',Inv X pins σ H' s'/\Q b H'
def AP(X:Cx)(pins:List (Addr×Obj))(σ:St)(Q:List V->Hp->Prop)(us:List Value)(s':Shared):Prop:=∃ vs H',Inv X pins σ H' s'/\Vals vs us/\Q vs H'
def SP(X:Cx)(pins:List (Addr×Obj))(D:N5)(f:Flow)(s':Shared):Prop :=
 match f with
 | .next=>∃ σ' H',Inv X pins σ' H' s'/\D.nx σ' H'
 | .brk=>∃ σ' H',Inv X pins σ' H' s'/\D.bk σ' H'
 | .cont=>∃ σ' H',Inv X pins σ' H' s'/\D.ct σ' H'
 | .ret u=>∃ v σ' H',Inv X pins σ' H' s'/\RelV v u/\D.rt v H'
def PE(X:Cx)(e:Expr)(t:TE):Prop :=
 ∀ (pins:List (Addr×Obj)) (s:Shared) (σ:St) (H:Hp) (Q:VK),Inv X pins σ H s->t σ H Q->wpAny (model X.prog X.w) X.A (eval e X.env) (EP X pins σ Q) X.xe s
def PT(X:Cx)(e:Expr)(t:TT):Prop :=
 ∀ (pins:List (Addr×Obj)) (s:Shared) (σ:St) (H:Hp) (Q:Bool->Hp->Prop),Inv X pins σ H s->t σ H Q->wpAny (model X.prog X.w) X.A (isTrue e X.env (eval e X.env)) (TP X pins σ Q) X.xe s
def PW(X:Cx)(e:Expr)(t:TT):Prop :=
 ∀ (whole:Sem Value) (pins:List (Addr×Obj)) (s:Shared) (σ:St) (H:Hp) (Q:Bool->Hp->Prop),Inv X pins σ H s->t σ H Q->wpAny (model X.prog X.w) X.A (isTrue e X.env whole) (TP X pins σ Q) X.xe s
theorem PW.pt(h:PW X e t):PT X e t:=h _
def PA(X:Cx)(es:List Expr)(t:TA):Prop :=
 ∀ (pos:Pos) (pins:List (Addr×Obj)) (s:Shared) (σ:St) (H:Hp) (Q:List V->Hp->Prop),Inv X pins σ H s->t σ H Q->wpAny (model X.prog X.w) X.A (spliced (backTo pos (starEach es X.env))) (AP X pins σ Q) X.xe s
def PS(X:Cx)(st:Stmt)(t:TS):Prop :=
 ∀ (pins:List (Addr×Obj)) (s:Shared) (σ:St) (H:Hp) (D:N5),Inv X pins σ H s->t D σ H->wpAny (model X.prog X.w) X.A (exec st X.env) (SP X pins D) X.xe s
def PSs(X:Cx)(st:List Stmt)(t:TS):Prop :=
 ∀ (pins:List (Addr×Obj)) (s:Shared) (σ:St) (H:Hp) (D:N5),Inv X pins σ H s->t D σ H->wpAny (model X.prog X.w) X.A (execs st X.env) (SP X pins D) X.xe s
theorem thn(h:wpAny M A t Q E s)(hQ:∀ a s,Q a s->Q' a s):wpAny M A t Q' E s:=wpAny_mono h hQ fun _ _ x=>x
section
variable{X:Cx}
inductive tVar(i:Nat)(σ:L2.St)(H:Hp)(Q:VK):Prop where
 | mk(v)(_:σ[i]?=some (some v))(_:Q v H)
def tC(v:V):TE:=fun _ H Q=>Q v H
theorem zgz(hN:X.N[i]?=some x)(hv:Vis X.env.scope x)(hd:(x == ("__debug__":Str))=false:=by decide)(hcd:(x == ("__classdict__":Str))=false:=by decide):PE X (.Name x pos) (tVar i):=by
 intro pins s σ H Q I h;obtain⟨v,e,h⟩:=h;obtain⟨m,hn,hl⟩:=I.loc;obtain⟨u,r,l⟩:=hl i x v hN (.inl e) hv;have fin:EP X pins σ Q u s:=⟨v,H,I,r,h⟩;rcases l with ⟨hk,hm⟩|⟨hk,c,hc,hcell⟩
 ·exact wpAny_Name (wpAny_loadName_local I.ok.kind hk hn hm fin) hd
 ·rcases hk with hk|hk
  ·exact wpAny_Name (wpAny_loadName_cell I.ok.kind hk hc hcell fin) hd
  ·exact wpAny_Name (wpAny_loadName_free I.ok.kind hk hc hcell fin hcd) hd
theorem Zf{i j pos}:PE X (.Constant (.int i) j pos) (tC (.int i)):=fun _ _ _ H _ I h=>wpAny_Constant_int ⟨.int i,H,I.tok _,⟨_,rfl⟩,h⟩
theorem Yp{b j pos}:PE X (.Constant (.bool b) j pos) (tC (.bl b)):=fun _ _ _ H _ I h=>Constant_bool ⟨.bl b,H,I,rfl,h⟩
theorem Y3{j pos}:PE X (.Constant .none j pos) (tC .non):=fun _ _ _ H _ I h=>Constant_none ⟨.non,H,I,rfl,h⟩
theorem Up{x j pos}:PE X (.Constant (.str x) j pos) (tC (.str x)):=fun _ _ _ H _ I h=>Calls.Constant_str ⟨.str x,H,I.tok _,⟨_,rfl⟩,h⟩
def Gl(X:Cx)(x:Str):Prop:=X.env.kindOf x=some .globalImplicit
theorem N6(I:Inv X pins σ H s)(hg:Gl X x)(hm:X.mg x=some u)(h:Q u s)
  (hd:(x == ("__debug__":Str))=false:=by decide):wpAny (model X.prog X.w) X.A (eval (.Name x pos) X.env) Q E s :=
 Calls.Name_function_global I.ok.kind hg (Calls.loadGlobal_global (by rw[I.ok.glob];exact I.mod.glob.keeps I.bk) hm h) hd
theorem Pe(I:Inv X pins σ H s)(hg:Gl X x)(hm:X.mg x=none)(hv:bootBuiltins x=some u)(h:Q u s)
  (hn:x≠"__name__":=by decide) (hd:(x == ("__debug__":Str))=false:=by decide):wpAny (model X.prog X.w) X.A (eval (.Name x pos) X.env) Q E s:=by
 obtain⟨mb,h1,h2⟩:=I.mod.blt;exact Calls.Name_function_global I.ok.kind hg (Calls.loadGlobal_builtin (by rw[I.ok.glob];exact I.mod.glob.keeps I.bk) hm (by rw[I.ok.blt];exact h1.keeps I.bk) ((h2 x hn).trans hv) h) hd
theorem zfc(hg:Gl X x)(hm:X.mg x=some u)(r:RelV v u)(hd:(x == ("__debug__":Str))=false:=by decide):PE X (.Name x pos) (tC v) :=
 fun _ _ _ H _ I h=>N6 I hg hm ⟨v,H,I,r,h⟩ hd
theorem W7(hg:Gl X x)(hm:X.mg x=none)(hv:bootBuiltins x=some u)(r:RelV v u)(hn:x≠"__name__":=by decide)(hd:(x == ("__debug__":Str))=false:=by decide):PE X (.Name x pos) (tC v) :=
 fun _ _ _ H _ I h=>Pe I hg hm hv ⟨v,H,I,r,h⟩ hn hd
variable{a b:Expr}{ta tb:TE}{pos:Pos}
def PC(X:Cx)(op:CmpOp)(a b:Expr)(t:TE):Prop :=
 ∀ (pins:List (Addr×Obj)) (s:Shared) (σ:St) (H:Hp) (Q:VK),Inv X pins σ H s->t σ H Q ->
   wpAny (model X.prog X.w) X.A (eval a X.env) (fun v s₁=>wpAny (model X.prog X.w) X.A (eval b X.env) (fun u s₂=>wpAny (model X.prog X.w) X.A (compareOp op v u) (EP X pins σ Q) X.xe s₂) X.xe s₁) X.xe s
inductive tBI(Q:Bool->Hp->Prop)(x:V)(H1:Hp):Prop where
 | mk(c)(_:x=.bl c)(_:Q c H1)
def tB(t:TE):TT:=fun σ H Q=>t σ H fun x H1=>tBI Q x H1
theorem Sw(h:PC X op a b t)(h1:behindInMarks op b=false:=by first|exact nobehind _ ⋯ ⋯|rfl):PT X (.Compare a [op] [b] pos) (tB t):=by
 intro pins s σ H Q I hw;refine wpAny_isTrue_Compare1 (thn (h pins s σ H _ I hw) fun v s1 h1=>thn h1 fun u s2 h2=>thn h2 fun c s3 ⟨x,H1,I1,r1,q1⟩=>?_) h1;obtain⟨d,rfl,q⟩:=q1;cases r1;exact wpAny_truthy_bool ⟨H1,I1,q⟩
theorem Ye(h:PE X e t)(he:∀ whole,isTrue e X.env whole=(do let v <- whole;standAt e.pos;holding [v] (truthy v)):=by intro _;rfl):PT X e (tB t):=by
 intro pins s σ H Q I hw;refine isTrue_plain (thn (h pins s σ H _ I hw) fun v s1 ⟨x,H1,I1,r1,q1⟩=>?_) (he _);obtain⟨d,rfl,q⟩:=q1;cases r1;exact wpAny_truthy_bool ⟨H1,I1,q⟩
variable{tA tB':TT}{rest:List Expr}
def zif(t u:TT):TT:=fun σ H Q=>t σ H fun c H1=>if c=true then u σ H1 Q else Q false H1
def tOr(t u:TT):TT:=fun σ H Q=>t σ H fun c H1=>if c=true then Q true H1 else u σ H1 Q
def zj5(t:TT):TT:=fun σ H Q=>t σ H fun c H1=>Q (!c) H1
theorem Oi(ha:PT X a tA):PW X (.BoolOp .And [a] pos) tA:=by
 intro wh pins s σ H Q I h;refine isTrue_and (thn (ha pins s σ H Q I h) fun c s1 e=>?_);cases c with
 | true=>exact isTrue_and_nil e
 | false=>exact e
theorem Xn(ha:PT X a tA):PW X (.BoolOp .Or [a] pos) tA:=by
 intro wh pins s σ H Q I h;refine isTrue_or (thn (ha pins s σ H Q I h) fun c s1 e=>?_);cases c with
 | false=>exact isTrue_or_nil e
 | true=>exact e
theorem M3(ha:PT X a tA)(hb:PW X (.BoolOp .And (b :: rest) pos) tB'):PW X (.BoolOp .And (a :: b :: rest) pos) (zif tA tB'):=by
 intro wh pins s σ H Q I h;refine isTrue_and (thn (ha pins s σ H _ I h) fun c s1 ⟨H1,I1,q1⟩=>?_);cases c with
 | true=>exact hb wh pins s1 σ H1 Q I1 q1
 | false=>exact⟨H1,I1,q1⟩
theorem We(ha:PT X a tA)(hb:PW X (.BoolOp .Or (b :: rest) pos) tB'):PW X (.BoolOp .Or (a :: b :: rest) pos) (tOr tA tB'):=by
 intro wh pins s σ H Q I h;refine isTrue_or (thn (ha pins s σ H _ I h) fun c s1 ⟨H1,I1,q1⟩=>?_);cases c with
 | true=>exact⟨H1,I1,q1⟩
 | false=>exact hb wh pins s1 σ H1 Q I1 q1
theorem Yj(ha:PT X a tA):PT X (.UnaryOp .Not a pos) (zj5 tA):=by
 intro pins s σ H Q I h;exact isTrue_not (ha pins s σ H (fun c H1=>Q (!c) H1) I h)
inductive zg0(tb:TE)(σ:L2.St)(Q:VK)(x:V)(H1:Hp):Prop where
 | mk(c)(_:x=.bl c)(_:if c=true then tb σ H1 Q else Q (.bl false) H1)
def zig(ta tb:TE):TE:=fun σ H Q=>ta σ H fun x H1=>zg0 tb σ Q x H1
inductive zih(tb:TE)(σ:L2.St)(Q:VK)(x:V)(H1:Hp):Prop where
 | mk(c)(_:x=.bl c)(_:if c=true then Q (.bl true) H1 else tb σ H1 Q)
def zj6(ta tb:TE):TE:=fun σ H Q=>ta σ H fun x H1=>zih tb σ Q x H1
inductive zg1(Q:VK)(x:V)(H1:Hp):Prop where
 | mk(c)(_:x=.bl c)(_:Q (.bl (!c)) H1)
def zii(ta:TE):TE:=fun σ H Q=>ta σ H fun x H1=>zg1 Q x H1
theorem U8{op}(h:PE X a t):PE X (.BoolOp op [a] pos) t:=fun pins s σ H Q I hw=>BoolOp_one (h pins s σ H Q I hw)
theorem Sx(ha:PE X a ta)(hb:PE X (.BoolOp .And (b :: rest) pos) tb):PE X (.BoolOp .And (a :: b :: rest) pos) (zig ta tb):=by
 intro pins s σ H Q I h;refine BoolOp_and (thn (ha pins s σ H _ I h) fun v s1 ⟨x,H1,I1,r1,q1⟩=>?_);obtain⟨c,rfl,q1⟩:=q1;cases r1;refine wpAny_truthy_bool ?_;cases c with
 | true=>exact hb pins s1 σ H1 Q I1 q1
 | false=>exact⟨.bl false,H1,I1,rfl,q1⟩
theorem zc8(ha:PE X a ta)(hb:PE X (.BoolOp .Or (b :: rest) pos) tb):PE X (.BoolOp .Or (a :: b :: rest) pos) (zj6 ta tb):=by
 intro pins s σ H Q I h;refine BoolOp_or (thn (ha pins s σ H _ I h) fun v s1 ⟨x,H1,I1,r1,q1⟩=>?_);obtain⟨c,rfl,q1⟩:=q1;cases r1;refine wpAny_truthy_bool ?_;cases c with
 | false=>exact hb pins s1 σ H1 Q I1 q1
 | true=>exact⟨.bl true,H1,I1,rfl,q1⟩
theorem zg2(ha:PE X a ta):PE X (.UnaryOp .Not a pos) (zii ta):=by
 intro pins s σ H Q I h;refine UnaryOp_ (thn (ha pins s σ H _ I h) fun v s1 ⟨x,H1,I1,r1,q1⟩=>?_);obtain⟨c,rfl,q1⟩:=q1;cases r1;exact not_of (wpAny_truthy_bool ⟨.bl (!c),H1,I1,rfl,q1⟩)
def tIf(t:TT)(ta tb:TE):TE:=fun σ H Q=>t σ H fun c H1=>if c=true then ta σ H1 Q else tb σ H1 Q
theorem Ca(hc:PT X c tA)(ha:PE X a ta)(hb:PE X b tb):PE X (.IfExp c a b pos) (tIf tA ta tb):=by
 intro pins s σ H Q I h;refine wpAny_IfExp (thn (hc pins s σ H _ I h) fun d s1 ⟨H1,I1,q1⟩=>?_);cases d with
 | true=>exact ha pins s1 σ H1 Q I1 q1
 | false=>exact hb pins s1 σ H1 Q I1 q1
end
def SqL(K:Frag)(H:Hp)(a:Addr)(xs:List V):Prop :=
 Rd H a (.lst xs) \/
  ∃ (o:Obj) (its:Array Value) (n:Nat),K.lookup a=some o/\o.cls=.type "list"/\o.dict=none/\o.data=.seq its n/\its.size<=sizeLine/\Vals xs its.toList
def SqT(K:Frag)(H:Hp)(a:Addr)(xs:List V):Prop :=
 Rd H a (.tup xs) \/
  ∃ (o:Obj) (its:Array Value) (n:Nat),K.lookup a=some o/\o.cls=.type "tuple"/\o.data=.seq its n/\its.size<=sizeLine/\Vals xs its.toList
def zj7:Value->Option V
 | .none=>some .non
 | .bool b=>some (.bl b)
 | .int i _=>some (.int i)
 | .str x _=>some (.str x)
 | .bytes b _=>some (.byt b)
 | .float b _=>some (.flt b)
 | .ref a=>some (.ref a)
 | .type n=>some (.ty n)
 | _=>none
theorem RelV.abs(r:RelV x u):zj7 u=some x:=by
 cases x with
 | non=>cases r;rfl
 | bl _=>cases r;rfl
 | int _=>obtain⟨t,rfl⟩:=r;rfl
 | str _=>obtain⟨t,rfl⟩:=r;rfl
 | byt _=>obtain⟨t,rfl⟩:=r;rfl
 | flt _=>obtain⟨t,rfl⟩:=r;rfl
 | ref _=>cases r;rfl
 | ty _=>cases r;rfl
theorem RelV.inj(r:RelV x u)(q:RelV y u):x=y:=Option.some.inj (r.abs.symm.trans q.abs)
theorem Vals.inj:∀ {xs ys:List V} {us:List Value},Vals xs us->Vals ys us->xs=ys
 | _,_,_,.nil,.nil=>rfl
 | _,_,_,.cons r t,.cons r' t'=>by rw[r.inj r',Vals.inj t t']
section
variable{X:Cx}{pins:List (Addr×Obj)}{σ:St}{H:Hp}{s:Shared}{a:Addr}{xs ys:List V}
theorem SqL.of{K:Frag}(h:H a=some (.lst xs)):SqL K H a xs:=.inl (.inl h)
theorem SqT.of{K:Frag}(h:H a=some (.tup xs)):SqT K H a xs:=.inl (.inl h)
theorem Inv.list(I:Inv X pins σ H s)(h:SqL X.K H a xs):∃ its:List Value,Vals xs its/\PlainL s.heap a its.toArray/\xs.length<=sizeLine:=by
 rcases h with h|⟨o,its,n,hk,hc,hd,hs,hz,r⟩
 ·obtain⟨z,its,n,r,e⟩:=h.ok I.hok;exact⟨its,r,⟨_,n,e,rfl,rfl,rfl⟩,z⟩
 ·refine⟨its.toList,r,⟨o,n,I.kIn a o hk,hc,hd,by simpa using hs⟩,?_⟩;have e:=r.length;simp only[Array.length_toList] at e;omega
theorem Inv.tuple(I:Inv X pins σ H s)(h:SqT X.K H a xs):∃ its:List Value,Vals xs its/\IsTup s.heap a its.toArray/\xs.length<=sizeLine:=by
 rcases h with h|⟨o,its,n,hk,hc,hs,hz,r⟩
 ·obtain⟨z,its,r,p⟩:=h.ok I.hok;exact⟨its,r,p,z⟩
 ·refine⟨its.toList,r,⟨o,I.kIn a o hk,hc,n,by simpa using hs⟩,?_⟩;have e:=r.length;simp only[Array.length_toList] at e;omega
theorem Inv.list_inj(I:Inv X pins σ H s)(h:SqL X.K H a xs)(h':SqL X.K H a ys):xs=ys:=by
 obtain⟨its,r,⟨o,n,e,_,_,d⟩,_⟩:=I.list h;obtain⟨its',r',⟨o',n',e',_,_,d'⟩,_⟩:=I.list h';rw[e] at e';cases e';rw[d] at d';injection d' with d1 _;have:its=its':=by simpa using congrArg Array.toList d1
 subst this;exact r.inj r'
end
section
variable{X:Cx}{st:Stmt}{rest:List Stmt}{t u:TS}{e:Expr}{te:TE}{pos:Pos}
def zc9:TS:=fun D σ H=>D.nx σ H
def Zw(t u:TS):TS:=fun D σ H=>t { D with nx:=u D } σ H
theorem Zn:PSs X [] zc9:=fun _ _ σ H _ I h=>wpAny_execs_nil ⟨σ,H,I,h⟩
theorem Zb(h1:PS X st t)(h2:PSs X rest u):PSs X (st :: rest) (Zw t u):=by
 intro pins s σ H D I h;refine wpAny_execs_cons (thn (h1 pins s σ H { D with nx:=u D } I h) fun f s1 q=>?_);cases f with
 | next =>
   obtain⟨σ',H',I',q⟩:=q;exact h2 pins s1 σ' H' D I' q
 | ret v=>exact q
 | brk=>exact q
 | cont=>exact q
theorem Zd(h1:PS X st t):PSs X [st] t:=by
 intro pins s σ H D I h;refine wpAny_execs_cons (thn (h1 pins s σ H D I h) fun f s1 q=>?_);cases f with
 | next=>exact wpAny_execs_nil q
 | ret v=>exact q
 | brk=>exact q
 | cont=>exact q
theorem Inv.quiet(I:Inv X pins σ H s):interactive X.env=false:=by simp[interactive,I.ok.kind]
def zij(te:TE):TS:=fun D σ H=>te σ H fun _ H1=>D.nx σ H1
theorem Z2(he:PE X e te)(hs:swapsWith e none pos.line X.env=pure false:=by rfl):PS X (.Expr e pos) (zij te):=by
 intro pins s σ H D I h;exact wpAny_Expr_any (thn (he pins s σ H _ I h) fun v s1 ⟨x,H1,I1,r1,q1⟩=>⟨σ,H1,I1,q1⟩) I.quiet hs
def zik(te:TE):TS:=fun D σ H=>te σ H D.rt
theorem Zl(he:PE X e te):PS X (.Return (some e) pos) (zik te):=by
 intro pins s σ H D I h;exact wpAny_Return_some (thn (he pins s σ H _ I h) fun v s1 ⟨x,H1,I1,r1,q1⟩=>⟨x,σ,H1,I1,r1,q1⟩)
def Ac(c:TT)(t u:TS):TS:=fun D σ H=>c σ H fun b H1=>if b=true then t D σ H1 else u D σ H1
theorem Zx(hc:PT X c tc)(ha:PSs X a t)(hb:PSs X b u):PS X (.If c a b pos) (Ac tc t u):=by
 intro pins s σ H D I h;refine wpAny_If (thn (hc pins s σ H _ I h) fun d s1 ⟨H1,I1,q1⟩=>?_);cases d with
 | true=>exact ha pins s1 σ H1 D I1 q1
 | false=>exact hb pins s1 σ H1 D I1 q1
end
abbrev TG:=V->St->Hp->(St->Hp->Prop)->Prop
abbrev TGs:=List V->St->Hp->(St->Hp->Prop)->Prop
def PG(X:Cx)(target:Expr)(t:TG):Prop :=
 ∀ (pins:List (Addr×Obj)) (s:Shared) (σ:St) (H:Hp) (v:V) (u:Value) (Q:St->Hp->Prop),Inv X pins σ H s->RelV v u->t v σ H Q ->
   wpAny (model X.prog X.w) X.A (assign target X.env u) (fun _ s'=>∃ σ' H',Inv X pins σ' H' s'/\Q σ' H') X.xe s
def PGs(X:Cx)(ts:List Expr)(t:TGs):Prop :=
 ∀ (pins:List (Addr×Obj)) (s:Shared) (σ:St) (H:Hp) (vs:List V) (us:List Value) (Q:St->Hp->Prop),Inv X pins σ H s->Vals vs us->t vs σ H Q ->
   wpAny (model X.prog X.w) X.A (assignInOrder ((assignEach ts X.env).map (·.2)) us) (fun _ s'=>∃ σ' H',Inv X pins σ' H' s'/\Q σ' H') X.xe s
abbrev zil:=V->V->V->Hp->(Hp->Prop)->Prop
def zim(X:Cx)(t:zil):Prop :=
 ∀ (pins:List (Addr×Obj)) (s:Shared) (σ:St) (H:Hp) (o i v:V) (ov iv u:Value) (Q:Hp->Prop),Inv X pins σ H s->RelV o ov->RelV i iv->RelV v u->t o i v H Q ->
   wpAny (model X.prog X.w) X.A (setItem ov iv u) (fun _ s'=>∃ H',Inv X pins σ H' s'/\Q H') X.xe s
section
variable{X:Cx}{pos:Pos}
def Uo(i:Nat):TG:=fun v σ H Q=>Q (σ.set i (some v)) H
theorem U2(hN:X.N.Nodup)(hi:X.N[i]?=some x)(hx:Loc X.env.scope x)(hf:D8 X i x:=by first|exact⟨.inl rfl,X4⟩|exact⟨.inr rfl,X4⟩|assumption|exact⟨.inl rfl,by assumption⟩|exact⟨.inr rfl,by assumption⟩):PG X (.Name x pos) (Uo i):=by
 intro pins s σ H v u Q I r h;exact wpAny_assign_Name (D9 I hN hi hx r (fun s' I'=>⟨_,H,I',h⟩) hf)
def zj8:TGs:=fun vs σ H Q=>vs=[]/\Q σ H
def zin(t:TG)(u:TGs):TGs:=fun vs σ H Q=>∃ v r,vs=v :: r/\t v σ H fun σ' H'=>u r σ' H' Q
theorem V0:PGs X [] zj8:=by
 intro pins s σ H vs us Q I r h;obtain⟨e,h⟩:=h;subst e;cases r;exact assignInOrder_nil ⟨σ,H,I,h⟩
theorem Z6(h1:PG X e t)(h2:PGs X es u)
  (hs:(assignEach (e :: es) X.env).map (·.2)=assign e X.env :: (assignEach es X.env).map (·.2):=by rfl):PGs X (e :: es) (zin t u):=by
 intro pins s σ H vs us Q I r h;obtain⟨v,vr,e1,h⟩:=h;subst e1;cases r with
 | cons r rr =>
   rw[hs];refine assignInOrder_cons (thn (h1 pins s σ H _ _ _ I r h) fun _ s1 ⟨σ1,H1,I1,q1⟩=>?_);exact h2 pins s1 σ1 H1 _ _ Q I1 rr q1
def zio(K:Frag)(n:Nat)(t:TGs):TG:=fun v σ H Q=>∃ a xs,v=.ref a/\SqT K H a xs/\xs.length=n/\t xs σ H Q
theorem zg3(hc:X.calm=true)(h:PGs X es t)
  (hn:(assignEach es X.env).length=n:=by rfl) (hst:(assignEach es X.env).findIdx? (·.1)=none:=by rfl):PG X (.Tuple es k pos) (zio X.K n t):=by
 intro pins s σ H v u Q I r hw;obtain⟨a,xs,e1,hq,hl,hw⟩:=hw;subst e1;cases r;obtain⟨its,rv,ht,hz⟩:=I.tuple hq;refine assign_Tuple_tuple (I.ok.hd hc) ht (by simp[hn,<- hl,rv.length]) hst fun h' hx=>?_;have I1:Inv X pins σ H { s with heap:=h' }:=I.kept (t':=s.toks) fun b o e=>hx b o (zts (Heap.lt_size e)) e;exact h pins _ σ H xs _ Q I1 (by simpa using rv) hw
def zj9(to ti:TE)(t:zil):TG:=fun v σ H Q=>to σ H fun o H1=>ti σ H1 fun i H2=>t o i v H2 fun H3=>Q σ H3
theorem zda(ho:PE X o to)(hi:PE X i ti)(hs:zim X t)
  (ha:∀ v,assign (.Subscript o i pos) X.env v=(do
   let ov <- holding [v] (eval o X.env)
   let iv <- holding [v,ov] (eval i X.env)
   standAt pos
   holding [v,ov,iv] (setItem ov iv v)
   release [v,ov,iv] []):=by intro _;rfl):PG X (.Subscript o i pos) (zj9 to ti t):=by
 intro pins s σ H v u Q I r h;rw[ha];refine wpAny_bind (wpAny_holding (thn (ho pins s σ H _ I h) fun ov s1 ⟨x,H1,I1,r1,q1⟩=>?_));refine wpAny_bind (wpAny_holding (thn (hi pins s1 σ H1 _ I1 q1) fun iv s2 ⟨y,H2,I2,r2,q2⟩=>?_));refine wpAny_bind (wpAny_standAt (wpAny_bind (wpAny_holding (thn (hs pins s2 σ H2 x y v ov iv u _ I2 r1 r2 r q2) fun _ s3 ⟨H3,I3,q3⟩=>?_))));exact wpAny_release ⟨σ,H3,I3,q3⟩
def zdb(te:TE)(g:TG):TS:=fun D σ H=>te σ H fun x H1=>g x σ H1 D.nx
theorem Ei(he:PE X e te)(hg:PG X tg g)(hs:swapsWithSole [tg] e pos.line X.env=pure false:=by rfl)(hw:swappedStores [tg] e X.env=pure none:=by rfl)
  (h1:(assignEach [tg] X.env).map (·.2)=[assign tg X.env]:=by rfl):PS X (.Assign [tg] e pos) (zdb te g):=by
 intro pins s σ H D I h;refine wpAny_Assign_stores (thn (he pins s σ H _ I h) fun v s1 ⟨x,H1,I1,r1,q1⟩=>?_) hs hw;rw[h1];exact thn (hg pins s1 σ H1 x v _ I1 r1 q1) fun _ s2 q=>q
theorem zg4(hN:X.N.Nodup)(hi:X.N[i]?=some x)(hx:Loc X.env.scope x)(he:PE X e te)(hs:swapsWith e (some (.Name x pos')) pos.line X.env=pure false:=by rfl)(hf:D8 X i x:=by first|exact⟨.inl rfl,X4⟩|exact⟨.inr rfl,X4⟩|assumption|exact⟨.inl rfl,by assumption⟩|exact⟨.inr rfl,by assumption⟩) :
  PS X (.Assign [.Name x pos'] e pos) (zdb te (Uo i)):=by
 intro pins s σ H D I h;refine wpAny_Assign_Name (thn (he pins s σ H _ I h) fun v s1 ⟨y,H1,I1,r1,q1⟩=>?_) hs;exact D9 I1 hN hi hx r1 (fun s2 I2=>⟨_,H1,I2,q1⟩) hf
end
section
variable{X:Cx}{pos:Pos}
def Ej(c:TT)(tb:TS):TS:=fun D σ H=>∃ W:Nat->St->Hp->Prop,(∃ m,W m σ H)/\∀ m σ H,W m σ H ->
 c σ H fun b H1=>if b=true then ∃ N:St->Hp->Prop,(∀ σ' H',N σ' H'->∃ m',m' < m/\W m' σ' H')/\tb { D with nx:=N,ct:=N,bk:=D.nx } σ H1 else D.nx σ H1
theorem N7(hp:PassesOwn (model X.prog X.w) X.A X.env X.xe)(hc:PT X c tc)(hb:PSs X body tb):PS X (.While c body [] pos) (Ej tc tb):=by
 intro pins s σ H D I h;obtain⟨W,⟨m0,w0⟩,turn⟩:=h;refine wpAny_While (codeAny_whileLoop (fun n s'=>∃ σ' H',Inv X pins σ' H' s'/\W n σ' H') ?_ m0 ⟨σ,H,I,w0⟩);rintro n s1 ⟨σ1,H1,I1,w1⟩;refine wpAny_passesOwn hp (thn (hc pins s1 σ1 H1 _ I1 (turn n σ1 H1 w1)) fun b s2 ⟨H2,I2,q2⟩=>?_);cases b with
 | true =>
   obtain⟨N,hN,q2⟩:=q2;rw[if_pos rfl];refine wpAny_passesOwn hp (thn (hb pins s2 σ1 H2 _ I2 q2) fun f s3 q3=>?_);cases f with
   | next =>
     obtain⟨σ3,H3,I3,n3⟩:=q3;obtain⟨m',hm,w3⟩:=hN σ3 H3 n3;exact⟨m',hm,σ3,H3,I3,w3⟩
   | cont =>
     obtain⟨σ3,H3,I3,n3⟩:=q3;obtain⟨m',hm,w3⟩:=hN σ3 H3 n3;exact⟨m',hm,σ3,H3,I3,w3⟩
   | brk=>exact q3
   | ret v=>exact q3
 | false =>
   rw[if_neg ztv];exact wpAny_execs_nil ⟨σ1,H2,I2,q2⟩
end
structure It where
 go:Nat->Hp->Prop
 yld:Nat->Hp->V->Hp->Prop
 stop:Nat->Hp->Prop
def FpOk(X:Cx)(pins:List (Addr×Obj))(H:Hp)(b:Addr):Prop :=
 H b=none/\b≠X.env.locals/\b∉X.fs/\(b∈X.ex\/X.s₀.heap.objs.size<=b)/\(∀ x c,X.env.cells.lookup x=some c->c≠b)/\∀ p∈X.pn++pins,p.1≠b
theorem Inv.fpOk(I:Inv X pins σ H s)(hb:s.heap.objs.size<=b)(hn:H' b=none):FpOk X pins H' b:=by
 refine⟨hn,Nat.ne_of_gt (ztn I.lt hb),I.nofs hb,.inr (ztk I.sz hb),fun x c e z=>?_,fun p hp z=>?_⟩
 ·obtain⟨v,q⟩:=I.cell x c e;exact absurd (ztn q.lt (by rw[z];exact hb)) (zum _)
 ·exact absurd (ztn (Heap.lt_size (I.pin p hp).1) (by rw[z];exact hb)) (zum _)
structure Gh(P:Program)(w:World)(K:Frag)(tg:Expr)(J:It)(fp:List Addr)(it:Addr)(tn:Nat->Heap->Prop):Prop where
 mem:it∈fp
 obj:∀ i h,tn i h->∀ b∈fp,∃ o,h.get? b=some o/\∀ v,o.data≠.cell v
 keep:∀ i h h',tn i h->(∀ b∈fp,∀ o,h.get? b=some o->h'.get? b=some o)->tn i h'
 item:∀ (X:Cx),X.prog=P->X.w=w->X.K=K->X.calm=true->∀ (i:Nat) (pins:List (Addr×Obj)) (s:Shared) (σ:St) (H:Hp) (E:Value->Shared->Prop),Inv X pins σ H s->(∀ b∈fp,FpOk X pins H b)->tn i s.heap->J.go i H ->
  wpAny (model P w) X.A (pyNext (.ref it)) (fun r s1=>∃ u,r=some u /\
   wpAny (model P w) X.A (letOwnedTupleGo tg (.ref it) u) (fun _ s2=>∃ x H',Inv X pins σ H' s2/\RelV x u/\J.yld i H x H'/\tn (i+1) s2.heap/\∀ b∈fp,H' b=none) E s1) E s
 done:∀ (X:Cx),X.prog=P->X.w=w->X.K=K->X.calm=true->∀ (i:Nat) (pins:List (Addr×Obj)) (s:Shared) (σ:St) (H:Hp) (E:Value->Shared->Prop),Inv X pins σ H s->(∀ b∈fp,FpOk X pins H b)->tn i s.heap->J.stop i H ->
  wpAny (model P w) X.A (pyNext (.ref it)) (fun r s1=>r=none/\Inv X pins σ H s1) E s
 self:∀ (A:Around) (i:Nat) (s:Shared) (Q:Value->Shared->Prop) (E:Value->Shared->Prop),tn i s.heap->Q (.ref it) s->wpAny (model P w) A (pyIter (.ref it)) Q E s
abbrev TI:=St->Hp->(It->Hp->Prop)->Prop
def PIE(X:Cx)(pins:List (Addr×Obj))(σ:St)(tg:Expr)(R:It->Hp->Prop)(itv:Value)(s2:Shared):Prop :=
 ∃ (it:Addr) (fp:List Addr) (tn:Nat->Heap->Prop) (J:It) (H':Hp),itv=.ref it/\Inv X pins σ H' s2/\Gh X.prog X.w X.K tg J fp it tn/\tn 0 s2.heap/\(∀ b∈fp,FpOk X pins H' b)/\R J H'
def PI(X:Cx)(tg iter:Expr)(wi:TI):Prop :=
 ∀ (pins:List (Addr×Obj)) (s:Shared) (σ:St) (H:Hp) (R:It->Hp->Prop),Inv X pins σ H s->wi σ H R ->
   wpAny (model X.prog X.w) X.A (eval iter X.env) (fun v s1=>wpAny (model X.prog X.w) X.A (pyIter v) (PIE X pins σ tg R) X.xe s1) X.xe s
theorem zdc(ho:s.heap.get? it=some o)(hc:o.cls=.type n)(hd:o.data=.fields vs)
  (hn:["enumerate","zip","dict_itemiterator","dict_reverseitemiterator","odict_iterator","itertools.zip_longest","itertools.pairwise"].contains n=false) (hQ:Q () s):wpAny M A (letOwnedTupleGo tg (.ref it) u) Q E s:=by
 unfold letOwnedTupleGo;cases tg<;>first
  | exact wpAny_pure hQ
  | (cases u<;>first
    | exact wpAny_pure hQ
    | (refine wpAny_bind (wpAny_load ho ?_)
       rw[hc,hd];show wpAny M A (if (["enumerate","zip","dict_itemiterator","dict_reverseitemiterator","odict_iterator","itertools.zip_longest","itertools.pairwise"].contains n&&vs[0]? == some (rawInt _))=true then _ else _) Q E s;rw[if_neg (by intro h;rw[hn,Bool.false_and] at h;cases h)];exact wpAny_pure hQ))
def Itl(K:Frag)(a:Addr):It :=
 ⟨fun i H=>∃ xs x,SqL K H a xs/\xs[i]?=some x,fun i H x H'=>H'=H/\∀ xs,SqL K H a xs->xs[i]?=some x,fun i H=>∃ xs,SqL K H a xs/\xs.length<=i⟩
def Itr(lo:Int)(n:Nat):It:=⟨fun i _=>i<n,fun i H x H'=>H'=H/\x=.int (lo+i),fun i _=>n<=i⟩
theorem zbw{P:Program}{w:World}{K:Frag}{tg:Expr}(a it:Addr):Gh P w K tg (Itl K a) [it] it (fun i h=>h.IsListIter it a i) where
 mem:=by simp
 obj:=fun i h st b hb=>by
  have e:b=it:=by simpa using hb
  subst e;obtain⟨o,e,c,d⟩:=st;exact⟨o,e,fun v z=>by rw[d] at z;cases z⟩
 keep:=fun i h h' st k=>st.at fun o e=>k it (by simp) o e
 item:=by
  intro X hP hw hK hc i pins s σ H E I hf st hg;subst hP hw hK;obtain⟨xs,x,hq,hx⟩:=hg;obtain⟨its,rv,p,hz⟩:=I.list hq;obtain⟨u,hu,ru⟩:=rv.get hx;obtain⟨f0,f1,f2,f3,f4,f5⟩:=hf it (by simp);refine wpAny_pyNext_list_item st p.isList (x:=u) (by simpa using hu) fun h' st' sb=>?_;have I1:Inv X pins σ H { s with heap:=h' }:=I.turned (t':=s.toks) (fun b o hb e=>(sb.2 b hb).trans e) f0 f1 f3 f4 f5;obtain⟨o,e,c,d⟩:=id st';exact⟨u,rfl,zdc (s:={ s with heap:=h' }) e c d ⋯ ⟨x,H,I1,ru,⟨rfl,fun ys hy=>by rw[I.list_inj hy hq];exact hx⟩,st',fun b hb=>(hf b hb).1⟩⟩
 done:=by
  intro X hP hw hK hc i pins s σ H E I hf st hg;subst hP hw hK;obtain⟨xs,hq,hx⟩:=hg;obtain⟨its,rv,p,hz⟩:=I.list hq;obtain⟨f0,f1,f2,f3,f4,f5⟩:=hf it (by simp);have hl:=rv.length;exact wpAny_pyNext_list_end (I.ok.hd hc) st p.isList (by simp;omega) fun h' eb=>⟨rfl,I.turned (t':=s.toks) (fun b o hb e=>eb b o hb e) f0 f1 f3 f4 f5⟩
 self:=fun _ _ _ _ _ st h=>wpAny_pyIter_listiter st h
theorem Ae{P:Program}{w:World}{K:Frag}{tg:Expr}(it:Addr)(lo:Int)(n:Nat):Gh P w K tg (Itr lo n) [it] it (fun i h=>IsRangeIter h it (lo+(i:Nat)*1) ((n:Int)-(i:Nat)) 1) where
 mem:=by simp
 obj:=fun i h st b hb=>by
  have e:b=it:=by simpa using hb
  subst e;exact⟨_,st,fun v z=>by
   have z':Data.fields _=Data.cell v:=z;cases z'⟩
 keep:=fun i h h' st k=>k it (by simp) _ st
 item:=by
  intro X hP hw hK hc i pins s σ H E I hf st hg;subst hP hw hK;obtain⟨f0,f1,f2,f3,f4,f5⟩:=hf it (by simp);have W:=Walks.range (prog:=X.prog) (w:=X.w) (I.ok.hd hc) it lo 1 n;refine W.item i s _ _ hg st fun v h' tk hv st' kk=>?_;obtain⟨t,rfl⟩:=hv;have I1:Inv X pins σ H { s with heap:=h',toks:=tk }:=I.turned (fun b o hb e=>kk b o (by simpa using hb) e) f0 f1 f3 f4 f5;refine⟨_,rfl,zdc (s:={ s with heap:=h',toks:=tk }) (n:="range_iterator") st' rfl rfl ⋯ ⟨.int (lo+i),H,I1,⟨t,?_⟩,⟨rfl,rfl⟩,st',fun b hb=>(hf b hb).1⟩⟩;rw[Int.mul_one]
 done:=by
  intro X hP hw hK hc i pins s σ H E I hf st hg;subst hP hw hK;obtain⟨f0,f1,f2,f3,f4,f5⟩:=hf it (by simp);exact wpAny_pyNext_range_end (I.ok.hd hc) st (by have:n<=i:=hg;omega) fun h' eb=>⟨rfl,I.turned (t':=s.toks) (fun b o hb e=>eb b o hb e) f0 f1 f3 f4 f5⟩
 self:=fun _ _ _ _ _ st h=>wpAny_pyIter_rangeiter st h
section
variable{X:Cx}{tg:Expr}
inductive zg5(K:Frag)(R:It->Hp->Prop)(x:V)(H1:Hp):Prop where
 | mk(a)(_:x=.ref a)(_:(∃ xs,SqL K H1 a xs))(_:R (Itl K a) H1)
def zgh(K:Frag)(tl:TE):TI:=fun σ H R=>tl σ H fun x H1=>zg5 K R x H1
theorem zfd{l:Expr}{tl:TE}(hl:PE X l tl):PI X tg l (zgh X.K tl):=by
 intro pins s σ H R I h;refine thn (hl pins s σ H _ I h) fun v s1 ⟨x,H1,I1,r1,q1⟩=>?_;obtain⟨a,e,⟨xs,hq⟩,q⟩:=q1;subst e;cases r1;obtain⟨its,rv,p,hz⟩:=I1.list hq;refine wpAny_pyIter_list p.isList ?_;refine⟨s1.heap.objs.size,[s1.heap.objs.size],_,_,H1,rfl,I1.kept (t':=s1.toks) fun b o e=>Heap.get?_push_of_some _ e,zbw a _,⟨_,Heap.get?_push_size _ rfl,rfl,rfl⟩,fun b hb=>?_,q⟩;have e:b=s1.heap.objs.size:=by simpa using hb
 subst e;exact I1.fpOk (ztc _) (I1.hok.fresh (ztc _))
theorem Cb{pins:List (Addr×Obj)}{σ:St}{H:Hp}{s:Shared}{R:It->Hp->Prop}{E:Value->Shared->Prop}{lo hi:Int}{t u v:Tok}{tk:Nat}(I:Inv X pins σ H s)(h1:-(2 ^ 62)<=lo)(h2:lo<2 ^ 62)(h3:-(2 ^ 62)<=hi)(h4:hi<2 ^ 62)
  (q:R (Itr lo (hi-lo).toNat) H):wpAny (model X.prog X.w) X.A (pyIter (.ref s.heap.objs.size)) (PIE X pins σ tg R) E { s with heap:=s.heap.push { cls:=.type "range",data:=.fields #[.int lo t,.int hi u,.int 1 v] },toks:=tk }:=by
 refine wpAny_pyIter_range (IsRange.new ..) (small_one h1 h2 h3 h4) ?_;have I1:Inv X pins σ H { s with heap:=s.heap.push { cls:=.type "range",data:=.fields #[.int lo t,.int hi u,.int 1 v] },toks:=tk }:=I.kept fun b o e=>Heap.get?_push_of_some _ e;refine⟨(s.heap.push { cls:=.type "range",data:=.fields #[.int lo t,.int hi u,.int 1 v] }).objs.size,[(s.heap.push { cls:=.type "range",data:=.fields #[.int lo t,.int hi u,.int 1 v] }).objs.size],_,_,H,rfl,
  I1.kept (t':=tk) fun b o e=>Heap.get?_push_of_some _ e,Ae _ lo (hi-lo).toNat,?_,fun b hb=>?_,q⟩
 ·have e1:lo+((0:Nat):Int)*1=lo:=by simp
  have e2:(((hi-lo).toNat:Nat):Int)-((0:Nat):Int)=Builtin.Range.rangeSize lo hi 1:=by rw[rangeSize_one];split<;>omega
  show IsRangeIter _ _ (lo+((0:Nat):Int)*1) ((((hi-lo).toNat:Nat):Int)-((0:Nat):Int)) 1;rw[e1,e2];exact Heap.get?_push_size _ rfl
 ·have e:b=(s.heap.push { cls:=.type "range",data:=.fields #[.int lo t,.int hi u,.int 1 v] }).objs.size:=by simpa using hb
  subst e;exact I1.fpOk (ztc _) (I1.hok.fresh (ztc _))
def ziq(ta:TA):TI:=fun σ H R=>ta σ H fun vs H1=>∃ j:Int,vs=[.int j]/\-(2 ^ 62)<=j/\j<2 ^ 62/\R (Itr 0 j.toNat) H1
def zir(ta:TA):TI:=fun σ H R=>ta σ H fun vs H1=>∃ i j:Int,vs=[.int i,.int j]/\(-(2 ^ 62)<=i/\i<2 ^ 62/\-(2 ^ 62)<=j/\j<2 ^ 62)/\R (Itr i (j-i).toNat) H1
theorem Yd{a:Expr}{ta:TA}{p pos:Pos}(hg:Gl X "range")(hm:X.mg "range"=none)(ha:PA X [a] ta)(hs:starEach [a] X.env=[(false,eval a X.env)]:=by rfl):PI X tg (.Call (.Name "range" p) [a] [] pos) (ziq ta):=by
 intro pins s σ H R I h;refine Call_ (Pe I hg hm boot_range (PyProof.Rows.callWith_type1 (thn (ha pos pins s σ H _ I h) fun us s1 ⟨vs,H1,I1,r1,q1⟩=>?_) hs rfl));obtain⟨j,e,q1,q2,q⟩:=q1;subst e;cases r1 with
 | cons r rr =>
   cases rr;obtain⟨t,rfl⟩:=r;exact call_range_1 (Cb I1 ⋯ ⋯ q1 q2 (by simpa using q))
theorem Fd(hg:Gl X "range")(hm:X.mg "range"=none)(ha:PA X [a,b] ta)(hs:starEach [a,b] X.env=[(false,eval a X.env),(false,eval b X.env)]:=by rfl)(hs2:starEach [b] X.env=[(false,eval b X.env)]:=by rfl) :
  PI X tg (.Call (.Name "range" p) [a,b] [] pos) (zir ta):=by
 intro pins s σ H R I h;refine Call_ (Pe I hg hm boot_range (PyProof.Rows.callWith_type1 (thn (ha pos pins s σ H _ I h) fun us s1 ⟨vs,H1,I1,r1,q1⟩=>?_) (by rw[hs,hs2]) (by rw[hs2];rfl)));obtain⟨i,j,e,⟨q1,q2,q3,q4⟩,q⟩:=q1;subst e;cases r1 with
 | cons r rr =>
   cases rr with
   | cons r' rr =>
     cases rr;obtain⟨t,rfl⟩:=r;obtain⟨t',rfl⟩:=r';exact call_range_2 (Cb I1 q1 q2 q3 q4 q)
def Ek(wi:TI)(g:TG)(tb:TS):TS:=fun D σ H=>wi σ H fun J H1=>∃ W:Nat->Nat->St->Hp->Prop,(∃ m,W 0 m σ H1)/\∀ i m σ H,W i m σ H ->
 (J.stop i H/\D.nx σ H)\/(J.go i H/\∃ N:St->Hp->Prop,(∀ σ' H',N σ' H'->∃ m',m' < m/\W (i+1) m' σ' H')/\∀ x H',J.yld i H x H'->g x σ H' fun σ2 H2=>tb { D with nx:=N,ct:=N,bk:=D.nx } σ2 H2)
def Pf(fp:List Addr)(h:Heap):List (Addr×Obj):=fp.filterMap fun b=>(h.get? b).map fun o=>(b,o)
theorem Uq(hb:b∈fp)(e:h.get? b=some o):(b,o)∈Pf fp h:=zu3.mpr ⟨b,hb,by rw[e];rfl⟩
theorem zbx(hp:p∈Pf fp h):p.1∈fp/\h.get? p.1=some p.2:=by
 obtain⟨b,hb,e⟩:=zu3.mp hp;cases q:h.get? b with
 | none=>rw[q] at e;cases e
 | some o =>
   rw[q] at e;have e':(b,o)=p:=Option.some.inj e;subst e';exact⟨hb,q⟩
theorem Inv.pinned(I:Inv X pins σ H s)(hf:∀ b∈fp,FpOk X pins H b)(ho:∀ b∈fp,∃ o,s.heap.get? b=some o/\∀ v,o.data≠.cell v):Inv X (pins++Pf fp s.heap) σ H s :=
 I.pins_of fun p hp=>(ztg.mp hp).elim (fun z=>I.pin p (zth _ z)) fun z=>by
  obtain⟨hb,e⟩:=zbx z;obtain⟨f0,f1,f2,_⟩:=hf p.1 hb;obtain⟨o,e',d⟩:=ho p.1 hb;rw[e] at e';cases e';exact⟨e,f0,f1,f2,d⟩
theorem Inv.unpinned(I:Inv X (pins++pl) σ H s):Inv X pins σ H s:=I.pins_of fun p hp=>I.pin p (zth _ (ztu _ hp))
theorem Yf(hp:PassesOwn (model X.prog X.w) X.A X.env X.xe)(hc:X.calm=true)(hi:PI X tg iter wi)(hg:PG X tg g)(hb:PSs X body tb)
  (hs:∀ x,foldedSetIterable iter X.env x=pure x:=by intro _;rfl):PS X (.For tg iter body [] pos) (Ek wi g tb):=by
 intro pins s σ H D I h;refine wpAny_For (thn (hi pins s σ H _ I h) fun v s1 h1=>thn h1 fun itv s2 h2=>?_) hs;obtain⟨it,fp,tn,J,H2,e,I2,T,st2,f2,W,⟨m0,w0⟩,turn⟩:=h2;subst e;have stat:∀ {H':Hp},(∀ b∈fp,H' b=none)->∀ b∈fp,FpOk X pins H' b:=fun hn b hb=>⟨hn b hb,(f2 b hb).2⟩
 refine codeAny_forLoop_any (fun n s'=>∃ i σ' H',Inv X pins σ' H' s'/\tn i s'.heap/\(∀ b∈fp,H' b=none)/\W i n σ' H') ?_ m0 ⟨0,σ,H2,I2,st2,fun b hb=>(f2 b hb).1,w0⟩;rintro n s3 ⟨i,σ3,H3,I3,st3,fr3,w3⟩;rcases turn i n σ3 H3 w3 with ⟨stop,qn⟩|⟨go,N,hN,step⟩
 ·refine wpAny_passesOwn hp (thn (T.done X rfl rfl rfl hc i pins s3 σ3 H3 X.xe I3 (stat fr3) st3 stop) fun r s4 ⟨hr,I4⟩=>?_);subst hr;exact wpAny_execs_nil ⟨σ3,H3,I4,qn⟩
 ·refine wpAny_passesOwn hp (thn (T.item X rfl rfl rfl hc i pins s3 σ3 H3 X.xe I3 (stat fr3) st3 go) fun r s4 ⟨u,hr,h4⟩=>?_);subst hr;refine wpAny_passesOwn hp (thn h4 fun _ s5 ⟨x,H5,I5,r5,y5,st5,fr5⟩=>?_);have I5':=I5.pinned (stat fr5) (T.obj _ _ st5);refine wpAny_passesOwn hp (thn (hg _ s5 σ3 H5 x u _ I5' r5 (step x H5 y5)) fun _ s6 ⟨σ6,H6,I6,q6⟩=>?_);refine wpAny_passesOwn hp (thn (hb _ s6 σ6 H6 _ I6 q6) fun f s7 q7=>?_);have again:∀ {σ7:St} {H7:Hp},Inv X (pins++Pf fp s5.heap) σ7 H7 s7->N σ7 H7->∃ m,m<n/\∃ i σ' H',Inv X pins σ' H' s7/\tn i s7.heap/\(∀ b∈fp,H' b=none)/\W i m σ' H':=fun {σ7 H7} I7 n7=>by
   obtain⟨m',hm,w7⟩:=hN σ7 H7 n7;refine⟨m',hm,i+1,σ7,H7,I7.unpinned,T.keep _ _ _ st5 fun b hb o e=>(I7.pin (b,o) (zth _ (zth _ (Uq hb e)))).1,fun b hb=>?_,w7⟩;obtain⟨o,e,d⟩:=T.obj _ _ st5 b hb;exact(I7.pin (b,o) (zth _ (zth _ (Uq hb e)))).2.1
  cases f with
  | next=>obtain⟨σ7,H7,I7,n7⟩:=q7;exact again I7 n7
  | cont=>obtain⟨σ7,H7,I7,n7⟩:=q7;exact again I7 n7
  | brk=>obtain⟨σ7,H7,I7,q7⟩:=q7;exact⟨σ7,H7,I7.unpinned,q7⟩
  | ret v=>obtain⟨x7,σ7,H7,I7,r7,q7⟩:=q7;exact⟨x7,σ7,H7,I7.unpinned,r7,q7⟩
end
theorem Xi{K:Frag}{a:Addr}{xs:List V}{g:TG}{tb:TS}{D:N5}{σ:St}{H:Hp}(Pv:Nat->St->Hp->Prop)(h0:Pv 0 σ H)(hl:∀ i σ H,i<=xs.length->Pv i σ H->SqL K H a xs)
  (hs:∀ i x σ H,xs[i]?=some x->Pv i σ H->g x σ H fun σ2 H2=>tb { D with nx:=Pv (i+1),ct:=Pv (i+1),bk:=D.nx } σ2 H2) (hd:∀ σ H,Pv xs.length σ H->D.nx σ H) :
  ∃ W:Nat->Nat->St->Hp->Prop,(∃ m,W 0 m σ H)/\∀ i m σ H,W i m σ H ->
    ((Itl K a).stop i H/\D.nx σ H)\/((Itl K a).go i H/\∃ N:St->Hp->Prop,(∀ σ' H',N σ' H'->∃ m',m' < m/\W (i+1) m' σ' H')/\∀ x H',(Itl K a).yld i H x H'->g x σ H' fun σ2 H2=>tb { D with nx:=N,ct:=N,bk:=D.nx } σ2 H2):=by
 refine⟨fun i m σ H=>m=xs.length-i/\i<=xs.length/\Pv i σ H,⟨xs.length,by simp,zt6 _,h0⟩,?_⟩;rintro i m σ H ⟨rfl,hi,p⟩;have q:=hl i σ H hi p;by_cases hlt:i<xs.length
 ·refine .inr ⟨⟨xs,xs[i],q,by simp[hlt]⟩,Pv (i+1),fun σ' H' p'=>⟨xs.length-(i+1),by omega,rfl,hlt,p'⟩,fun x H' y=>?_⟩;obtain⟨e,y⟩:=y;subst e;exact hs i x σ _ (y xs q) p
 ·have e:i=xs.length:=by omega
  subst e;exact .inl ⟨⟨xs,q,ztc _⟩,hd σ H p⟩
theorem Ym{lo:Int}{n:Nat}{g:TG}{tb:TS}{D:N5}{σ:St}{H:Hp}(Pv:Nat->St->Hp->Prop)(h0:Pv 0 σ H)
  (hs:∀ i σ H,i<n->Pv i σ H->g (.int (lo+i)) σ H fun σ2 H2=>tb { D with nx:=Pv (i+1),ct:=Pv (i+1),bk:=D.nx } σ2 H2) (hd:∀ σ H,Pv n σ H->D.nx σ H) :
  ∃ W:Nat->Nat->St->Hp->Prop,(∃ m,W 0 m σ H)/\∀ i m σ H,W i m σ H ->
    ((Itr lo n).stop i H/\D.nx σ H)\/((Itr lo n).go i H/\∃ N:St->Hp->Prop,(∀ σ' H',N σ' H'->∃ m',m' < m/\W (i+1) m' σ' H')/\∀ x H',(Itr lo n).yld i H x H'->g x σ H' fun σ2 H2=>tb { D with nx:=N,ct:=N,bk:=D.nx } σ2 H2):=by
 refine⟨fun i m σ H=>m=n-i/\i<=n/\Pv i σ H,⟨n,by simp,zt6 _,h0⟩,?_⟩;rintro i m σ H ⟨rfl,hi,p⟩;by_cases hlt:i<n
 ·refine .inr ⟨hlt,Pv (i+1),fun σ' H' p'=>⟨n-(i+1),by omega,rfl,hlt,p'⟩,fun x H' y=>?_⟩;obtain⟨e,y⟩:=y;subst e y;exact hs i σ _ hlt p
 ·have e:i=n:=by omega
  subst e;exact .inl ⟨ztc _,hd σ H p⟩
abbrev R2:=V->V->Hp->VK->Prop
def OpR(X:Cx)(f:Value->Value->Sem Value)(r:R2):Prop :=
 ∀ (pins:List (Addr×Obj)) (s:Shared) (σ:St) (H:Hp) (x y:V) (v u:Value) (Q:VK),Inv X pins σ H s->RelV x v->RelV y u->r x y H Q ->
   wpAny (model X.prog X.w) X.A (f v u) (EP X pins σ Q) X.xe s
def UnR(X:Cx)(f:Value->Sem Value)(r:V->Hp->VK->Prop):Prop :=
 ∀ (pins:List (Addr×Obj)) (s:Shared) (σ:St) (H:Hp) (x:V) (v:Value) (Q:VK),Inv X pins σ H s->RelV x v->r x H Q ->
   wpAny (model X.prog X.w) X.A (f v) (EP X pins σ Q) X.xe s
def Vy(X:Cx)(f:Value)(r:List V->Hp->VK->Prop):Prop :=
 ∀ (pins:List (Addr×Obj)) (s:Shared) (σ:St) (H:Hp) (xs:List V) (us:List Value) (Q:VK),Inv X pins σ H s->Vals xs us->r xs H Q ->
   wpAny (model X.prog X.w) X.A (call f us) (EP X pins σ Q) X.xe s
def zka(X:Cx)(r:V->Hp->(Bool->Hp->Prop)->Prop):Prop :=
 ∀ (pins:List (Addr×Obj)) (s:Shared) (σ:St) (H:Hp) (x:V) (v:Value) (Q:Bool->Hp->Prop),Inv X pins σ H s->RelV x v->r x H Q ->
   wpAny (model X.prog X.w) X.A (truthy v) (TP X pins σ Q) X.xe s
def tOp(r:R2)(ta tb:TE):TE:=fun σ H Q=>ta σ H fun x H1=>tb σ H1 fun y H2=>r x y H2 Q
def tUn(r:V->Hp->VK->Prop)(ta:TE):TE:=fun σ H Q=>ta σ H fun x H1=>r x H1 Q
inductive rI(C:Int->Int->Prop)(g:Int->Int->V)(x:V)(y:V)(H:Hp)(Q:VK):Prop where
 | mk(i)(j)(_:x=.int i)(_:y=.int j)(_:C i j/\Q (g i j) H)
inductive rI0(g:Int->Int->V)(x:V)(y:V)(H:Hp)(Q:VK):Prop where
 | mk(i)(j)(_:x=.int i)(_:y=.int j)(_:Q (g i j) H)
inductive rU(g:Int->V)(x:V)(H:Hp)(Q:VK):Prop where
 | mk(i)(_:x=.int i)(_:Q (g i) H)
section
variable{X:Cx}{a b c:Expr}{ta tb tc:TE}{pos:Pos}
theorem binT(ha:PE X a ta)(hb:PE X b tb){pins:List (Addr×Obj)}{s:Shared}{σ:St}{H:Hp}{R:V->V->Hp->Prop}(I:Inv X pins σ H s)
  (h:ta σ H fun x H1=>tb σ H1 fun y H2=>R x y H2) {Q:Value->Shared->Prop} {f:Value->Value->Sem Value}
  (hf:∀ v u s2 x y H2,Inv X pins σ H2 s2->RelV x v->RelV y u->R x y H2->wpAny (model X.prog X.w) X.A (f v u) Q X.xe s2) :
  wpAny (model X.prog X.w) X.A (eval a X.env) (fun v s₁=>wpAny (model X.prog X.w) X.A (eval b X.env) (fun u s₂=>wpAny (model X.prog X.w) X.A (f v u) Q X.xe s₂) X.xe s₁) X.xe s:=by
 refine thn (ha pins s σ H _ I h) fun v s1 ⟨x,H1,I1,r1,q1⟩=>?_;refine thn (hb pins s1 σ H1 _ I1 q1) fun u s2 ⟨y,H2,I2,r2,q2⟩=>?_;exact hf v u s2 x y H2 I2 r1 r2 q2
theorem Zu{op:Operator}{r:R2}(ho:OpR X (binaryOp op) r)(ha:PE X a ta)(hb:PE X b tb):PE X (.BinOp a op b pos) (tOp r ta tb):=by
 intro pins s σ H Q I h;exact wpAny_BinOp (binT ha hb I h fun v u s2 x y H2 I2 rx ry q=>ho pins s2 σ H2 x y v u Q I2 rx ry q)
theorem Qy(ho:UnR X (unaryOp op) r)(ha:PE X a ta):PE X (.UnaryOp op a pos) (tUn r ta):=by
 intro pins s σ H Q I h;exact UnaryOp_ (thn (ha pins s σ H _ I h) fun v s1 ⟨x,H1,I1,r1,q1⟩=>ho pins s1 σ H1 x v Q I1 r1 q1)
theorem opI{f:Value->Value->Sem Value}{C:Int->Int->Prop}{g:Int->Int->Int}
  (rule:∀ (i j:Int) (t u:Tok) (s:Shared) (Q:Value->Shared->Prop) (E:Value->Shared->Prop),C i j->Q (.int (g i j) s.toks) { s with toks:=s.toks+1 }->wpAny (model X.prog X.w) X.A (f (.int i t) (.int j u)) Q E s) :
  OpR X f (rI C fun i j=>.int (g i j)):=by
 intro pins s σ H x y v u Q I rx ry h;obtain⟨i,j,rfl,rfl,hc,q⟩:=h;obtain⟨t,rfl⟩:=rx;obtain⟨t',rfl⟩:=ry;exact rule i j t t' s _ _ hc ⟨.int (g i j),H,I.tok _,⟨_,rfl⟩,q⟩
theorem zis{f:Value->Value->Sem Value}{g:Int->Int->Int}
  (rule:∀ (i j:Int) (t u:Tok) (s:Shared) (Q:Value->Shared->Prop) (E:Value->Shared->Prop),Q (.int (g i j) s.toks) { s with toks:=s.toks+1 }->wpAny (model X.prog X.w) X.A (f (.int i t) (.int j u)) Q E s) :
  OpR X f (rI0 fun i j=>.int (g i j)):=by
 intro pins s σ H x y v u Q I rx ry h;obtain⟨i,j,rfl,rfl,q⟩:=h;obtain⟨t,rfl⟩:=rx;obtain⟨t',rfl⟩:=ry;exact rule i j t t' s _ _ ⟨.int (g i j),H,I.tok _,⟨_,rfl⟩,q⟩
theorem zfe{f:Value->Value->Sem Value}{g:Int->Int->Bool}
  (rule:∀ (i j:Int) (t u:Tok) (s:Shared) (Q:Value->Shared->Prop) (E:Value->Shared->Prop),Q (.bool (g i j)) s->wpAny (model X.prog X.w) X.A (f (.int i t) (.int j u)) Q E s) :
  OpR X f (rI0 fun i j=>.bl (g i j)):=by
 intro pins s σ H x y v u Q I rx ry h;obtain⟨i,j,rfl,rfl,q⟩:=h;obtain⟨t,rfl⟩:=rx;obtain⟨t',rfl⟩:=ry;exact rule i j t t' s _ _ ⟨.bl (g i j),H,I,rfl,q⟩
def CDiv(i j:Int):Prop:=0<j/\j<1073741824
def CMul(i j:Int):Prop:=(-(2 ^ 64)<i/\i<2 ^ 64)\/(-(2 ^ 64)<j/\j<2 ^ 64)
theorem CMul.ok(h:CMul i j):IntMulOk i j:=by
 rcases h with ⟨h1,h2⟩|⟨h1,h2⟩
 ·exact .of_left (intBits_le_64 h1 h2)
 ·exact .of_right (intBits_le_64 h1 h2)
theorem Yk:OpR X (binaryOp .Add) (rI0 fun i j=>.int (i+j)):=zis fun _ _ _ _ _ _ _ q=>add_int q
theorem El:OpR X (binaryOp .Sub) (rI0 fun i j=>.int (i-j)):=zis fun _ _ _ _ _ _ _ q=>sub_int q
theorem Tn:OpR X (binaryOp .Mult) (rI CMul fun i j=>.int (i*j)):=opI fun _ _ _ _ _ _ _ hc q=>mul_int q hc.ok
theorem Wn:OpR X (binaryOp .FloorDiv) (rI CDiv fun i j=>.int (i/j)):=opI fun i j _ _ _ _ _ hc q=>by
 have h1:(0:Int)<j:=hc.1;have h2:j<1073741824:=hc.2;exact floordiv_int ⋯ (by rw[Int.fdiv_eq_ediv_of_nonneg i ⋯];exact q) (.inl (PyProof.noPylong_small ⋯))
theorem Y9:OpR X (binaryOp .Mod) (rI (fun _ j=>0<j) fun i j=>.int (i%j)):=opI fun i j _ _ _ _ _ hc q=>by
 have h1:(0:Int)<j:=hc;exact mod_int' ⋯ (by rw[Int.fmod_eq_emod_of_nonneg i ⋯];exact q)
theorem unI{f:Value->Sem Value}{g:Int->Int}
  (rule:∀ (i:Int) (t:Tok) (s:Shared) (Q:Value->Shared->Prop) (E:Value->Shared->Prop),Q (.int (g i) s.toks) { s with toks:=s.toks+1 }->wpAny (model X.prog X.w) X.A (f (.int i t)) Q E s) :
  UnR X f (rU fun i=>.int (g i)):=by
 intro pins s σ H x v Q I rx h;obtain⟨i,rfl,q⟩:=h;obtain⟨t,rfl⟩:=rx;exact rule i t s _ _ ⟨.int (g i),H,I.tok _,⟨_,rfl⟩,q⟩
theorem U9:UnR X (unaryOp .USub) (rU fun i=>.int (-i)):=unI fun _ _ _ _ _ q=>neg_int q
end
def zit:V->V->Bool
 | .non,.non=>true|.non,.int _=>true|.int _,.non=>true|.non,.bl _=>true|.bl _,.non=>true|.non,.str _=>true|.str _,.non=>true
 | .int _,.int _=>true|.bl _,.bl _=>true|.str _,.str _=>true|.byt _,.byt _=>true
 | .int _,.str _=>true|.str _,.int _=>true|.bl _,.str _=>true|.str _,.bl _=>true
 | _,_=>false
inductive rEq(x:V)(y:V)(H:Hp)(Q:VK):Prop where
 | mk(_:zit x y=true)(_:Q (.bl (decide (x=y))) H)
inductive rNe(x:V)(y:V)(H:Hp)(Q:VK):Prop where
 | mk(_:zit x y=true)(_:Q (.bl (!decide (x=y))) H)
theorem zak:decide (V.int i=V.int j)=(i == j):=by
 rw[Bool.eq_iff_iff];simp
theorem zdd:decide (V.bl i=V.bl j)=(i == j):=by
 rw[Bool.eq_iff_iff];simp
theorem zal:decide (V.str i=V.str j)=(i == j):=by
 rw[Bool.eq_iff_iff];simp
theorem zam:decide (V.byt i=V.byt j)=(i.toList == j.toList):=by
 rw[Bool.eq_iff_iff];cases i;cases j;simp
section
variable{X:Cx}{a b c:Expr}{ta tb tc:TE}{pos:Pos}
theorem Yq(I:Inv X pins σ H s)(q:Q (.bl k) H)(e:k=k'):EP X pins σ Q (.bool k') s:=by
 subst e;exact⟨.bl k,H,I,rfl,q⟩
theorem X8:OpR X (compareOp .Eq) rEq:=by
 intro pins s σ H x y v u Q I rx ry h;obtain⟨hs,q⟩:=h;cases x with
 | non =>
   cases rx;cases y with
   | non=>cases ry;exact PySem.EqNone.eq_none_none (Yq I q (by simp))
   | bl j=>cases ry;exact PySem.EqNone.eq_none_bool (Yq I q (by simp))
   | int j=>obtain⟨t',rfl⟩:=ry;exact PySem.EqNone.eq_none_int (Yq I q (by simp))
   | str j=>obtain⟨t',rfl⟩:=ry;exact PySem.EqNone.eq_none_str (Yq I q (by simp))
   | _=>exact absurd (show false=true from hs) ztv
 | bl i =>
   cases rx;cases y with
   | non=>cases ry;exact PySem.EqNone.eq_bool_none (Yq I q (by simp))
   | bl j=>cases ry;exact eq_bool (Yq I q zdd)
   | str j=>obtain⟨t',rfl⟩:=ry;exact PySem.EqMixed.eq_bool_str (Yq I q (by simp))
   | _=>exact absurd (show false=true from hs) ztv
 | int i =>
   obtain⟨t,rfl⟩:=rx;cases y with
   | non=>cases ry;exact PySem.EqNone.eq_int_none (Yq I q (by simp))
   | int j=>obtain⟨t',rfl⟩:=ry;exact eq_int (Yq I q zak)
   | str j=>obtain⟨t',rfl⟩:=ry;exact PySem.EqMixed.eq_int_str (Yq I q (by simp))
   | _=>exact absurd (show false=true from hs) ztv
 | str i =>
   obtain⟨t,rfl⟩:=rx;cases y with
   | non=>cases ry;exact PySem.EqNone.eq_str_none (Yq I q (by simp))
   | bl j=>cases ry;exact PySem.EqMixed.eq_str_bool (Yq I q (by simp))
   | int j=>obtain⟨t',rfl⟩:=ry;exact PySem.EqMixed.eq_str_int (Yq I q (by simp))
   | str j=>obtain⟨t',rfl⟩:=ry;exact eq_str (Yq I q zal)
   | _=>exact absurd (show false=true from hs) ztv
 | byt i =>
   obtain⟨t,rfl⟩:=rx;cases y with
   | byt j=>obtain⟨t',rfl⟩:=ry;exact PySem.W.eq_bytes (Yq I q zam)
   | _=>exact absurd (show false=true from hs) ztv
 | _=>cases y<;>exact absurd (show false=true from hs) ztv
theorem Qz:OpR X (compareOp .NotEq) rNe:=by
 intro pins s σ H x y v u Q I rx ry h;obtain⟨hs,q⟩:=h;cases x with
 | non =>
   cases rx;cases y with
   | non=>cases ry;exact PySem.EqNone.ne_none_none (Yq I q (by simp))
   | bl j=>cases ry;exact PySem.EqNone.ne_none_bool (Yq I q (by simp))
   | int j=>obtain⟨t',rfl⟩:=ry;exact PySem.EqNone.ne_none_int (Yq I q (by simp))
   | str j=>obtain⟨t',rfl⟩:=ry;exact PySem.EqNone.ne_none_str (Yq I q (by simp))
   | _=>exact absurd (show false=true from hs) ztv
 | bl i =>
   cases rx;cases y with
   | non=>cases ry;exact PySem.EqNone.ne_bool_none (Yq I q (by simp))
   | bl j=>cases ry;exact ne_bool (Yq I q (congrArg not zdd))
   | str j=>obtain⟨t',rfl⟩:=ry;exact PySem.EqMixed.ne_bool_str (Yq I q (by simp))
   | _=>exact absurd (show false=true from hs) ztv
 | int i =>
   obtain⟨t,rfl⟩:=rx;cases y with
   | non=>cases ry;exact PySem.EqNone.ne_int_none (Yq I q (by simp))
   | int j=>obtain⟨t',rfl⟩:=ry;exact ne_int (Yq I q (congrArg not zak))
   | str j=>obtain⟨t',rfl⟩:=ry;exact PySem.EqMixed.ne_int_str (Yq I q (by simp))
   | _=>exact absurd (show false=true from hs) ztv
 | str i =>
   obtain⟨t,rfl⟩:=rx;cases y with
   | non=>cases ry;exact PySem.EqNone.ne_str_none (Yq I q (by simp))
   | bl j=>cases ry;exact PySem.EqMixed.ne_str_bool (Yq I q (by simp))
   | int j=>obtain⟨t',rfl⟩:=ry;exact PySem.EqMixed.ne_str_int (Yq I q (by simp))
   | str j=>obtain⟨t',rfl⟩:=ry;exact ne_str (Yq I q (congrArg not zal))
   | _=>exact absurd (show false=true from hs) ztv
 | byt i =>
   obtain⟨t,rfl⟩:=rx;cases y with
   | byt j=>obtain⟨t',rfl⟩:=ry;exact PySem.W.ne_bytes (Yq I q (congrArg not zam))
   | _=>exact absurd (show false=true from hs) ztv
 | _=>cases y<;>exact absurd (show false=true from hs) ztv
theorem Kd:OpR X (compareOp .Lt) (rI0 fun i j=>.bl (decide (i<j))):=zfe fun _ _ _ _ _ _ _ q=>lt_int q
theorem zde:OpR X (compareOp .LtE) (rI0 fun i j=>.bl (decide (i<=j))):=zfe fun _ _ _ _ _ _ _ q=>le_int q
theorem Q0:OpR X (compareOp .Gt) (rI0 fun i j=>.bl (decide (j<i))):=zfe fun _ _ _ _ _ _ _ q=>gt_int q
theorem zan:OpR X (compareOp .GtE) (rI0 fun i j=>.bl (decide (j<=i))):=zfe fun _ _ _ _ _ _ _ q=>ge_int q
theorem R9:OpR X (compareOp .Is) (fun x y H Q=>y=.non/\Q (.bl (decide (x=.non))) H):=by
 intro pins s σ H x y v u Q I rx ry h;obtain⟨rfl,q⟩:=h;cases ry;refine is_none_gen (Yq I q ?_);cases x<;>first
  | (cases rx;rfl)
  | (obtain⟨t,rfl⟩:=rx;rfl)
theorem Si:OpR X (compareOp .IsNot) (fun x y H Q=>y=.non/\Q (.bl (!decide (x=.non))) H):=by
 intro pins s σ H x y v u Q I rx ry h;obtain⟨rfl,q⟩:=h;cases ry;refine isnot_none_gen (Yq I q ?_);cases x<;>first
  | (cases rx;rfl)
  | (obtain⟨t,rfl⟩:=rx;rfl)
theorem Zq(b:Expr)(h:op≠.In:=by decide)(h2:op≠.NotIn:=by decide):behindInMarks op b=false:=by
 have e1:(op == CmpOp.In)=false:=by cases op<;>first|rfl|exact absurd rfl h
 have e2:(op == CmpOp.NotIn)=false:=by cases op<;>first|rfl|exact absurd rfl h2
 cases b<;>simp[behindInMarks,e1,e2]
theorem Yx{op:CmpOp}{r:R2}(ho:OpR X (compareOp op) r)(ha:PE X a ta)(hb:PE X b tb)(hm:behindInMarks op b=false):PE X (.Compare a [op] [b] pos) (tOp r ta tb):=by
 intro pins s σ H Q I h;exact wpAny_Compare1 (binT ha hb I h fun v u s2 x y H2 I2 rx ry q=>ho pins s2 σ H2 x y v u Q I2 rx ry q) hm
def zdf(t:TE):TT:=fun σ H Q=>t σ H fun x H'=>∃ k,x=.bl k/\Q k H'
theorem Zp(ho:OpR X (compareOp op) r)(ha:PE X a ta)(hb:PE X b tb)(hm:behindInMarks op b=false):PT X (.Compare a [op] [b] pos) (zdf (tOp r ta tb)):=by
 intro pins s σ H Q I h;refine wpAny_isTrue_Compare1 (thn (ha pins s σ H _ I h) fun v s1 ⟨x,H1,I1,r1,q1⟩=>thn (hb pins s1 σ H1 _ I1 q1) fun u s2 ⟨y,H2,I2,r2,q2⟩ =>
  thn (ho pins s2 σ H2 x y v u _ I2 r1 r2 q2) fun c s3 ⟨z,H3,I3,r3,k,e,q3⟩=>?_) hm
 subst e;cases r3;exact wpAny_truthy_bool ⟨H3,I3,q3⟩
def TruV(K:Frag)(x:V)(H:Hp)(k:Bool):Prop :=
 match x with
 | .non=>k=false
 | .bl b=>k=b
 | .int i=>k=(i != 0)
 | .str y=>y.length<=sizeLine/\k=((y.length:Int) != 0)
 | .byt y=>y.size<=sizeLine/\k=((y.size:Int) != 0)
 | .ref p=>(∃ xs,SqL K H p xs/\k=!xs.isEmpty)\/(∃ xs,SqT K H p xs/\k=!xs.isEmpty)\/∃ kvs,H p=some (.dK kvs)/\k=!kvs.isEmpty
 | _=>False
theorem Af(r:KV kvs vs):(!vs.isEmpty)=!kvs.isEmpty:=by
 cases r<;>rfl
theorem Js(r:Vals xs its):(!its.toArray.isEmpty)=!xs.isEmpty:=by
 cases r<;>simp
theorem O7:(sizeLine:Nat)<2 ^ 63:=by rw[sizeLine_eq];decide
theorem zg6:zka X (fun x H Q=>∃ k,TruV X.K x H k/\Q k H):=by
 intro pins s σ H x v Q I rx h;obtain⟨k,e,q⟩:=h;have hl:=O7;have hs:sizeLine=16777216:=sizeLine_eq;cases x with
 | non =>
   cases rx;have e':k=false:=e;subst e';exact truthy_none ⟨H,I,q⟩
 | bl b =>
   cases rx;have e':k=b:=e;subst e';exact wpAny_truthy_bool ⟨H,I,q⟩
 | int i =>
   obtain⟨t,rfl⟩:=rx;have e':k=(i != 0):=e;subst e';exact PySem.P.truthy_int ⟨H,I,q⟩
 | str y =>
   obtain⟨t,rfl⟩:=rx;obtain⟨hy,e'⟩:y.length<=sizeLine/\k=((y.length:Int) != 0):=e;subst e';exact PySem.P.truthy_str ⋯ ⟨H,I.tok _,q⟩
 | byt y =>
   obtain⟨t,rfl⟩:=rx;obtain⟨hy,e'⟩:y.size<=sizeLine/\k=((y.size:Int) != 0):=e;subst e';exact PySem.W.truthy_bytes ⋯ ⟨H,I.tok _,q⟩
 | ref p =>
   cases rx;have e':(∃ xs,SqL X.K H p xs/\k=!xs.isEmpty)\/(∃ xs,SqT X.K H p xs/\k=!xs.isEmpty)\/∃ kvs,H p=some (.dK kvs)/\k=!kvs.isEmpty:=e;rcases e' with ⟨xs,hx,e'⟩|⟨xs,hx,e'⟩|⟨kvs,hx,e'⟩
   ·subst e';obtain⟨its,r,pl,hz⟩:=I.list hx;have hlen:=r.length;exact wpAny_truthy_list pl.isList (by simp only[ztj];omega) ⟨H,I.tok _,by rw[Js r];exact q⟩
   ·subst e';obtain⟨its,r,pl,hz⟩:=I.tuple hx;have hlen:=r.length;exact truthy_tuple pl (by simp only[ztj];omega) ⟨H,I.tok _,by rw[Js r];exact q⟩
   ·subst e';obtain⟨hz,hS,vs,r,m⟩:kvs.length<=sizeLine/\(p == sysModules)=false/\∃ vs,KV kvs vs/\s.heap.DictOf (Yi X.prog X.w) p vs:=I.hok p _ hx;have hlen:kvs.length=vs.length:=Paired.length r;exact wpAny_truthy_dict hS m ⋯ ⟨H,I.tok _,by rw[Af r];exact q⟩
 | _=>exact(show False from e).elim
theorem zdg(ha:PE X a ta)(he:∀ whole,isTrue a X.env whole=(do let v <- whole;standAt a.pos;holding [v] (truthy v))) :
  PT X a (fun σ H Q=>ta σ H fun x H'=>∃ k,TruV X.K x H' k/\Q k H'):=by
 intro pins s σ H Q I h;exact isTrue_plain (thn (ha pins s σ H _ I h) fun v s1 ⟨x,H1,I1,r1,q1⟩=>zg6 pins s1 σ H1 x v Q I1 r1 q1) (he _)
theorem To(r:Vals [x] us):∃ u,us=[u]/\RelV x u:=by
 cases r with
 | cons r1 r2=>cases r2;exact⟨_,rfl,r1⟩
theorem zdh(r:Vals [x,y] us):∃ u w',us=[u,w']/\RelV x u/\RelV y w':=by
 cases r with
 | cons r1 r2 =>
   cases r2 with
   | cons r3 r4=>cases r4;exact⟨_,_,rfl,r1,r3⟩
theorem zdi:Vy X (.builtin "abs") (fun xs H Q=>∃ i,xs=[.int i]/\Q (.int (if i<0 then -i else i)) H):=by
 intro pins s σ H xs us Q I r h;obtain⟨i,rfl,q⟩:=h;obtain⟨u,rfl,t,rfl⟩:=To r;exact call_abs_int fun u tk=>⟨.int (if i<0 then -i else i),H,I.tok _,⟨_,rfl⟩,q⟩
theorem zby(hc:X.calm=true):Vy X (.builtin "max") (fun xs H Q=>∃ i j,xs=[.int i,.int j]/\Q (.int (if j>i then j else i)) H):=by
 intro pins s σ H xs us Q I r h;obtain⟨i,j,rfl,q⟩:=h;obtain⟨u,w',rfl,⟨t,rfl⟩,⟨t',rfl⟩⟩:=zdh r;refine max_two_ints (I.ok.hd hc) fun h' tk k=>⟨_,H,I.kept k,?_,q⟩
 by_cases hj:j>i
 ·rw[if_pos hj,if_pos hj];exact⟨_,rfl⟩
 ·rw[if_neg hj,if_neg hj];exact⟨_,rfl⟩
theorem M4(hc:X.calm=true):Vy X (.builtin "min") (fun xs H Q=>∃ i j,xs=[.int i,.int j]/\Q (.int (if j<i then j else i)) H):=by
 intro pins s σ H xs us Q I r h;obtain⟨i,j,rfl,q⟩:=h;obtain⟨u,w',rfl,⟨t,rfl⟩,⟨t',rfl⟩⟩:=zdh r;refine min_two_ints (I.ok.hd hc) fun h' tk k=>⟨_,H,I.kept k,?_,q⟩
 by_cases hj:j<i
 ·rw[if_pos hj,if_pos hj];exact⟨_,rfl⟩
 ·rw[if_neg hj,if_neg hj];exact⟨_,rfl⟩
theorem zbz:Vy X (.type "int") (fun xs H Q=>(∃ i,xs=[.int i]/\Q (.int i) H)\/∃ k,xs=[.bl k]/\Q (.int (if k then 1 else 0)) H):=by
 intro pins s σ H xs us Q I r h;rcases h with ⟨i,rfl,q⟩|⟨k,rfl,q⟩
 ·obtain⟨u,rfl,t,rfl⟩:=To r;exact call_int_int ⟨.int i,H,I,⟨_,rfl⟩,q⟩
 ·obtain⟨u,rfl,r1⟩:=To r;cases r1;exact call_int_bool ⟨.int (if k then 1 else 0),H,I.tok _,⟨_,rfl⟩,q⟩
end
structure ObjM(h:Heap)(x dx C:Addr)(mA:Str->Option Value):Prop where
 obj:h.get? x=some (PySem.W.instObj C dx)
 ns:h.Ns1 dx mA
 ne:dx≠x
theorem zb0{h:Heap}{dx:Addr}{mA:Str->Option Value}(n:h.Ns1 dx mA):∃ od,h.get? dx=some od/\∀ name,PySem.W.lookIn name od=some (mA name):=by
 obtain⟨o,es,ep,ho,hd,hk,_,hm⟩:=n;refine⟨o,ho,fun name=>?_⟩;have e:=hm name;unfold nsFind findBy at e;rw[<- Array.find?_toList] at e;unfold PySem.W.lookIn;rw[hd];dsimp only;split
 ·rename_i y q;rw[q] at e;exact congrArg some e
 ·rename_i q;rw[q] at e;have a:es.toList.any (·.refKey)=false:=by
   rw[List.any_eq_false];intro y hy;obtain⟨z,t,hkey⟩:=hk y (Array.mem_toList_iff.mp hy);simp[DictEntry.refKey,hkey]
  have a':¬ es.toList.any (·.refKey)=true:=by rw[a];exact ztv
  rw[if_neg a'];exact congrArg some e
theorem ObjM.look(I:ObjM h x dx C mA):∃ od,PySem.W.InstAt h x (PySem.W.instObj C dx) C (some od)/\∀ name,PySem.W.lookIn name od=some (mA name) :=
 let ⟨od,ho,hl⟩:=zb0 I.ns
 ⟨od,⟨I.obj,rfl,rfl,ho⟩,hl⟩
section
variable{prog:Program}{w:World}{A:Around}{E:Value->Shared->Prop}{s:Shared}{K:Frag}{x dx C f:Addr}{mA:Str->Option Value}{name:Str}{v:Value}
theorem zff(X:K.In s.heap)(I:ObjM s.heap x dx C mA)(hg:PySem.W.plainGet K C name=true)(hh:PySem.W.hasDictIn K C=true)
  (ha:PySem.W.findIn K (.ref C) name=some none) (hv:mA name=some v) (hv':PySem.W.handedIn v=true) (h:Q v { s with toks:=s.toks+1 }) :
  wpAny (model prog w) A (getAttr (.ref x) name expr) Q E s:=by
 obtain⟨od,J,hl⟩:=I.look;exact PySem.W.get_value X J (PySem.W.plainGet_of hg).1 (PySem.W.findObj_own hh ha rfl (by rw[hl,hv])) hv' h
theorem zdj(X:K.In s.heap)(I:ObjM s.heap x dx C mA)(hg:PySem.W.plainGet K C name=true)
  (hf:PySem.W.findIn K (.ref C) name=some (some (.ref f))) (ht:PySem.W.isFn K (.ref f)=true) (hv:mA name=none) (h:Q (.ref f,[.ref x]) s) :
  wpAny (model prog w) A (getMethod (.ref x) name pl) Q E s:=by
 obtain⟨od,J,hl⟩:=I.look;exact PySem.W.method_fn X J (PySem.W.plainGet_of hg).1 (PySem.W.plainGet_of hg).2 hf (beq_iff_eq.mp ht) (by show (PySem.W.lookIn name od).map (·.isSome)=some false;rw[hl,hv];rfl) h
theorem zfg(X:K.In s.heap)(I:ObjM s.heap x dx C mA)
  (hs:PySem.W.findIn K (.ref C) "__setattr__"=some (some (.builtin "object.__setattr__"))) (hp:PySem.W.plainOver K C=true) (ht:PySem.W.takerIn K C name=some none) (hh:PySem.W.hasDictIn K C=true)
  (hw:PySem.Within mA ns) (hsz:ns.length<=sizeLine)
  (h:∀ h',ObjM h' x dx C (fun y=>if y=name then some v else mA y)->Heap.SameBut dx s.heap h'->Q () { s with heap:=h',toks:=s.toks+2 }) :
  wpAny (model prog w) A (setAttr (.ref x) name v) Q E s:=by
 obtain⟨od,J,hl⟩:=I.look;refine PySem.W.set_plain X J hs (PySem.W.osa_open (s:={ s with toks:=s.toks+1 }) (r:=none) X J hp ht fun b=>?_);obtain⟨cd,hc,hd'⟩:=PySem.W.any_some hh;have hx:s.heap.get? x=some ⟨.ref C,some dx,.plain,#[]⟩:=I.obj;refine wpAny_bind (wpAny_pure (wpAny_bind (wpAny_bind (wpAny_loadPart hx (wpAny_bind (PySem.W.Looks.here (s:={ s with toks:=s.toks+1 }) (PySem.W.looks_clsIn X hc) ?_))))));rw[hd'];refine wpAny_pure (a:=some dx) (wpAny_bind (wpAny_pure (wpAny_bind ?_)));refine wpAny_nsSet1 (s:={ s with toks:=s.toks+1 }) I.ns fun h' hn2 hs2=>?_;obtain⟨oD,esD,epD,hoD,hdD,hcD⟩:=hn2.count (PySem.Within.cons name v hw);refine wpAny_bind (wpAny_lookBehind hoD (by rw[hdD];exact pastItsLine_dict (ztk hcD (by rw[ztt];omega))) ?_);exact wpAny_pure (h _ ⟨(hs2.2 _ (Ne.symm I.ne)).trans I.obj,hn2,I.ne⟩ hs2)
theorem zdk(X:K.In s.heap)(hm:PySem.W.makesIn K C=true)
  (hi:PySem.W.findIn K (.ref C) "__init__"=some (some (.ref f))) (hf:PySem.W.typeIn K (.ref f)=some (.type "function"))
  (h:codeAny (model prog w) (A.under (.builtin "type.__call__" ⟨.ref C :: vs,kw⟩)) (.call (.ref f) ⟨.ref (s.heap.objs.size+1) :: vs,kw⟩) (PySem.W.InitBack (s.heap.objs.size+1) R)
   { s with heap:=(s.heap.push PySem.W.emptyDict).push (PySem.W.instObj C s.heap.objs.size) }) :
  codeAny (model prog w) A (.call (.ref C) ⟨vs,kw⟩) R s:=by
 obtain⟨hh,g,d,t,os⟩:=s;exact PySem.W.make_core (PySem.W.makes_of X hm) (PySem.W.looks_findIn X hi) (fun self=>PySem.W.bind_fn X self hf) (.inl rfl) h
end
def putF(f:Str)(v:V):List (Str×V)->List (Str×V)
 | []=>[(f,v)]
 | (g,x) :: r=>if g=f then (g,v) :: r else (g,x) :: putF f v r
theorem Ke(f g:Str)(v:V):∀ fs:List (Str×V),(putF f v fs).lookup g=if g=f then some v else fs.lookup g
 | []=>by
   show List.lookup g [(f,v)]=_;by_cases h:g=f
   ·have hb:(g == f)=true:=beq_iff_eq.mpr h;simp only[List.lookup,hb,if_pos h]
   ·have hb:(g == f)=false:=zty.mpr h;simp only[List.lookup,hb,if_neg h]
 | (k,x) :: r=>by
   have ih:=Ke f g v r;rw[show putF f v ((k,x) :: r)=(if k=f then (k,v) :: r else (k,x) :: putF f v r) from rfl];by_cases hk:k=f
   ·rw[if_pos hk];by_cases h:g=k
    ·have hb:(g == k)=true:=beq_iff_eq.mpr h;simp only[List.lookup,hb,if_pos (h.trans hk)]
    ·have hb:(g == k)=false:=zty.mpr h;simp only[List.lookup,hb,if_neg (fun e:g=f=>h (e.trans hk.symm))]
   ·rw[if_neg hk];by_cases h:g=k
    ·have hb:(g == k)=true:=beq_iff_eq.mpr h;simp only[List.lookup,hb,if_neg (fun e:g=f=>hk (h.symm.trans e))]
    ·have hb:(g == k)=false:=zty.mpr h;simp only[List.lookup,hb];exact ih
theorem M5(f:Str)(v:V):∀ fs:List (Str×V),f∈(putF f v fs).map (·.1)/\∀ g,g∈fs.map (·.1)->g∈(putF f v fs).map (·.1)
 | []=>⟨by simp[putF],fun g h=>by simp at h⟩
 | (k,x) :: r=>by
   obtain⟨i1,i2⟩:=M5 f v r;rw[show putF f v ((k,x) :: r)=(if k=f then (k,v) :: r else (k,x) :: putF f v r) from rfl];by_cases hk:k=f
   ·rw[if_pos hk];subst hk;exact⟨by simp,fun g h=>by simpa using h⟩
   ·rw[if_neg hk];refine⟨?_,fun g h=>?_⟩
    ·rw[ztm];exact ztx _ i1
    ·rw[ztm] at h ⊢;rcases ztf.mp h with e|e
     ·exact ztf.mpr (.inl e)
     ·exact ztx _ (i2 g e)
theorem Kf(f:Str)(v:V):∀ fs:List (Str×V),(putF f v fs).length<=fs.length+1
 | []=>by simp[putF]
 | (k,x) :: r=>by
   have ih:=Kf f v r;rw[show putF f v ((k,x) :: r)=(if k=f then (k,v) :: r else (k,x) :: putF f v r) from rfl];by_cases hk:k=f
   ·rw[if_pos hk,ztt,ztt];omega
   ·rw[if_neg hk,ztt,ztt];omega
theorem RelO.some_of(r:RelO (some v) o):∃ u,o=some u/\RelV v u:=by
 cases o with
 | none=>exact(show False from r).elim
 | some u=>exact⟨u,rfl,r⟩
theorem RelO.none_of(r:RelO none o):o=none:=by
 cases o with
 | none=>rfl
 | some u=>exact(show False from r).elim
theorem zb1(r:RelV v u):PySem.W.handedIn u=true:=by
 cases v with
 | non=>cases (show u=Value.none from r);rfl
 | bl b=>cases (show u=Value.bool b from r);rfl
 | int i=>obtain⟨t,e⟩:=(show ∃ t,u=Value.int i t from r);cases e;rfl
 | str x=>obtain⟨t,e⟩:=(show ∃ t,u=Value.str x t from r);cases e;rfl
 | byt b=>obtain⟨t,e⟩:=(show ∃ t,u=Value.bytes b t from r);cases e;rfl
 | flt b=>obtain⟨t,e⟩:=(show ∃ t,u=Value.float b t from r);cases e;rfl
 | ref a=>cases (show u=Value.ref a from r);rfl
 | ty n=>cases (show u=Value.type n from r);rfl
section
variable{P:Program}{w:World}{H H':Hp}{h h':Heap}{a C dx:Addr}{fs fs':List (Str×V)}
theorem Jh(hok:HOk P w H h)(e:H a=some (.ins C dx fs)):∃ mA,ObjM h a dx C mA/\(∀ f,RelO (fs.lookup f) (mA f))/\PySem.Within mA (fs.map (·.1))/\fs.length<=1000/\H dx=some (.own a):=by
 obtain⟨d,z,ne,ob,mA,n,r,q⟩:=(show Yw P w H h a (.ins C dx fs) from hok a _ e);exact⟨mA,⟨ob,n,ne⟩,r,q,z,d⟩
end
structure Cls(K:Frag)(C:Addr):Prop where
 pg:PySem.W.plainGet K C Str.empty=true
 hd:PySem.W.hasDictIn K C=true
 po:PySem.W.plainOver K C=true
 sa:PySem.W.findIn K (.ref C) "__setattr__"=some (some (.builtin "object.__setattr__"))
theorem Cls.get{K:Frag}{C:Addr}(c:Cls K C)(f:Str):PySem.W.plainGet K C f=true:=c.pg
def Xt(K:Frag)(C:Addr)(f:Str):Prop:=PySem.W.findIn K (.ref C) f=some none
theorem Xt.taker{K:Frag}{C:Addr}{f:Str}(n:Xt K C f):PySem.W.takerIn K C f=some none:=by
 unfold PySem.W.takerIn;rw[show PySem.W.findIn K (.ref C) f=some none from n];rfl
structure Con(K:Frag)(C:Addr)(f:Str)(v:V)(u:Value):Prop where
 at_:PySem.W.findIn K (.ref C) f=some (some u)
 rel:RelV v u
 get:PySem.W.specialIn K u "__get__"=some none
 cp:PySem.W.copiedNames.contains f=false
structure zdl(K:Frag)(C:Addr)(m:Str)(f:Addr):Prop where
 at_:PySem.W.findIn K (.ref C) m=some (some (.ref f))
 fn:PySem.W.isFn K (.ref f)=true
 kp:PySem.W.keepIn K (.ref f)=true
section
variable{X:Cx}{pins:List (Addr×Obj)}{σ:St}{H:Hp}{s:Shared}{a C dx:Addr}{fs:List (Str×V)}{f:Str}{v:V}{A:Around}{E:Value->Shared->Prop}
theorem Ag(I:Inv X pins σ H s)(e:H a=some (.ins C dx fs))(c:Cls X.K C)(n:Xt X.K C f)(l:fs.lookup f=some v)
  (h:∀ u s',Inv X pins σ H s'->RelV v u->Q u s'):wpAny (model X.prog X.w) A (getAttr (.ref a) f b) Q E s:=by
 obtain⟨mA,O,r,_,_,_⟩:=Jh I.hok e;obtain⟨u,hu,ru⟩:=RelO.some_of (v:=v) (o:=mA f) (by rw[<- l];exact r f);exact zff I.kIn O (c.get f) c.hd n hu (zb1 ru) (h u _ (I.tok _) ru)
theorem Jt(I:Inv X pins σ H s)(e:H a=some (.ins C dx fs))(c:Cls X.K C)(k:zdl X.K C m g)(l:fs.lookup m=none)
  (h:Q (.ref g,[.ref a]) s):wpAny (model X.prog X.w) A (getMethod (.ref a) m pl) Q E s:=by
 obtain⟨mA,O,r,_,_,_⟩:=Jh I.hok e;have hn:mA m=none:=RelO.none_of (by rw[<- l];exact r m);exact zdj I.kIn O (c.get m) k.at_ k.fn hn h
theorem Ah(I:Inv X pins σ H s)(e:H a=some (.ins C dx fs))(c:Cls X.K C)(n:Xt X.K C f)(hl:fs.length<1000)(ry:RelV y u)
  (h:∀ s',Inv X pins σ (upd H a (.ins C dx (putF f y fs))) s'->Q () s'):wpAny (model X.prog X.w) A (setAttr (.ref a) f u) Q E s:=by
 obtain⟨mA,O,r,wi,_,ho⟩:=Jh I.hok e;have hz:(fs.map (·.1)).length<=sizeLine:=by rw[zs4,sizeLine_eq];omega
 refine zfg I.kIn O c.sa c.po n.taker c.hd wi hz fun h' O' sb=>h _ ?_;have hd:∃ o,h'.get? dx=some o:=let ⟨o,_,_,e',_⟩:=O'.ns;⟨o,e'⟩;refine I.write (x:=a) (e:=dx) (by rw[e];exact True.intro) (.inr ho) (fun b q hb z=>(sb.2 b hb).trans z) hd ?_;refine⟨by rw[Zh O.ne];exact ho,?_,O.ne,O'.obj,_,O'.ns,fun g=>?_,fun g hg=>?_⟩
 ·have:=Kf f y fs;omega
 ·show RelO ((putF f y fs).lookup g) (if g=f then some u else mA g);rw[Ke];by_cases q:g=f
  ·rw[if_pos q,if_pos q];exact ry
  ·rw[if_neg q,if_neg q];exact r g
 ·by_cases q:g=f
  ·rw[q];exact(M5 f y fs).1
  ·refine(M5 f y fs).2 g (wi g fun z=>hg ?_);show (if g=f then some u else mA g)=none;rw[if_neg q];exact z
theorem Inv.made(I:Inv X pins σ H s):Inv X pins σ (upd (upd H s.heap.objs.size (.own (s.heap.objs.size+1))) (s.heap.objs.size+1) (.ins C s.heap.objs.size []))
  { s with heap:=(s.heap.push PySem.W.emptyDict).push (PySem.W.instObj C s.heap.objs.size) }:=by
 have e1:(s.heap.push PySem.W.emptyDict).get? s.heap.objs.size=some PySem.W.emptyDict:=Heap.get?_push_size s.heap rfl;have e2:((s.heap.push PySem.W.emptyDict).push (PySem.W.instObj C s.heap.objs.size)).get? (s.heap.objs.size+1)=some (PySem.W.instObj C s.heap.objs.size):=by
  have:=Heap.get?_push_size (s.heap.push PySem.W.emptyDict) (o:=PySem.W.instObj C s.heap.objs.size) rfl
  rwa [Heap.size_push] at this
 have e3:(s.heap.push PySem.W.emptyDict).Ns s.heap.objs.size (fun _=>none):=⟨PySem.W.emptyDict,#[],_,e1,rfl,(fun e he=>absurd he (by simp)),fun _=>rfl⟩;have I1:=I.laid (a:=s.heap.objs.size) (o:=.own (s.heap.objs.size+1)) (h':=s.heap.push PySem.W.emptyDict) (t':=s.toks) (fun b u q=>Heap.get?_push_of_some _ q) (ztc _) ⟨_,e1⟩;refine I1.laid (a:=s.heap.objs.size+1) (o:=.ins C s.heap.objs.size []) (t':=s.toks) (fun b u q=>Heap.get?_push_of_some _ q) (Nat.le_of_eq (Heap.size_push _ _)) ?_;have ne:s.heap.objs.size≠s.heap.objs.size+1:=zts (zvc _);refine⟨by rw[Zh ne,Ze],zt6 _,ne,e2,fun _=>none,(Heap.Ns1.of_empty e3).at fun o q=>Heap.get?_push_of_some _ q,fun _=>True.intro,fun y hy=>absurd rfl hy⟩
theorem zfh(hb:attributeBase e f env (eval e env)=eval e env)
  (h:wpAny (model prog w) A (eval e env) (fun o s₁=>wpAny (model prog w) A (getAttr o f true) Q E s₁) E s):wpAny (model prog w) A (eval (.Attribute e f pos) env) Q E s :=
 Attribute_any_ h (by rw[arm_eval_Attribute,hb])
end
inductive ziu(K:Frag)(f:Str)(Q:VK)(x:V)(H1:Hp):Prop where
 | mk(a)(C)(dx)(fs)(v)(_:x=.ref a)(_:H1 a=some (.ins C dx fs))(_:Cls K C)(_:Xt K C f)(_:fs.lookup f=some v)(_:Q v H1)
def ziv(K:Frag)(ta:TE)(f:Str):TE:=fun σ H Q=>ta σ H fun x H1=>ziu K f Q x H1
inductive ziw(K:Frag)(f:Str)(D:N5)(σ:L2.St)(y:V)(x:V)(H2:Hp):Prop where
 | mk(a)(C)(dx)(fs)(_:x=.ref a)(_:H2 a=some (.ins C dx fs))(_:Cls K C)(_:Xt K C f)(_:fs.length<1000)(_:D.nx σ (upd H2 a (.ins C dx (putF f y fs))))
def zix(K:Frag)(ta tv:TE)(f:Str):TS:=fun D σ H=>tv σ H fun y H1=>ta σ H1 fun x H2=>ziw K f D σ y x H2
section
variable{X:Cx}{o e value:Expr}{f:Str}{pos pos' tpos:Pos}{ta tv:TE}
theorem zg7(he:PE X e ta)(hb:attributeBase e f X.env (eval e X.env)=eval e X.env):PE X (.Attribute e f pos) (ziv X.K ta f):=by
 intro pins s σ H Q I h;refine zfh hb (thn (he pins s σ H _ I h) fun u s1 ⟨x,H1,I1,rx,a,C,dx,fs,v,ex,ea,c,n,l,q⟩=>?_);subst ex;obtain rfl:u=Value.ref a:=rx;exact Ag I1 ea c n l fun u' s2 I2 ru=>⟨v,H1,I2,ru,q⟩
theorem zg8(ha:PE X o ta)(hv:PE X value tv)(hs:swapsWith value (some (.Attribute o f pos')) pos.line X.env=pure false):PS X (.Assign [.Attribute o f pos'] value pos) (zix X.K ta tv f):=by
 intro pins s σ H D I h;refine plainObj_wpAny_Assign_Attribute (thn (hv pins s σ H _ I h) fun u s1 ⟨y,H1,I1,ry,q⟩=>thn (ha pins s1 σ H1 _ I1 q) fun ov s2 ⟨x,H2,I2,rx,a,C,dx,fs,ex,ea,c,n,l,q2⟩=>?_) hs;subst ex;obtain rfl:ov=Value.ref a:=rx;exact Ah I2 ea c n l ry fun s3 I3=>⟨σ,_,I3,q2⟩
end
section
variable{X:Cx}{pins:List (Addr×Obj)}{σ:St}{H:Hp}{s:Shared}{A:Around}{E:Value->Shared->Prop}{Q:Value->Shared->Prop}{c:Value}{b:Bool}
inductive M6(K:Frag)(H:Hp):V->Value->Prop where
 | non:M6 K H .non (.type "NoneType")
 | bl (x:Bool):M6 K H (.bl x) (.type "bool")
 | int (i:Int):M6 K H (.int i) (.type "int")
 | str (x:Str):M6 K H (.str x) (.type "str")
 | flt (x:UInt64):M6 K H (.flt x) (.type "float")
 | lst {a:Addr} {xs:List V} (e:H a=some (.lst xs)):M6 K H (.ref a) (.type "list")
 | frz {a:Addr} {o:Obj} {xs:List V} (e:H a=some (.frz o (.lst xs))):M6 K H (.ref a) (.type "list")
 | tup {a:Addr} {xs:List V} (e:H a=some (.tup xs)):M6 K H (.ref a) (.type "tuple")
 | dK {a:Addr} {kvs:List (Key×V)} (e:H a=some (.dK kvs)):M6 K H (.ref a) (.type "dict")
 | dT {a:Addr} {kvs:List (List Key×V)} (e:H a=some (.dT kvs)):M6 K H (.ref a) (.type "dict")
 | ins {a C dx:Addr} {fs:List (Str×V)} (e:H a=some (.ins C dx fs)) (cl:Cls K C) (ha:PySem.W.findIn K (.ref C) "__class__"=some (some (.builtin "object.__class__")))
   (hn:PySem.W.specialIn K (.builtin "object.__class__") "__get__"=some (some (.builtin "getset_descriptor.__get__"))) (htk:PySem.W.takesIn K (.builtin "object.__class__")=some true)
   (hm:PySem.W.mroIn K C (.type "object")=some true):M6 K H (.ref a) (.ref C)
theorem zb2(I:Inv X pins σ H s)(rx:RelV x u)(ty:M6 X.K H x t)(e:PySem.W.kitOne X.K t c=some b)(h:∀ tk,Q (.bool b) { s with toks:=tk }) :
  wpAny (model X.prog X.w) A (call (.builtin "isinstance") [u,c]) Q E s:=by
 cases ty with
 | non=>cases (show u=Value.none from rx);exact PySem.W.kia_one PySem.W.kitx_none I.kIn True.intro e (fun z=>nomatch z) h
 | bl y=>cases (show u=Value.bool y from rx);exact PySem.W.kia_one PySem.W.kitx_bool I.kIn True.intro e (fun z=>nomatch z) h
 | int i=>obtain⟨t,q⟩:=(show ∃ t,u=Value.int i t from rx);cases q;exact PySem.W.kia_one PySem.W.kitx_int I.kIn True.intro e (fun z=>nomatch z) h
 | str y=>obtain⟨t,q⟩:=(show ∃ t,u=Value.str y t from rx);cases q;exact PySem.W.kia_one PySem.W.kitx_str I.kIn True.intro e (fun z=>nomatch z) h
 | flt y=>obtain⟨t,q⟩:=(show ∃ t,u=Value.float y t from rx);cases q;exact PySem.W.kia_one PySem.W.kitx_float I.kIn True.intro e (fun z=>nomatch z) h
 | @lst a xs ea =>
   cases (show u=Value.ref a from rx);obtain⟨_,_,n,_,h1⟩:=(show Yw X.prog X.w H s.heap a (.lst xs) from I.hok a _ ea);exact PySem.W.kia_one PySem.W.kitx_list I.kIn ⟨_,h1,rfl⟩ e (fun z=>nomatch z) h
 | @frz a ob xs ea =>
   cases (show u=Value.ref a from rx);obtain⟨_,_,_,n,_,h1⟩:=(show Yw X.prog X.w H s.heap a (.frz ob (.lst xs)) from I.hok a _ ea);exact PySem.W.kia_one PySem.W.kitx_list I.kIn ⟨_,h1,rfl⟩ e (fun z=>nomatch z) h
 | @tup a xs ea =>
   cases (show u=Value.ref a from rx);obtain⟨_,_,_,p⟩:=(show Yw X.prog X.w H s.heap a (.tup xs) from I.hok a _ ea);obtain⟨o,h1,h2,_⟩:=p;exact PySem.W.kia_one PySem.W.kitx_tuple I.kIn ⟨o,h1,h2⟩ e (fun z=>nomatch z) h
 | @dK a kvs ea =>
   cases (show u=Value.ref a from rx);obtain⟨_,_,vs,_,p⟩:=(show Yw X.prog X.w H s.heap a (.dK kvs) from I.hok a _ ea);obtain⟨o,es,ep,h1,h2,_⟩:=p;exact PySem.W.kia_one PySem.W.kitx_dict I.kIn ⟨o,h1,h2.1⟩ e (fun z=>nomatch z) h
 | @dT a kvs ea =>
   cases (show u=Value.ref a from rx);obtain⟨_,_,xs,_,o,es,ep,h1,h2,_⟩:=(show Yw X.prog X.w H s.heap a (.dT kvs) from I.hok a _ ea);exact PySem.W.kia_one PySem.W.kitx_dict I.kIn ⟨o,h1,h2.1⟩ e (fun z=>nomatch z) h
 | @ins a C dx fs ea cl ha hn htk hm =>
   cases (show u=Value.ref a from rx);obtain⟨mA,O,_⟩:=Jh I.hok ea;obtain⟨od,J,_⟩:=O.look;exact PySem.W.kia_one (PySem.W.kitx_own (cl.get _) cl.hd ha hn htk hm) I.kIn J e (fun z=>nomatch z) h
end
structure Vf(k:Nat)(A:Around):Prop where
 hd:A.handled=none
 dp:A.depth+3*k+5<recursionLimit
 un:A.units+16*k+200<cLine
theorem Vf.mono(r:Vf k A)(h:j<=k):Vf j A:=⟨r.hd,by have:=r.dp;omega,by have:=r.un;omega⟩
theorem Vf.deeper(r:Vf (k+1) A)(env:Env):Vf k (A.deeper env) :=
 ⟨r.hd,by have:=r.dp;show A.depth+1+3*k+5<_;omega,by have:=r.un;show A.units+3+16*k+200<_;omega⟩
theorem Ai{A:Around}{C:Addr}{us:List Value}{kw:List (Str×Value)}:(A.under (.builtin "type.__call__" ⟨.ref C :: us,kw⟩)).depth=A.depth+1:=by
 first|rfl|simp[Around.under,Code.weight,Code.isCreation,Code.isGuard,Code.isCaller,Code.frames,Code.isFrame,guardIds]
theorem Aj{A:Around}{C:Addr}{us:List Value}{kw:List (Str×Value)}:(A.under (.builtin "type.__call__" ⟨.ref C :: us,kw⟩)).units=A.units+1:=by
 first|rfl|simp[Around.under,Code.cUnits,Code.frames,Code.isFrame]
theorem Vf.make(r:Vf (k+1) A)(C:Addr)(us:List Value)(kw:List (Str×Value)):Vf k (A.under (.builtin "type.__call__" ⟨.ref C :: us,kw⟩)) :=
 ⟨r.hd,by have:=r.dp;rw[Ai];omega,by have:=r.un;rw[Aj];omega⟩
theorem Vf.depth(r:Vf k A):A.depth<recursionLimit:=by have:=r.dp;omega
theorem Vf.units(r:Vf k A):A.units+64<cLine:=by have:=r.un;omega
def tNil:TA:=fun _ H Q=>Q [] H
def zao(ta:TE)(tr:TA):TA:=fun σ H Q=>ta σ H fun x H1=>tr σ H1 fun xs H2=>Q (x :: xs) H2
section
variable{X:Cx}{e:Expr}{es:List Expr}{te:TE}{t:TA}{pos:Pos}
theorem Zc:PA X [] tNil:=fun _ _ _ _ H Q I h=>Calls.spliced_nil ⟨[],H,I,.nil,h⟩
theorem Za(ha:PE X e te)(hr:PA X es t)(hs:starEach (e :: es) X.env=(false,eval e X.env) :: starEach es X.env:=by rfl):PA X (e :: es) (zao te t):=by
 intro pos pins s σ H Q I h;rw[hs];show wpAny _ _ (spliced ((false,eval e X.env) :: backTo pos (starEach es X.env))) _ _ s;refine Calls.spliced_cons (thn (ha pins s σ H _ I h) fun u s1 ⟨x,H1,I1,r1,q1⟩=>?_);exact thn (hr pos pins s1 σ H1 _ I1 q1) fun us s2 ⟨xs,H2,I2,r2,q2⟩=>⟨x :: xs,H2,I2,.cons r1 r2,q2⟩
inductive ziy(Q:VK)(xs:List V)(H1:Hp):Prop where
 | mk(_:xs.length<=sizeLine)(_:∀ p,H1 p=none->Q (.ref p) (upd H1 p (.tup xs)))
def zkb(t:TA):TE:=fun σ H Q=>t σ H fun xs H1=>ziy Q xs H1
inductive ziz(Q:VK)(xs:List V)(H1:Hp):Prop where
 | mk(_:xs.length<=sizeLine)(_:∀ p,H1 p=none->Q (.ref p) (upd H1 p (.lst xs)))
def tLst(t:TA):TE:=fun σ H Q=>t σ H fun xs H1=>ziz Q xs H1
theorem Xg{x1}(h:PA X es t):PE X (.Tuple es x1 pos) (zkb t):=by
 intro pins s σ H Q I hq;refine wpAny_Tuple_spliced (thn (h pos pins s σ H _ I hq) fun us s1 ⟨xs,H1,I1,r,z,q⟩=>⟨by rw[<- r.length];exact z,?_⟩);have hf:H1 s1.heap.objs.size=none:=I1.hok.fresh (ztc _);refine⟨.ref s1.heap.objs.size,upd H1 s1.heap.objs.size (.tup xs),I1.laid (t':=s1.toks) (fun b u e=>Heap.get?_push_of_some _ e) (ztc _) ?_,rfl,q _ hf⟩;exact⟨z,us,r,⟨_,Heap.get?_push_size _ rfl,rfl,_,rfl⟩⟩
theorem Yl(h:PA X es t):PE X (.List es pos) (tLst t):=by
 intro pins s σ H Q I hq;refine wpAny_List_spliced (thn (h pos pins s σ H _ I hq) fun us s1 ⟨xs,H1,I1,r,z,q⟩=>⟨by rw[<- r.length];exact z,?_⟩);have hf:H1 s1.heap.objs.size=none:=I1.hok.fresh (ztc _);refine⟨.ref s1.heap.objs.size,upd H1 s1.heap.objs.size (.lst xs),I1.laid (t':=s1.toks) (fun b u e=>Heap.get?_push_of_some _ e) (ztc _) ?_,rfl,q _ hf⟩;exact⟨z,us,0,r,Heap.get?_push_size _ rfl⟩
end
abbrev Sp:=List V->Hp->VK->XK->Prop
abbrev CXT:=List Env->Hp->Shared->XK->Value->Shared->Prop
structure Kr(P:Program)(w:World)(K:Frag)(mg:Str->Option Value)(base:Heap)(A:Around)(outer:List Env)(s:Shared)(H:Hp):Prop where
 frames:A.frames=some outer
 mod:Mod K mg base
 bs:∀ b o,base.get? b=some o->s.heap.get? b=some o/\H b=none
 bsz:base.objs.size<=s.heap.objs.size
 funs:s.heap.FunFrames base outer
 frf:∀ b∈frs outer,H b=none
 hok:HOk P w H s.heap
 bare:AllBare s.gens
def CE(outer:List Env)(P:Program)(w:World)(H:Hp)(s:Shared)(Q:VK)(u:Value)(s':Shared):Prop :=
 ∃ v H',s'.os=s.os/\AllBare s'.gens/\Un (frs outer) [] H H' s.heap s'.heap/\HOk P w H' s'.heap/\RelV v u/\Q v H'
def CR(CX:CXT)(outer:List Env)(P:Program)(w:World)(H:Hp)(s:Shared)(Q:VK)(E:XK)(r:Result)(s':Shared):Prop :=
 match r with
 | .ok (.ret u)=>CE outer P w H s Q u s'
 | .ok _=>False
 | .error e=>CX outer H s E e s'
structure FnOk(P:Program)(w:World)(K:Frag)(mg:Str->Option Value)(base:Heap)(CX:CXT)(k:Nat)(f:Addr)(fd:FuncData)(ps:List Str)(sp:Sp):Prop where
 len:∀ vs H Q E,sp vs H Q E->vs.length=ps.length
 run:∀ (A:Around) (outer:List Env) (s:Shared) (H:Hp) (args:Args) (us:List Value) (vs:List V) (Q:VK) (E:XK),Vf k A->Kr P w K mg base A outer s H->BindsTo s fd args (ps.zip us)->Vals vs us->sp vs H Q E ->
  codeAny (model P w) A (.call (.ref f) args) (CR CX outer P w H s Q E) s
theorem Kr.make{P:Program}{w:World}{K:Frag}{mg:Str->Option Value}{base:Heap}{A:Around}{outer:List Env}{s:Shared}{H:Hp}(e:Kr P w K mg base A outer s H)(C:Addr)(us:List Value)(kw:List (Str×Value)) :
  Kr P w K mg base (A.under (.builtin "type.__call__" ⟨.ref C :: us,kw⟩)) outer s H:=⟨by first|exact e.frames|(simpa [Around.under,Code.envs,Code.isFrame,pushEnvs] using e.frames),e.mod,e.bs,e.bsz,e.funs,e.frf,e.hok,e.bare⟩
section
variable{X:Cx}{pins:List (Addr×Obj)}{σ:St}{H:Hp}{s s':Shared}
theorem Inv.env0(I:Inv X pins σ H s):Kr X.prog X.w X.K X.mg X.base X.A X.stack s H :=
 ⟨I.ok.frames,I.ok.mod,I.bs,ztk I.ok.bsz I.sz,I.stack,I.stkFree,I.hok,I.bare⟩
theorem Inv.after(I:Inv X pins σ H s)(h:CE X.stack X.prog X.w H s Q u s'):EP X pins σ Q u s':=by
 obtain⟨v,H',os,bare,un,hok,r,q⟩:=h;obtain⟨hh,g,d,t,os'⟩:=s';obtain rfl:os'=s.os:=os;exact⟨v,H',I.call (h':=hh) (g':=g) (d':=d) (t':=t) (ch:=[]) un hok bare (fun b z=>absurd z (by simp)),r,q⟩
end
def zdm(sp:Sp)(dvs:List V)(E:XK)(t:TA):TE:=fun σ H Q=>t σ H fun vs H1=>sp (vs++dvs) H1 Q E
inductive zg9(C:Addr)(m:Str)(sp:Sp)(dvs:List V)(E:XK)(t:TA)(σ:L2.St)(Q:VK)(x:V)(H1:Hp):Prop where
 | mk(a)(dx)(fs)(_:x=.ref a)(_:H1 a=some (.ins C dx fs))(_:fs.lookup m=none)(_:t σ H1 fun vs H2=>sp (x :: (vs++dvs)) H2 Q E)
def zap(C:Addr)(m:Str)(sp:Sp)(dvs:List V)(E:XK)(ta:TE)(t:TA):TE:=fun σ H Q=>ta σ H fun x H1=>zg9 C m sp dvs E t σ Q x H1
def zaq(C:Addr)(sp:Sp)(dvs:List V)(E:XK)(t:TA):TE:=fun σ H Q=>t σ H fun vs H1=>∀ x dx,H1 x=none->H1 dx=none->dx≠x ->
 sp (.ref x :: (vs++dvs)) (upd (upd H1 dx (.own x)) x (.ins C dx [])) (fun v H2=>v=.non/\Q (.ref x) H2) E
def Rn(K:Frag)(fd:FuncData)(ps:List Str)(ds:List Value):Prop :=
 ∀ (s:Shared) (us:List Value),K.In s.heap->(us++ds).length=ps.length->BindsTo s fd ⟨us,[]⟩ (ps.zip (us++ds))
theorem Rn.all{K:Frag}{fd:FuncData}{ps:List Str}(h:∀ us:List Value,us.length=ps.length->bindArgs fd ⟨us,[]⟩=pure (ps.zip us)):Rn K fd ps []:=fun s us _ hl=>by
 rw[zui] at hl ⊢;exact .of_eq (h us hl)
def Vn(CX:CXT)(X:Cx)(E:XK):Prop:=∀ (pins:List (Addr×Obj)) (σ:St) (H:Hp) (s:Shared) (e:Value) (s':Shared),Inv X pins σ H s->CX X.stack H s E e s'->X.xe e s'
section
variable{X:Cx}{CX:CXT}{k:Nat}{f C:Addr}{fd:FuncData}{ps:List Str}{sp:Sp}{dvs:List V}{ds:List Value}{E:XK}{x m:Str}{p pos apos:Pos}{e o:Expr}{es:List Expr}{ta:TE}{t:TA}
theorem Ak(F:FnOk X.prog X.w X.K X.mg X.base CX k f fd ps sp)(hr:Vf k X.A)(hb:Rn X.K fd ps ds)(hd:Vals dvs ds)(hx:Vn CX X E)
  (I:Inv X pins σ H s) (r:Vals vs us) (h:sp (vs++dvs) H Q E):wpAny (model X.prog X.w) X.A (call (.ref f) us) (EP X pins σ Q) X.xe s:=by
 have r2:Vals (vs++dvs) (us++ds):=r.append hd;have hl:(us++ds).length=ps.length:=by rw[<- r2.length];exact F.len _ _ _ _ h
 refine wpAny_call (codeAny_mono (F.run X.A X.stack s H ⟨us,[]⟩ (us++ds) (vs++dvs) Q E hr I.env0 (hb s us I.kIn hl) r2 h) fun r s' hq=>?_);cases r with
 | error e=>exact hx pins σ H s e s' I hq
 | ok fl =>
   cases fl with
   | ret u=>exact I.after hq
   | next=>exact False.elim hq
   | brk=>exact False.elim hq
   | cont=>exact False.elim hq
theorem zfi(F:FnOk X.prog X.w X.K X.mg X.base CX k f fd ps sp)(hr:Vf k X.A)(hg:Gl X x)(hm:X.mg x=some (.ref f))(hk:PySem.W.keepIn X.K (.ref f)=true)(hb:Rn X.K fd ps ds)(hd:Vals dvs ds)(hx:Vn CX X E)
  (ha:PA X (e :: es) t) (hdb:(x == ("__debug__":Str))=false:=by decide) (he:starEach (e :: es) X.env=(false,eval e X.env) :: starEach es X.env:=by rfl) (hpl:(backTo pos (starEach es X.env)).any (·.1)=false:=by rfl) :
  PE X (.Call (.Name x p) (e :: es) [] pos) (zdm sp dvs E t):=by
 intro pins s σ H Q I h;refine wpAny_Call_Name_kw (N6 I hg hm ?_ hdb);refine PySem.W.callWith_K (h₀:=X.base) I.ok.mod.kin hk (thn (ha pos pins s σ H _ I h) fun us s1 ⟨vs,H1,I1,r,q⟩=>⟨I1.kIn,?_⟩) he hpl;exact Ak F hr hb hd hx I1 r q
theorem zfj(he:PE X o ta)(c:Cls X.K C)(hm:zdl X.K C m f)(F:FnOk X.prog X.w X.K X.mg X.base CX k f fd ps sp)(hr:Vf k X.A)(hb:Rn X.K fd ps ds)(hd:Vals dvs ds)(hx:Vn CX X E)(ha:PA X (e :: es) t)
  (hst:starEach (e :: es) X.env=(false,eval e X.env) :: starEach es X.env:=by rfl) (hpl:(backTo pos (starEach es X.env)).any (·.1)=false:=by rfl)
  (ht:eval (.Call (.Attribute o m apos) (e :: es) [] pos) X.env=(do
   let ov <- eval o X.env
   standAt apos.atName
   let (f,first) <- holding [ov] (getMethod ov m pl)
   callWith pos f first (backTo pos (starEach (e :: es) X.env)) (backToKw pos (keywordEach [] X.env))):=by rfl) :
  PE X (.Call (.Attribute o m apos) (e :: es) [] pos) (zap C m sp dvs E ta t):=by
 intro pins s σ H Q I h;refine PySem.W.methodCall_KW (pl:=pl) (thn (he pins s σ H _ I h) fun u s1 ⟨x,H1,I1,rx,a,dx,fs,ex,ea,l,q⟩=>?_) ht;subst ex;obtain rfl:u=Value.ref a:=rx;refine Jt I1 ea c hm l ?_;refine PySem.W.callWith_K (first:=[.ref a]) (h₀:=X.base) I.ok.mod.kin hm.kp (thn (ha pos pins s1 σ H1 _ I1 q) fun us s2 ⟨vs,H2,I2,r,q2⟩=>⟨I2.kIn,?_⟩) hst hpl;exact Ak (us:=.ref a :: us) (vs:=.ref a :: vs) F hr hb hd hx I2 (.cons rfl r) q2
theorem zdn(he:PE X o ta)(c:Cls X.K C)(hm:zdl X.K C m f)(F:FnOk X.prog X.w X.K X.mg X.base CX k f fd ps sp)(hr:Vf k X.A)(hb:Rn X.K fd ps ds)(hd:Vals dvs ds)(hx:Vn CX X E)
  (ht:eval (.Call (.Attribute o m apos) [] [] pos) X.env=(do
   let ov <- eval o X.env
   standAt apos.atName
   let (f,first) <- holding [ov] (getMethod ov m pl)
   callWith pos f first (backTo pos (starEach [] X.env)) (backToKw pos (keywordEach [] X.env))):=by rfl) :
  PE X (.Call (.Attribute o m apos) [] [] pos) (zap C m sp dvs E ta tNil):=by
 intro pins s σ H Q I h;refine PySem.W.methodCall_KW (pl:=pl) (thn (he pins s σ H _ I h) fun u s1 ⟨x,H1,I1,rx,a,dx,fs,ex,ea,l,q⟩=>?_) ht;subst ex;obtain rfl:u=Value.ref a:=rx;refine Jt I1 ea c hm l ?_;exact PySem.W.callWith_K0 (first:=[.ref a]) I1.kIn hm.kp (Ak (us:=[.ref a]) (vs:=[.ref a]) F hr hb hd hx I1 (.cons rfl .nil) q)
structure Mk(K:Frag)(C f:Addr):Prop where
 makes:PySem.W.makesIn K C=true
 init:PySem.W.findIn K (.ref C) "__init__"=some (some (.ref f))
 fn:PySem.W.isFn K (.ref f)=true
 kp:PySem.W.keepIn K (.ref C)=true
theorem Cc(M:Mk X.K C f)(F:FnOk X.prog X.w X.K X.mg X.base CX k f fd ps sp)(hr:Vf (k+1) X.A)(hb:Rn X.K fd ps ds)(hd:Vals dvs ds)
  (hx:Vn CX X E) (I:Inv X pins σ H s) (r:Vals vs us)
  (h:∀ x dx,H x=none->H dx=none->dx≠x->sp (.ref x :: (vs++dvs)) (upd (upd H dx (.own x)) x (.ins C dx [])) (fun v H2=>v=.non/\Q (.ref x) H2) E) :
  wpAny (model X.prog X.w) X.A (call (.ref C) us) (EP X pins σ Q) X.xe s:=by
 have hq:=h (s.heap.objs.size+1) s.heap.objs.size (I.hok.fresh (Nat.le_succ _)) (I.hok.fresh (ztc _)) (zts (zvc _));have I2:=Inv.made (C:=C) I;have r2:Vals (V.ref (s.heap.objs.size+1) :: (vs++dvs)) (Value.ref (s.heap.objs.size+1) :: (us++ds)):=.cons rfl (r.append hd);have hl:(Value.ref (s.heap.objs.size+1) :: us++ds).length=ps.length:=by
  have e:=r2.length;rw[F.len _ _ _ _ hq] at e;exact e.symm
 refine wpAny_call (zdk (f:=f) I.kIn M.makes M.init (beq_iff_eq.mp M.fn) (codeAny_mono (F.run _ X.stack _ _ ⟨Value.ref (s.heap.objs.size+1) :: us,[]⟩ (Value.ref (s.heap.objs.size+1) :: (us++ds)) _ _ E (hr.make C us [])
  (I2.env0.make C us []) (hb _ (Value.ref (s.heap.objs.size+1) :: us) I2.kIn hl) r2 hq) fun r s' hq'=>?_))
 cases r with
 | error e=>exact hx pins σ _ _ e s' I2 hq'
 | ok fl =>
   cases fl with
   | ret u =>
     obtain⟨v,H',I3,rv,ev,q3⟩:=I2.after hq';subst ev;exact⟨rv,⟨V.ref (s.heap.objs.size+1),H',I3,rfl,q3⟩⟩
   | next=>exact False.elim hq'
   | brk=>exact False.elim hq'
   | cont=>exact False.elim hq'
theorem zfk(M:Mk X.K C f)(F:FnOk X.prog X.w X.K X.mg X.base CX k f fd ps sp)(hr:Vf (k+1) X.A)(hg:Gl X x)(hm:X.mg x=some (.ref C))(hb:Rn X.K fd ps ds)(hd:Vals dvs ds)(hx:Vn CX X E)
  (ha:PA X (e :: es) t) (hdb:(x == ("__debug__":Str))=false:=by decide) (he:starEach (e :: es) X.env=(false,eval e X.env) :: starEach es X.env:=by rfl) (hpl:(backTo pos (starEach es X.env)).any (·.1)=false:=by rfl) :
  PE X (.Call (.Name x p) (e :: es) [] pos) (zaq C sp dvs E t):=by
 intro pins s σ H Q I h;refine wpAny_Call_Name_kw (N6 I hg hm ?_ hdb);refine PySem.W.callWith_K (h₀:=X.base) I.ok.mod.kin M.kp (thn (ha pos pins s σ H _ I h) fun us s1 ⟨vs,H1,I1,r,q⟩=>⟨I1.kIn,?_⟩) he hpl;exact Cc M F hr hb hd hx I1 r q
theorem zdo(M:Mk X.K C f)(F:FnOk X.prog X.w X.K X.mg X.base CX k f fd ps sp)(hr:Vf (k+1) X.A)(hg:Gl X x)(hm:X.mg x=some (.ref C))(hb:Rn X.K fd ps ds)(hd:Vals dvs ds)(hx:Vn CX X E)
  (hdb:(x == ("__debug__":Str))=false:=by decide):PE X (.Call (.Name x p) [] [] pos) (zaq C sp dvs E tNil):=by
 intro pins s σ H Q I h;refine wpAny_Call_Name_kw (N6 I hg hm ?_ hdb);exact PySem.W.callWith_K0 I.kIn M.kp (Cc (us:=[]) M F hr hb hd hx I .nil h)
end
def PK(X:Cx)(kws:List Keyword)(t:TA):Prop :=
 ∀ (pos:Pos) (pins:List (Addr×Obj)) (s:Shared) (σ:St) (H:Hp) (Q:List V->Hp->Prop),Inv X pins σ H s->t σ H Q->wpAny (model X.prog X.w) X.A (evalAll ((backToKw pos (keywordEach kws X.env)).map (·.2))) (AP X pins σ Q) X.xe s
section
variable{X:Cx}{CX:CXT}{k:Nat}{f C:Addr}{fd:FuncData}{ps ks:List Str}{sp:Sp}{E:XK}{x m:Str}{p pos apos kpos:Pos}{e o:Expr}{es:List Expr}{kws:List Keyword}{te ta:TE}{t tk:TA}{nm:Option Str}
theorem zha:PK X [] tNil:=fun _ _ _ _ H Q I h=>wpAny_evalAll_nil ⟨[],H,I,.nil,h⟩
theorem zfl(ha:PE X e te)(hr:PK X kws t):PK X (⟨nm,e,kpos⟩ :: kws) (zao te t):=by
 intro pos pins s σ H Q I h;show wpAny _ _ (evalAll ((do let v <- eval e X.env;standAt pos;pure v) :: (backToKw pos (keywordEach kws X.env)).map (·.2))) _ _ s;refine wpAny_evalAll_cons (wpAny_bind (thn (ha pins s σ H _ I h) fun u s1 ⟨x,H1,I1,r1,q1⟩=>wpAny_bind (wpAny_standAt (wpAny_pure ?_))));exact thn (hr pos pins s1 σ H1 _ I1 q1) fun us s2 ⟨xs,H2,I2,r2,q2⟩=>⟨x :: xs,H2,I2,.cons r1 r2,q2⟩
structure zkc(K:Frag)(fd:FuncData)(ps ks:List Str)(g:List Value->List Value->List Value)(gV:List V->List V->List V):Prop where
 to:∀ (s:Shared) (us ws:List Value),K.In s.heap->(g us ws).length=ps.length->BindsTo s fd ⟨us,ks.zip ws⟩ (ps.zip (g us ws))
 rel:∀ {vs:List V} {us:List Value} {zs:List V} {ws:List Value},Vals vs us->Vals zs ws->Vals (gV vs zs) (g us ws)
variable{g:List Value->List Value->List Value}{gV:List V->List V->List V}
end
structure Zk(N P:List Str)(sc:Scope):Prop where
 kind:sc.kind=.function
 co:sc.isCoroutine=false
 gen:sc.isGenerator=false
 nd:N.Nodup
 pre:N.take P.length=P
 par:∀ x∈P,sc.names.lookup x=some .local\/sc.names.lookup x=some .cell
 nofree:∀ y∈sc.names,y.2≠.free
theorem Fe{kindOf:Str->Option NameKind}{x:Str}:∀ {binds:List (Str×Value)} {m:Str->Option Value},(∀ v,(x,v)∉binds)->bindL kindOf binds m x=m x
 | [],_,_=>rfl
 | (n,v) :: r,m,h=>by
   unfold bindL;rw[Fe fun w hw=>h w (ztx _ hw)];split
   ·have:x≠n:=by rintro rfl;exact h v ztz
    simp[this]
   ·rfl
theorem Ff{kindOf:Str->Option NameKind}{x:Str}:∀ {binds:List (Str×Value)} {m:Str->Option Value},(∀ v,(x,v)∉binds)->bindC kindOf binds m x=m x
 | [],_,_=>rfl
 | (n,v) :: r,m,h=>by
   unfold bindC;rw[Ff fun w hw=>h w (ztx _ hw)];split
   ·rfl
   ·have:x≠n:=by rintro rfl;exact h v ztz
    simp[this]
theorem Fg{kindOf:Str->Option NameKind}{x:Str}{v:Value}:∀ {P:List Str} {vs:List Value} {i:Nat} {m:Str->Option Value},P.Nodup->P[i]?=some x->vs[i]?=some v->kindOf x=some .local ->
  bindL kindOf (P.zip vs) m x=some v
 | [],_,_,_,_,h,_,_=>by simp at h
 | _ :: _,[],_,_,_,_,h,_=>by simp at h
 | p :: P,w :: vs,0,m,nd,h1,h2,hk=>by
   simp at h1 h2;subst h1;subst h2;show bindL kindOf ((p,w) :: P.zip vs) m p=_;unfold bindL;rw[Fe fun v hv=>(zt0.mp nd).1 (List.of_mem_zip hv).1,if_pos hk];simp
 | p :: P,w :: vs,i+1,m,nd,h1,h2,hk=>by
   show bindL kindOf ((p,w) :: P.zip vs) m x=_;unfold bindL;exact Fg (i:=i) (zt0.mp nd).2 (by simpa using h1) (by simpa using h2) hk
theorem Fh{kindOf:Str->Option NameKind}{x:Str}{v:Value}:∀ {P:List Str} {vs:List Value} {i:Nat} {m:Str->Option Value},P.Nodup->P[i]?=some x->vs[i]?=some v->kindOf x≠some .local ->
  bindC kindOf (P.zip vs) m x=some v
 | [],_,_,_,_,h,_,_=>by simp at h
 | _ :: _,[],_,_,_,_,h,_=>by simp at h
 | p :: P,w :: vs,0,m,nd,h1,h2,hk=>by
   simp at h1 h2;subst h1;subst h2;show bindC kindOf ((p,w) :: P.zip vs) m p=_;unfold bindC;rw[Ff fun v hv=>(zt0.mp nd).1 (List.of_mem_zip hv).1,if_neg hk];simp
 | p :: P,w :: vs,i+1,m,nd,h1,h2,hk=>by
   show bindC kindOf ((p,w) :: P.zip vs) m x=_;unfold bindC;exact Fh (i:=i) (zt0.mp nd).2 (by simpa using h1) (by simpa using h2) hk
def Kg(N:List Str)(vs:List V):St:=vs.map some++List.replicate (N.length-vs.length) none
def cxOf(CX:CXT)(P:Program)(w:World)(K:Frag)(mg:Str->Option Value)(base:Heap)(N:List Str)(qual:Str)(scope:Scope)(f:Addr)(cd:Value)(A:Around)(outer:List Env)(s:Shared)(H:Hp)(E:XK):Cx where
 prog:=P
 w:=w
 K:=K
 mg:=mg
 base:=base
 A:=A.deeper (envOfC qual scope s.heap.objs.size f cd)
 N:=N
 s₀:=s
 H₀:=H
 env:=envOfC qual scope s.heap.objs.size f cd
 outer:=outer
 stack:=envOfC qual scope s.heap.objs.size f cd :: outer
 ex:=[]
 calm:=true
 fn:=fun _=>true
 pn:=[]
 xe:=fun e s'=>wpAny (model P w) (A.deeper (envOfC qual scope s.heap.objs.size f cd)) (leaving (envOfC qual scope s.heap.objs.size f cd) e) (fun _ s''=>CX outer H s E e s'') (fun e' s''=>CX outer H s E e' s'') s'
theorem Cd{sc:Scope}{n:Nat}{x:Str}(h:sc.names.lookup x=some .cell):∃ c,(cellsFrom n sc.names []).lookup x=some c:=by
 have q:=PySem.W.cellsFrom_some sc.names n [] (.inl h);exact zuw.mp q
theorem zb3{CX:CXT}{P:Program}{w:World}{K:Frag}{mg:Str->Option Value}{base:Heap}{N ps:List Str}{qual:Str}{scope:Scope}{f:Addr}{cd:Value}{A:Around}{outer:List Env}{s s1:Shared}{H:Hp}{E:XK}{us:List Value}{vs:List V}
  (S:Zk N ps scope) (hd:A.handled=none) (e0:Kr P w K mg base A outer s H) (hl:vs.length=ps.length) (r:Vals vs us)
  (x:InCallC s s.heap.objs.size (bindL (envOfC qual scope s.heap.objs.size f cd).kindOf (ps.zip us) fun _=>none) (cellsFrom (s.heap.objs.size+1) scope.names []) (bindC (envOfC qual scope s.heap.objs.size f cd).kindOf (ps.zip us) fun _=>none) s1) :
  Inv (cxOf CX P w K mg base N qual scope f cd A outer s H E) [] (Kg N vs) H s1:=by
 have hpl:ps.length<=N.length:=by have:=congrArg List.length S.pre;rw[zur] at this;omega
 obtain⟨h1,tk,rfl,hk⟩:=x.done;have noA:∀ b:Addr,b∉(cxOf CX P w K mg base N qual scope f cd A outer s H E).ex:=fun b z=>absurd (show b∈([]:List Addr) from z) (by simp);refine⟨⟨e0.mod,S.kind,rfl,rfl,ztc _,fun y z c h1 h2=>?_,fun y hy=>?_,fun y c _ h=>?_,fun _=>hd,Around.frames_deeper e0.frames,.inr ⟨rfl,rfl⟩,fun b z=>absurd z (noA b),e0.bs,e0.bsz,fun b _ _=>noA b,fun b z=>absurd z (noA b),e0.funs,e0.frf⟩,
  rfl,e0.bare,Un.kept hk,⟨_,x.toInCall.ns,fun i y v h1 h2 h3=>?_⟩,fun y c h=>⟨_,x.cell y c h⟩,e0.hok.fresh (ztc _),fun y c h=>?_,fun p hp=>absurd (show p∈([]:List (Addr×Obj)) from hp) (by simp),e0.hok.kept hk,?_⟩
 ·exact name_of_addr x.apart (PySem.mem_of_lookup h1) (PySem.mem_of_lookup h2)
 ·have hy:scope.names.lookup y=some .cell\/scope.names.lookup y=some .free:=hy;rcases hy with hy|hy
  ·exact Cd hy
  ·exact absurd rfl (S.nofree _ (PySem.mem_of_lookup hy))
 ·exact zvg (x.above y c (PySem.mem_of_lookup h))
 ·have h2:=h2.resolve_right (X4 _);have hi:i<vs.length:=by
   unfold Kg at h2;by_cases hi:i<vs.length
   ·exact hi
   ·rw[zt4 (by simpa using hi)] at h2;rw[List.getElem?_replicate] at h2;split at h2<;>cases h2
  have ha:vs[i]?=some v:=by
   unfold Kg at h2;rw[zt7 (by simpa using hi),zs7] at h2;cases e:vs[i]? with
   | none=>rw[e] at h2;cases h2
   | some a=>rw[e] at h2;cases h2;rfl
  obtain⟨u,hu,rv⟩:=r.get ha;have hp:ps[i]?=some y:=by
   rw[<- S.pre,List.getElem?_take_of_lt ⋯];exact h1
  have ndP:ps.Nodup:=by rw[<- S.pre];exact S.nd.sublist (List.take_sublist _ _)
  refine⟨u,rv,?_⟩;rcases S.par y (ztb hp) with k|k
  ·exact .inl ⟨k,Fg ndP hp hu k⟩
  ·obtain⟨c,e⟩:=Cd (n:=s.heap.objs.size+1) k;refine .inr ⟨.inl k,c,e,?_⟩;have q:=x.cell y c e;rw[Fh ndP hp hu (by show scope.names.lookup y≠_;rw[k];decide)] at q;exact q
 ·exact e0.hok.fresh (zvg (x.above y c (PySem.mem_of_lookup h)))
 ·unfold Kg;show _=N.length;rw[zs8,zs4,List.length_replicate];omega
theorem zi0{CX:CXT}{P:Program}{w:World}{K:Frag}{mg:Str->Option Value}{base:Heap}{k:Nat}{f:Addr}{name qual:Str}{params:Arguments}{body:List Stmt}{scope:Scope}{dV kV doc pm cdv ct oc:Value}{an od:Option Addr}
  {osl:Array (Option Value)} {N ps:List Str} {sp:Sp} (lk:K.lookup f=some ⟨oc,od,.func (PySem.W.fnOf name qual params body scope dV kV doc pm an cdv ct),osl⟩) (hcd:PySem.W.codeIn K cdv qual=true) (S:Zk N ps scope)
  (len:∀ vs H Q E,sp vs H Q E->vs.length=ps.length)
  (hbody:∀ (A:Around) (outer:List Env) (s:Shared) (H:Hp) (vs:List V) (Q:VK) (E:XK),Vf k (A.deeper (envOfC qual scope s.heap.objs.size f cdv))->sp vs H Q E ->
   ∃ t,PSs (cxOf CX P w K mg base N qual scope f cdv A outer s H E) body t/\t { nx:=fun _ H'=>Q .non H',rt:=Q } (Kg N vs) H) :
  FnOk P w K mg base CX (k+1) f (PySem.W.fnOf name qual params body scope dV kV doc pm an cdv ct) ps sp:=by
 refine⟨len,fun A outer s H args us vs Q E hr e0 hb r hsp=>?_⟩;have hl:=len _ _ _ _ hsp;have KX:K.In s.heap:=e0.mod.kin.keeps fun b o e=>(e0.bs b o e).1;have lim:s.heap.NoLimit:=e0.mod.nolimit.keeps fun b o e=>(e0.bs b o e).1;have hkind:∀ y∈ps.zip us,scope.names.lookup y.1=some .local\/(scope.names.lookup y.1=some .cell/\((cellsFrom (s.heap.objs.size+1) scope.names []).lookup y.1).isSome=true):=fun ⟨n,v⟩ hy=>by
  rcases S.par n (List.of_mem_zip hy).1 with q|q
  ·exact .inl q
  ·exact .inr ⟨q,PySem.W.cellsFrom_some _ _ _ (.inl q)⟩
 refine codeAny_call_function hr.depth (KX _ _ lk) rfl S.co S.gen rfl (PySem.W.codeRec_of KX hcd) (hb _ _ _ _ ?_);refine wpAny_newFunctionEnv_cells S.kind hkind fun env he s1 x=>?_;subst he;refine⟨lim.keeps x.toInCall.keep,codeAny_func ?_⟩;obtain⟨t,ht,hq⟩:=hbody A outer s H vs Q E (hr.deeper _) hsp;have I:Inv (cxOf CX P w K mg base N qual scope f cdv A outer s H E) [] (Kg N vs) H s1:=zb3 S hr.hd e0 hl r x;refine wpAny_mono (ht [] s1 (Kg N vs) H _ I hq) (fun fl s' hs=>?_) fun e s' hs=>hs;have fin:∀ {σ':St} {H':Hp} {v:V} {u:Value},Inv (cxOf CX P w K mg base N qual scope f cdv A outer s H E) [] σ' H' s'->RelV v u->Q v H'->CE outer P w H s Q u s' :=
  fun {σ' H' v u} J rv q=>⟨v,H',J.os,J.bare,J.base,J.hok,rv,q⟩
 cases fl with
 | ret u =>
   obtain⟨v,σ',H',J,rv,q⟩:=hs;exact fin J rv q
 | next =>
   obtain⟨σ',H',J,q⟩:=hs;exact fin (v:=V.non) (u:=Value.none) J rfl q
 | brk =>
   obtain⟨_,_,_,q⟩:=hs;exact False.elim q
 | cont =>
   obtain⟨_,_,_,q⟩:=hs;exact False.elim q
section
variable{X:Cx}{x:Str}{p pos:Pos}{e:Expr}{es:List Expr}{t:TA}{id T:String}{r:List V->Hp->VK->Prop}
def tCB(r:List V->Hp->VK->Prop)(t:TA):TE:=fun σ H Q=>t σ H fun vs H1=>r vs H1 Q
theorem Zm(hc:Vy X (.builtin id) r)(hg:Gl X x)(hm:X.mg x=none)(hv:bootBuiltins x=some (.builtin id))(ha:PA X (e :: es) t)(hn:x≠"__name__":=by decide)(hdb:(x == ("__debug__":Str))=false:=by decide)
  (he:starEach (e :: es) X.env=(false,eval e X.env) :: starEach es X.env:=by rfl) (hpl:(backTo pos (starEach es X.env)).any (·.1)=false:=by rfl):PE X (.Call (.Name x p) (e :: es) [] pos) (tCB r t):=by
 intro pins s σ H Q I h;refine wpAny_Call_Name_kw (Pe I hg hm hv ?_ hn hdb);exact PyProof.Rows.callWith_builtin1 (thn (ha pos pins s σ H _ I h) fun us s1 ⟨vs,H1,I1,r1,q1⟩=>hc pins s1 σ H1 vs us Q I1 r1 q1) he hpl
theorem Xo(hc:Vy X (.type T) r)(hg:Gl X x)(hm:X.mg x=none)(hv:bootBuiltins x=some (.type T))(ha:PA X (e :: es) t)(hn:x≠"__name__":=by decide)(hdb:(x == ("__debug__":Str))=false:=by decide)
  (he:starEach (e :: es) X.env=(false,eval e X.env) :: starEach es X.env:=by rfl) (hpl:(backTo pos (starEach es X.env)).any (·.1)=false:=by rfl):PE X (.Call (.Name x p) (e :: es) [] pos) (tCB r t):=by
 intro pins s σ H Q I h;refine wpAny_Call_Name_kw (Pe I hg hm hv ?_ hn hdb);exact PyProof.Rows.callWith_type1 (thn (ha pos pins s σ H _ I h) fun us s1 ⟨vs,H1,I1,r1,q1⟩=>hc pins s1 σ H1 vs us Q I1 r1 q1) he hpl
end
section
variable{κ:Type}[DecidableEq κ]
def valV(kvs:List (κ×V))(k:κ):Option V:=(kvs.find? fun kv=>decide (kv.1=k)).map (·.2)
def putK(kvs:List (κ×V))(k:κ)(v:V):List (κ×V) :=
 if (kvs.any fun kv=>decide (kv.1=k))=true then kvs.map (fun kv=>if kv.1=k then (kv.1,v) else kv) else kvs++[(k,v)]
def X5(kvs:List (κ×V))(k:κ):List (κ×V):=kvs.filter fun kv=>decide (kv.1≠k)
theorem zi1:valV ([]:List (κ×V)) k=none:=rfl
theorem Xa{p:κ×V}{r:List (κ×V)}{k:κ}(e:p.1=k):valV (p :: r) k=some p.2:=by simp[valV,zu9,e]
theorem Yy{p:κ×V}{r:List (κ×V)}{k:κ}(e:¬ p.1=k):valV (p :: r) k=valV r k:=by simp[valV,zu9,e]
theorem Ro(k:κ):∀ kvs:List (κ×V),(kvs.any fun kv=>decide (kv.1=k))=(valV kvs k).isSome
 | []=>rfl
 | p :: r=>by
   rw[zvd];by_cases e:p.1=k
   ·simp only[Xa e,zta e,Bool.true_or,Option.isSome_some]
   ·rw[Yy e,ztd e,Bool.false_or];exact Ro k r
theorem Ce(k j:κ)(y:V):∀ kvs:List (κ×V),valV (kvs.map fun kv=>if kv.1=k then (kv.1,y) else kv) j=(valV kvs j).map fun x=>if j=k then y else x
 | []=>rfl
 | p :: r=>by
   have ih:=Ce k j y r;rw[ztm];by_cases h:p.1=k
   ·rw[if_pos h];by_cases e:p.1=j
    ·rw[Xa (p:=(p.1,y)) e,Xa e,zua,if_pos (e.symm.trans h)]
    ·rw[Yy (p:=(p.1,y)) e,Yy e,ih]
   ·rw[if_neg h];by_cases e:p.1=j
    ·rw[Xa (p:=p) e,Xa e,zua,if_neg (fun z=>h (e.trans z))]
    ·rw[Yy (p:=p) e,Yy e,ih]
theorem Fi(k j:κ)(y:V):∀ kvs:List (κ×V),valV kvs k=none->valV (kvs++[(k,y)]) j=if j=k then some y else valV kvs j
 | [],_=>by
   by_cases e:k=j
   ·rw[if_pos e.symm];exact Xa (p:=(k,y)) e
   ·rw[if_neg (fun z=>e z.symm)];exact Yy (p:=(k,y)) e
 | p :: r,hn=>by
   rw[List.cons_append];have hk:¬ p.1=k:=fun z=>by rw[Xa z] at hn;cases hn
   rw[Yy hk] at hn;have ih:=Fi k j y r hn;by_cases e:p.1=j
   ·rw[Xa e,Xa e,if_neg (fun z=>hk (e.trans z))]
   ·rw[Yy e,Yy e,ih]
theorem U3(kvs:List (κ×V))(k j:κ)(y:V):valV (putK kvs k y) j=if j=k then some y else valV kvs j:=by
 unfold putK;by_cases a:(kvs.any fun kv=>decide (kv.1=k))=true
 ·rw[if_pos a,Ce];rw[Ro] at a;by_cases e:j=k
  ·obtain⟨x,hx⟩:=zuw.mp a;rw[if_pos e,e,hx,zua,if_pos rfl]
  ·rw[if_neg e];cases valV kvs j with
   | none=>rfl
   | some x=>rw[zua,if_neg e]
 ·rw[if_neg a];refine Fi k j y kvs ?_;rw[Ro] at a;cases q:valV kvs k with
  | none=>rfl
  | some x=>rw[q] at a;exact(a rfl).elim
theorem Xr(kvs:List (κ×V))(k:κ)(v:V):(putK kvs k v).length<=kvs.length+1:=by
 unfold putK;split
 ·rw[zs4];omega
 ·rw[zs8,ztt,List.length_nil];omega
theorem Cf{kvs:List (κ×V)}{k:κ}(v:V)(h:valV kvs k=none):putK kvs k v=kvs++[(k,v)]:=by
 unfold putK;rw[Ro,h];exact if_neg ⋯
theorem RelO.isSome_eq(r:RelO o u):o.isSome=u.isSome:=by
 cases o with
 | none=>cases u with
   | none=>rfl
   | some _=>exact(show False from r).elim
 | some _=>cases u with
   | none=>exact(show False from r).elim
   | some _=>rfl
theorem RelO.getD(r:RelO o u)(rd:RelV d d'):RelV (o.getD d) (u.getD d'):=by
 cases o with
 | none=>cases u with
   | none=>exact rd
   | some _=>exact(show False from r).elim
 | some _=>cases u with
   | none=>exact(show False from r).elim
   | some _=>exact r
theorem KV.val{kvs:List (κ×V)}{vs:List (κ×Value)}(r:KV kvs vs)(k:κ):RelO (valV kvs k) (valueAt vs k):=by
 unfold KV at r
 induction r with
 | nil=>exact True.intro
 | @cons p q ps qs h t ih =>
   obtain⟨h1,h2⟩:=h;by_cases e:p.1=k
   ·have e':q.1=k:=h1.symm.trans e;have b:valueAt (q :: qs) k=some q.2:=by simp[valueAt,zu9,e']
    rw[Xa e,b];exact h2
   ·have e':¬ q.1=k:=fun z=>e (h1.trans z);have b:valueAt (q :: qs) k=valueAt qs k:=by simp[valueAt,zu9,e']
    rw[Yy e,b];exact ih
theorem KV.any(r:KV kvs vs)(k:κ):(kvs.any fun kv=>decide (kv.1=k))=vs.any fun kv=>decide (kv.1=k):=by
 unfold KV at r
 induction r with
 | nil=>rfl
 | cons h t ih=>rw[zvd,zvd,ih,h.1]
theorem KV.repl(r:KV kvs vs)(k:κ)(ry:RelV y u) :
  KV (kvs.map fun kv=>if kv.1=k then (kv.1,y) else kv) (vs.map fun kv=>if kv.1=k then (kv.1,u) else kv):=by
 unfold KV at r ⊢
 induction r with
 | nil=>exact .nil
 | @cons p q ps qs h t ih =>
   rw[ztm,ztm];refine .cons ?_ ih;obtain⟨h1,h2⟩:=h;by_cases e:p.1=k
   ·rw[if_pos e,if_pos (h1.symm.trans e)];exact⟨h1,ry⟩
   ·rw[if_neg e,if_neg (fun z=>e (h1.trans z))];exact⟨h1,h2⟩
theorem KV.put(r:KV kvs vs)(k:κ)(ry:RelV y u):KV (putK kvs k y) (stored vs k u):=by
 unfold putK stored;rw[r.any k];by_cases e:(vs.any fun kv=>decide (kv.1=k))=true
 ·rw[if_pos e,if_pos e];exact r.repl k ry
 ·rw[if_neg e,if_neg e];exact Paired.snoc r ⟨rfl,ry⟩
theorem KV.drop(r:KV kvs vs)(k:κ):KV (X5 kvs k) (without vs k):=by
 unfold KV at r ⊢;unfold X5 without
 induction r with
 | nil=>exact .nil
 | @cons p q ps qs h t ih =>
   obtain⟨h1,h2⟩:=h;rw[zt8,zt8];by_cases e:p.1=k
   ·have a:¬ decide (p.1≠k)=true:=by simp[e]
    have b:¬ decide (q.1≠k)=true:=by simp[h1.symm.trans e]
    rw[if_neg a,if_neg b];exact ih
   ·have e':¬ q.1=k:=fun z=>e (h1.trans z);have a:decide (p.1≠k)=true:=by simp[e]
    have b:decide (q.1≠k)=true:=by simp[e']
    rw[if_pos a,if_pos b];exact .cons ⟨h1,h2⟩ ih
theorem KV.keys{kvs:List (κ×V)}{vs:List (κ×Value)}(r:KV kvs vs):kvs.map (·.1)=vs.map (·.1):=by
 unfold KV at r
 induction r with
 | nil=>rfl
 | cons h t ih=>rw[ztm,ztm,ih,h.1]
theorem KV.length(r:KV kvs vs):kvs.length=vs.length:=Paired.length r
theorem Cg(kvs:List (κ×V))(k:κ):(X5 kvs k).length<=kvs.length:=zub _ _
end
theorem Kh(r:RelV (kV k) u):(Yi P w).is k u=true:=by
 cases k with
 | inl i=>obtain⟨t,e⟩:=(show ∃ t,u=Value.int i t from r);subst e;exact D5 P w i t
 | inr x=>obtain⟨t,e⟩:=(show ∃ t,u=Value.str x t from r);subst e;exact D6 P w x t
theorem Fj:∀ {ks:List Key} {us:List Value},Vals (ks.map kV) us->ItemsAre (Yi P w) ks us
 | [],_,r=>by rw[List.map_nil] at r;cases r;exact .nil
 | k :: ks,_,r=>by
   rw[ztm] at r;cases r with
   | cons h t=>exact .cons (Kh h) (Fj t)
abbrev KT(H:Hp):List (List Key×V)->List (List Key×Addr×Value)->Prop:=Paired fun p q=>p.1=q.1/\H q.2.1=some (.tup (p.1.map kV))/\RelV p.2 q.2.2
theorem KT.val{H:Hp}{kvs:List (List Key×V)}{xs:List (List Key×Addr×Value)}(r:KT H kvs xs)(k:List Key):RelO (valV kvs k) ((atKey xs k).map (·.2)):=by
 induction r with
 | nil=>exact True.intro
 | @cons p q ps qs h t ih =>
   obtain⟨h1,_,h2⟩:=h;by_cases e:p.1=k
   ·have e':q.1=k:=h1.symm.trans e;have b:atKey (q :: qs) k=some q.2:=by simp[atKey,zu9,e']
    rw[Xa e,b];exact h2
   ·have e':¬ q.1=k:=fun z=>e (h1.trans z);have b:atKey (q :: qs) k=atKey qs k:=by simp[atKey,zu9,e']
    rw[Yy e,b];exact ih
theorem KT.repl(r:KT H kvs xs)(k:List Key)(ry:RelV y u) :
  KT H (kvs.map fun kv=>if kv.1=k then (kv.1,y) else kv) (xs.map (putAt k u)):=by
 induction r with
 | nil=>exact .nil
 | @cons p q ps qs h t ih =>
   rw[ztm,ztm];refine .cons ?_ ih;obtain⟨h1,h2,h3⟩:=h;unfold putAt;by_cases e:p.1=k
   ·rw[if_pos e,if_pos (h1.symm.trans e)];exact⟨h1,h2,ry⟩
   ·rw[if_neg e,if_neg (fun z=>e (h1.trans z))];exact⟨h1,h2,h3⟩
theorem KT.put(r:KT H kvs xs)(k:List Key)(hb:H b=some (.tup (k.map kV)))(ry:RelV y u) :
  KT H (putK kvs k y) (storedH xs k b u):=by
 have e:(kvs.any fun kv=>decide (kv.1=k))=(atKey xs k).isSome:=by
  rw[Ro,(r.val k).isSome_eq,Option.isSome_map]
 unfold putK storedH;rw[e];by_cases q:(atKey xs k).isSome=true
 ·rw[if_pos q,if_pos q];exact r.repl k ry
 ·rw[if_neg q,if_neg q];exact Paired.snoc r ⟨rfl,hb,ry⟩
theorem KT.keeps(r:KT H kvs xs)(ht:∀ b ys,H b=some (.tup ys)->H' b=some (.tup ys)):KT H' kvs xs :=
 Paired.mapP r fun _ _ z=>⟨z.1,ht _ _ z.2.1,z.2.2⟩
section
variable{P:Program}{w:World}{H:Hp}{h:Heap}{a:Addr}
theorem zgi(ok:HOk P w H h)(e:Rd H a u):Yw P w H h a u:=e.ok ok
theorem Ph(ok:HOk P w H h)(e:Rd H a (.dK kvs)):kvs.length<=sizeLine/\(a == sysModules)=false/\∃ vs,KV kvs vs/\h.DictOf (Yi P w) a vs :=
 show Yw P w H h a (.dK kvs) from zgi ok e
theorem Ci(ok:HOk P w H h)(e:H a=some (.dK kvs)):kvs.length<=sizeLine/\(a == sysModules)=false/\∃ vs,KV kvs vs/\h.DictOf (Yi P w) a vs:=Ph ok (.inl e)
theorem O8(ok:HOk P w H h)(e:H a=some (.tup (ks.map kV))):(tupleKind (Yi P w)).is h ks a:=by
 obtain⟨_,its,r,o,h1,h2,n,h3⟩:=(show Yw P w H h a (.tup (ks.map kV)) from ok a _ e);exact⟨o,its.toArray,n,h1,h2,h3,by simpa using Fj r⟩
theorem Ju(ok:HOk P w H h)(e:Rd H a (.dT kvs)):kvs.length<=sizeLine/\(a == sysModules)=false /\
  ∃ xs,KT H kvs xs/\h.DictOfH (tupleKind (Yi P w)) a xs:=by
 obtain⟨z,y,xs,r,o,es,ep,h1,h2,h3,h4,h5⟩:=(show Yw P w H h a (.dT kvs) from zgi ok e);refine⟨z,y,xs,r,o,es,ep,h1,h2,h3,h4,fun x hx=>?_,h5⟩;have all:∀ {l:List (List Key×V)} {m:List (List Key×Addr×Value)},KT H l m->∀ x∈m,(tupleKind (Yi P w)).is h x.1 x.2.1:=by
  intro l m q
  induction q with
  | nil=>intro x hx;exact nomatch hx
  | @cons p q ps qs hq t ih =>
    intro x hx;rcases ztf.mp hx with e|hx
    ·subst e;exact O8 ok (by rw[<- hq.1];exact hq.2.1)
    ·exact ih x hx
 exact all r x hx
theorem zgj(ok:HOk P w H h)(e:H a=some (.dT kvs)):kvs.length<=sizeLine/\(a == sysModules)=false /\
  ∃ xs,KT H kvs xs/\h.DictOfH (tupleKind (Yi P w)) a xs:=Ju ok (.inl e)
end
def DGet(H:Hp)(a:Addr)(y:V)(r:Option V):Prop :=
 (∃ kvs k,Rd H a (.dK kvs)/\y=kV k/\r=valV kvs k)\/∃ kvs k b,Rd H a (.dT kvs)/\y=.ref b/\H b=some (.tup (k.map kV))/\r=valV kvs k
def DPut(H:Hp)(a:Addr)(y v:V)(H':Hp):Prop :=
 (∃ kvs k,H a=some (.dK kvs)/\y=kV k/\kvs.length<sizeLine/\H'=upd H a (.dK (putK kvs k v))) \/
 ∃ kvs k b,H a=some (.dT kvs)/\y=.ref b/\H b=some (.tup (k.map kV))/\kvs.length<sizeLine/\H'=upd H a (.dT (putK kvs k v))
theorem DGet.k{H:Hp}{a:Addr}{kvs:List (Key×V)}{k:Key}(e:H a=some (.dK kvs)):DGet H a (kV k) (valV kvs k):=.inl ⟨kvs,k,.inl e,rfl,rfl⟩
theorem DGet.t{H:Hp}{a b:Addr}{kvs:List (List Key×V)}{k:List Key}(e:H a=some (.dT kvs))(eb:H b=some (.tup (k.map kV))):DGet H a (.ref b) (valV kvs k):=.inr ⟨kvs,k,b,.inl e,rfl,eb,rfl⟩
theorem DPut.k{H:Hp}{a:Addr}{kvs:List (Key×V)}{k:Key}{v:V}(e:H a=some (.dK kvs))(hl:kvs.length<sizeLine):DPut H a (kV k) v (upd H a (.dK (putK kvs k v))):=.inl ⟨kvs,k,e,rfl,hl,rfl⟩
theorem DPut.t{H:Hp}{a b:Addr}{kvs:List (List Key×V)}{k:List Key}{v:V}(e:H a=some (.dT kvs))(eb:H b=some (.tup (k.map kV)))(hl:kvs.length<sizeLine) :
  DPut H a (.ref b) v (upd H a (.dT (putK kvs k v))):=.inr ⟨kvs,k,b,e,rfl,eb,hl,rfl⟩
section
variable{X:Cx}{pins:List (Addr×Obj)}{σ:St}{H:Hp}{s:Shared}{a:Addr}{y v:V}{u r:Value}{o:Option V}{A:Around}{E:Value->Shared->Prop}
theorem Inv.big(I:Inv X pins σ H s):sysModules<s.heap.objs.size:=by
 have h:mainGlobals<s.heap.objs.size:=(I.mod.glob.keeps I.bk).lt;exact Nat.lt_trans ⋯ h
theorem zb4(hu:A.units+1<cLine)(I:Inv X pins σ H s)(g:DGet H a y (some v))(ry:RelV y u)(h:∀ w' s',Inv X pins σ H s'->RelV v w'->Q w' s') :
  wpAny (model X.prog X.w) A (getItem (.ref a) u) Q E s:=by
 rcases g with ⟨kvs,k,e,ey,l⟩|⟨kvs,k,b,e,ey,eb,l⟩
 ·subst ey;obtain⟨z,hd,vs,rel,dd⟩:=Ph I.hok e;obtain⟨w',hw,rw'⟩:=RelO.some_of (v:=v) (o:=valueAt vs k) (by rw[l];exact rel.val k);exact wpAny_getItem_of (Kh ry) dd.mapOf hw (h w' _ (I.tok _) rw')
 ·subst ey;cases (show u=Value.ref b from ry);obtain⟨z,hd,xs,rel,dd⟩:=Ju I.hok e;obtain⟨w',hw,rw'⟩:=RelO.some_of (v:=v) (o:=(atKey xs k).map (·.2)) (by rw[l];exact rel.val k);obtain⟨p,hp,hp2⟩:=Option.map_eq_some_iff.mp hw;refine wpAny_getItem_heap (tupleKind_room_in1 hu) (O8 I.hok eb) dd hp ?_;rw[hp2];exact h w' _ (I.tok _) rw'
theorem zkd(hu:A.units+1<cLine)(I:Inv X pins σ H s)(g:DGet H a y o)(ry:RelV y u)(h:∀ s',Inv X pins σ H s'->Q (.bool o.isSome) s') :
  wpAny (model X.prog X.w) A (compareOp .In u (.ref a)) Q E s:=by
 rcases g with ⟨kvs,k,e,ey,l⟩|⟨kvs,k,b,e,ey,eb,l⟩
 ·subst ey;obtain⟨z,hd,vs,rel,dd⟩:=Ph I.hok e;refine wpAny_in_of (Kh ry) hd dd.mapOf ?_;rw[<- (rel.val k).isSome_eq,<- l];exact h _ (I.tok _)
 ·subst ey;cases (show u=Value.ref b from ry);obtain⟨z,hd,xs,rel,dd⟩:=Ju I.hok e;refine wpAny_in_heap (tupleKind_room_in1 hu) (O8 I.hok eb) hd dd ?_;have q:=(rel.val k).isSome_eq;rw[Option.isSome_map] at q;rw[<- q,<- l];exact h _ (I.tok _)
theorem zfm(hu:A.units+1<cLine)(I:Inv X pins σ H s)(g:DGet H a y o)(ry:RelV y u)(h:∀ s',Inv X pins σ H s'->Q (.bool (!o.isSome)) s') :
  wpAny (model X.prog X.w) A (compareOp .NotIn u (.ref a)) Q E s:=by
 rcases g with ⟨kvs,k,e,ey,l⟩|⟨kvs,k,b,e,ey,eb,l⟩
 ·subst ey;obtain⟨z,hd,vs,rel,dd⟩:=Ph I.hok e;refine wpAny_notIn_of (Kh ry) hd dd.mapOf ?_;rw[<- (rel.val k).isSome_eq,<- l];exact h _ (I.tok _)
 ·subst ey;cases (show u=Value.ref b from ry);obtain⟨z,hd,xs,rel,dd⟩:=Ju I.hok e;refine wpAny_notIn_heap (tupleKind_room_in1 hu) (O8 I.hok eb) hd dd ?_;have q:=(rel.val k).isSome_eq;rw[Option.isSome_map] at q;rw[<- q,<- l];exact h _ (I.tok _)
theorem Oj(I:Inv X pins σ H s)(mu:Mut (H a))(hs:Heap.SameBut a s.heap h')(he:∃ q,h'.get? a=some q)(new:Yw X.prog X.w (upd H a ob) h' a ob) :
  Inv X pins σ (upd H a ob) { s with heap:=h',toks:=t' } :=
 I.write (x:=a) (e:=a) mu (.inl rfl) (fun b q hb z=>(hs.2 b hb).trans z) he new
theorem Em(z:kvs.length<=sizeLine)(hd:(a == sysModules)=false)(rel:KV kvs vs)(dd:h'.DictOf (Yi P w) a vs) :
  Yw P w H' h' a (.dK kvs):=⟨z,hd,vs,rel,dd⟩
theorem zb5(hu:A.units+1<cLine)(I:Inv X pins σ H s)(g:DPut H a y v H')(ry:RelV y u)(rv:RelV v r)(h:∀ s',Inv X pins σ H' s'->Q () s') :
  wpAny (model X.prog X.w) A (setItem (.ref a) u r) Q E s:=by
 rcases g with ⟨kvs,k,e,ey,l,eH⟩|⟨kvs,k,b,e,ey,eb,l,eH⟩
 ·subst ey eH;obtain⟨z,hd,vs,rel,dd⟩:=Ci I.hok e;have hz:vs.length<=sizeLine:=by rw[<- rel.length];exact z
  have hl:(putK kvs k v).length<=sizeLine:=by have:=Xr kvs k v;omega
  refine wpAny_setItem_pairs (hsz:=hz) (Kh ry) dd fun h' dd' hs=>h _ ?_;have he:∃ q,h'.get? a=some q:=let ⟨q,_,_,hq,_⟩:=dd';⟨q,hq⟩;exact Oj I (by rw[e];exact True.intro) hs he (Em hl hd (rel.put k rv) dd')
 ·subst ey eH;cases (show u=Value.ref b from ry);obtain⟨z,hd,xs,rel,dd⟩:=zgj I.hok e;have hz:xs.length<=sizeLine:=by rw[<- Paired.length rel];exact z
  have hl:(putK kvs k v).length<=sizeLine:=by have:=Xr kvs k v;omega
  refine wpAny_setItem_heap (hsz:=hz) (tupleKind_room_in1 hu) (O8 I.hok eb) dd fun h' dd' hs=>h _ ?_;obtain⟨q,es,ep,hq,h2,h3,h4,_,h5⟩:=dd';refine Oj I (by rw[e];exact True.intro) hs ⟨q,hq⟩ ⟨hl,hd,_,(rel.put k eb rv).keeps fun c ys ec=>?_,q,es,ep,hq,h2,h3,h4,h5⟩;rw[Zh (Xm ec e (fun z=>nomatch z))];exact ec
end
section
variable{X:Cx}{pins:List (Addr×Obj)}{σ:St}{H:Hp}{s:Shared}{a:Addr}{kvs:List (Key×V)}{k:Key}{u:Value}{A:Around}{E:Value->Shared->Prop}
theorem zi2(I:Inv X pins σ H s)(e:H a=some (.dK kvs))(ry:RelV (kV k) u)(l:valV kvs k=some v)(hm:more=[]\/∃ x,more=[x])
  (h:∀ w' s',Inv X pins σ (upd H a (.dK (X5 kvs k))) s'->RelV v w'->Q w' s'):wpAny (model X.prog X.w) A (call (.builtin "dict.pop") (.ref a :: u :: more)) Q E s:=by
 obtain⟨z,hd,vs,rel,dd⟩:=Ci I.hok e;obtain⟨w',hw,rw'⟩:=RelO.some_of (v:=v) (o:=valueAt vs k) (by rw[<- l];exact rel.val k);have hp:(keyPart u).isSome=true:=by
  cases k with
  | inl i=>obtain⟨t,q⟩:=(show ∃ t,u=Value.int i t from ry);subst q;rfl
  | inr x=>obtain⟨t,q⟩:=(show ∃ t,u=Value.str x t from ry);subst q;rfl
 have ha:argsOk "dict.pop" ⟨.ref a :: u :: more,[]⟩:=by
  rcases hm with q|⟨x,q⟩
  ·subst q;exact PySem.F.args_dict_pop_2 _ _
  ·subst q;exact PySem.F.args_dict_pop_3 _ _ _
 refine call_meetsIn PySem.F.slot_dict_pop dd.typeIs PySem.F.entry_dict_pop ha (meets_dict_pop_there (Yi X.prog X.w) a (Kh ry) more hm hp)
  ⟨vs,w',dd,by rw[<- rel.length];exact z,hw,fun h' dd' hs=>h w' _ ?_ rw'⟩
 have he:∃ q,h'.get? a=some q:=let ⟨q,_,_,hq,_⟩:=dd';⟨q,hq⟩;exact Oj I (by rw[e];exact True.intro) hs he (Em (ztk (Cg kvs k) z) hd (rel.drop k) dd')
theorem zi3(I:Inv X pins σ H s)(e:Rd H a (.dK kvs))(h:∀ t s',Inv X pins σ H s'->Q (.int kvs.length t) s'):wpAny (model X.prog X.w) A (call (.builtin "len") [.ref a]) Q E s:=by
 obtain⟨z,hd,vs,rel,dd⟩:=Ph I.hok e;refine call_len_dict hd dd (by rw[<- rel.length];rw[sizeLine_eq] at z;omega) ?_;rw[<- rel.length];exact h _ _ (I.tok _)
end
def zhb(i:Expr):Prop:=∀ ov iv,subscripted i false ov iv=operate [ov,iv] (getItem ov iv)
theorem zfn{prog:Program}{w:World}{A:Around}{E:Value->Shared->Prop}{s:Shared}{env:Env}{value slice:Expr}{pos:Pos}{T id:String}{Q:Value->Shared->Prop}
  (hl:typeLookup (.type T) "__getitem__"=pure (some (.builtin id))) (hs:zhb slice)
  (h:wpAny (model prog w) A (eval value env) (fun o s₁=>wpAny (model prog w) A (eval slice env) (fun i s₂=>s₂.TypeIs o T/\wpAny (model prog w) A (getItem o i) Q E s₂) E s₁) E s) :
  wpAny (model prog w) A (eval (.Subscript value slice pos) env) Q E s:=by
 refine Subscript_ (wpAny_mono h (fun o s₁ h₁=>wpAny_mono h₁ (fun i s₂ h₂=>?_) fun _ _ x=>x) fun _ _ x=>x);obtain⟨hT,h₂⟩:=h₂;unfold subscriptTail;refine wpAny_bind ?_;rw[getitemInPython_of_ne hT.not_modules];refine wpAny_bind (wpAny_specialOf hT hl ?_);have fin:wpAny (model prog w) A (subscripted slice false o i) (fun r s₃=>wpAny (model prog w) A (letTemporaryGo value o r >>= fun _=>pure r) Q E s₃) E s₂:=by
  rw[hs o i];exact wpAny_operating (wpAny_mono h₂ (fun r s₃ h₃=>wpAny_bind (wpAny_letTemporaryGo (wpAny_pure h₃))) fun _ _ x=>x)
 first
  | exact wpAny_pure (wpAny_bind fin)
  | exact wpAny_bind (wpAny_pure (wpAny_bind fin))
  | exact wpAny_bind fin
theorem Cj(I:Inv X pins σ H s)(g:DGet H a y o):s.TypeIs (.ref a) "dict":=by
 rcases g with ⟨kvs,k,e,_,_⟩|⟨kvs,k,b,e,_,_,_⟩
 ·obtain⟨_,_,vs,_,dd⟩:=Ph I.hok e;exact dd.typeIs
 ·obtain⟨_,_,xs,_,dd⟩:=Ju I.hok e;exact dd.typeIs
inductive zhc(Q:VK)(x:V)(y:V)(H2:Hp):Prop where
 | mk(a)(v)(_:x=.ref a)(_:DGet H2 a y (some v))(_:Q v H2)
def zgk(td ty:TE):TE:=fun σ H Q=>td σ H fun x H1=>ty σ H1 fun y H2=>zhc Q x y H2
inductive zi4(Q:VK)(y:V)(x:V)(H2:Hp):Prop where
 | mk(a)(o)(_:x=.ref a)(_:DGet H2 a y o)(_:Q (.bl o.isSome) H2)
def zke(ty td:TE):TE:=fun σ H Q=>ty σ H fun y H1=>td σ H1 fun x H2=>zi4 Q y x H2
inductive zdp(Q:VK)(y:V)(x:V)(H2:Hp):Prop where
 | mk(a)(o)(_:x=.ref a)(_:DGet H2 a y o)(_:Q (.bl (!o.isSome)) H2)
def zfo(ty td:TE):TE:=fun σ H Q=>ty σ H fun y H1=>td σ H1 fun x H2=>zdp Q y x H2
inductive zhd(D:N5)(σ:L2.St)(v:V)(x:V)(y:V)(H3:Hp):Prop where
 | mk(a)(H4)(_:x=.ref a)(_:DPut H3 a y v H4)(_:D.nx σ H4)
def zi5(td ty tv:TE):TS:=fun D σ H=>tv σ H fun v H1=>td σ H1 fun x H2=>ty σ H2 fun y H3=>zhd D σ v x y H3
section
variable{X:Cx}{o i e value:Expr}{pos pos' tpos:Pos}{td ty tv:TE}
theorem zfp(hu:X.A.units+1<cLine)(ho:PE X o td)(hi:PE X i ty)(hs:zhb i):PE X (.Subscript o i pos) (zgk td ty):=by
 intro pins s σ H Q I h;refine zfn PySem.F.slot_dict_getitem.lookup hs (thn (ho pins s σ H _ I h) fun u s1 ⟨x,H1,I1,rx,q1⟩=>thn (hi pins s1 σ H1 _ I1 q1) fun iv s2 ⟨y,H2,I2,ry,a,v,ex,g,q2⟩=>?_);subst ex;obtain rfl:u=Value.ref a:=rx;exact⟨Cj I2 g,zb4 hu I2 g ry fun w' s3 I3 rw'=>⟨v,H2,I3,rw',q2⟩⟩
theorem Jv(hu:X.A.units+1<cLine)(hi:PE X i ty)(ho:PE X o td):PC X .In i o (zke ty td):=by
 intro pins s σ H Q I h;refine thn (hi pins s σ H _ I h) fun iv s1 ⟨y,H1,I1,ry,q1⟩=>thn (ho pins s1 σ H1 _ I1 q1) fun u s2 ⟨x,H2,I2,rx,a,ov,ex,g,q2⟩=>?_;subst ex;obtain rfl:u=Value.ref a:=rx;exact zkd hu I2 g ry fun s3 I3=>⟨.bl ov.isSome,H2,I3,rfl,q2⟩
theorem Rp(hu:X.A.units+1<cLine)(hi:PE X i ty)(ho:PE X o td):PC X .NotIn i o (zfo ty td):=by
 intro pins s σ H Q I h;refine thn (hi pins s σ H _ I h) fun iv s1 ⟨y,H1,I1,ry,q1⟩=>thn (ho pins s1 σ H1 _ I1 q1) fun u s2 ⟨x,H2,I2,rx,a,ov,ex,g,q2⟩=>?_;subst ex;obtain rfl:u=Value.ref a:=rx;exact zfm hu I2 g ry fun s3 I3=>⟨.bl (!ov.isSome),H2,I3,rfl,q2⟩
theorem V1(hu:X.A.units+1<cLine)(ho:PE X o td)(hi:PE X i ty)(hv:PE X value tv)(hs:swapsWith value (some (.Subscript o i pos')) pos.line X.env=pure false) :
  PS X (.Assign [.Subscript o i pos'] value pos) (zi5 td ty tv):=by
 intro pins s σ H D I h;refine wpAny_Assign_Subscript (thn (hv pins s σ H _ I h) fun r s1 ⟨v,H1,I1,rv,q1⟩=>thn (ho pins s1 σ H1 _ I1 q1) fun u s2 ⟨x,H2,I2,rx,q2⟩=>thn (hi pins s2 σ H2 _ I2 q2) fun iv s3 ⟨y,H3,I3,ry,a,H4,ex,g,q3⟩=>?_) hs;subst ex;obtain rfl:u=Value.ref a:=rx;exact zb5 hu I3 g ry rv fun s4 I4=>⟨σ,H4,I4,q3⟩
end
theorem Ck(h:Heap)(hb:sysModules<h.objs.size):Yw P w H (h.push { cls:=.type "dict",data:=.dict #[] }) h.objs.size (.dK []) :=
 ⟨zt6 _,zty.mpr (Ne.symm (zts hb)),[],.nil,Heap.DictOf.new h⟩
theorem zdq(h:Heap)(hb:sysModules<h.objs.size):Yw P w H (h.push { cls:=.type "dict",data:=.dict #[] }) h.objs.size (.dT []) :=
 ⟨zt6 _,zty.mpr (Ne.symm (zts hb)),[],.nil,_,#[],0,Heap.get?_push_size _ rfl,⟨rfl,rfl,rfl⟩,rfl,rfl,zuy⟩
def zhe:TE:=fun _ H Q=>∀ p,H p=none->Q (.ref p) (upd H p (.dK []))
def zhf:TE:=fun _ H Q=>∀ p,H p=none->Q (.ref p) (upd H p (.dT []))
section
variable{X:Cx}{pos:Pos}
theorem Tp:PE X (.Dict [] [] pos) zhe:=fun pins s σ H Q I h =>
 wpAny_Dict_empty ⟨.ref s.heap.objs.size,_,I.laid (a:=s.heap.objs.size) (o:=.dK []) (t':=s.toks) (fun _ _ q=>Heap.get?_push_of_some _ q) (ztc _) (Ck s.heap I.big),rfl,h _ (I.hok.fresh (ztc _))⟩
theorem Cm:PE X (.Dict [] [] pos) zhf:=fun pins s σ H Q I h =>
 wpAny_Dict_empty ⟨.ref s.heap.objs.size,_,I.laid (a:=s.heap.objs.size) (o:=.dT []) (t':=s.toks) (fun _ _ q=>Heap.get?_push_of_some _ q) (ztc _) (zdq s.heap I.big),rfl,h _ (I.hok.fresh (ztc _))⟩
end
def Al:List (TE×TE)->St->Hp->(List (V×V)->Hp->Prop)->Prop
 | [],_,H,Q=>Q [] H
 | (tk,tv) :: r,σ,H,Q=>tk σ H fun x H1=>tv σ H1 fun y H2=>Al r σ H2 fun ps H3=>Q ((x,y) :: ps) H3
abbrev VV:List (V×V)->List (Value×Value)->Prop:=Paired fun p q=>RelV p.1 q.1/\RelV p.2 q.2
def PPs(X:Cx)(pos:Pos)(keys:List (Option Expr))(values:List Expr)(trs:List (TE×TE)):Prop :=
 ∀ (pins:List (Addr×Obj)) (s:Shared) (σ:St) (H:Hp) (Q:List (V×V)->Hp->Prop),Inv X pins σ H s->Al trs σ H Q ->
   wpAny (model X.prog X.w) X.A (evalPairs (pairTrees keys values X.env pos)) (fun vs s'=>∃ ps H',Inv X pins σ H' s'/\VV ps vs/\Q ps H') X.xe s
theorem zar:PPs X pos [] [] []:=fun pins s σ H Q I h=>pairTrees_nil_walk ⟨[],H,I,.nil,h⟩
theorem Cn(hk:PE X k tk)(hv:PE X v tv)(hr:PPs X pos ks vs trs) :
  PPs X pos (some k :: ks) (v :: vs) ((tk,tv) :: trs):=fun pins s σ H Q I h =>
 pairTrees_cons_walk (thn (hk pins s σ H _ I h) fun u s1 ⟨x,H1,I1,rx,q1⟩=>thn (hv pins s1 σ H1 _ I1 q1) fun w2 s2 ⟨y,H2,I2,ry,q2⟩ =>
  thn (hr pins s2 σ H2 _ I2 q2) fun ws s3 ⟨ps,H3,I3,rel,q3⟩=>⟨(x,y) :: ps,H3,I3,.cons ⟨rx,ry⟩ rel,q3⟩)
def Vo(kvs more:List (Key×V)):List (Key×V):=more.foldl (fun acc kv=>putK acc kv.1 kv.2) kvs
theorem KV.merge:∀ {more:List (Key×V)} {rs:List (Key×Value)} {kvs:List (Key×V)} {vs:List (Key×Value)},KV more rs->KV kvs vs->KV (Vo kvs more) (merged vs rs):=by
 intro more rs kvs vs r;unfold KV at r
 induction r generalizing kvs vs with
 | nil=>intro q;exact q
 | @cons p q ps qs h t ih =>
   intro r0;have e:KV (putK kvs p.1 p.2) (stored vs q.1 q.2):=by
    have:=r0.put p.1 h.2;rw[<- h.1];exact this
   exact ih e
theorem Sy:∀ (more kvs:List (Key×V)),(Vo kvs more).length<=kvs.length+more.length
 | [],kvs=>by show kvs.length<=kvs.length+0;omega
 | p :: r,kvs=>by
   have h1:=Sy r (putK kvs p.1 p.2);have h2:=Xr kvs p.1 p.2;show (Vo (putK kvs p.1 p.2) r).length<=_;rw[ztt];omega
theorem Jw:∀ {kvs:List (Key×V)} {ws:List (Value×Value)},VV (kvs.map fun kv=>(kV kv.1,kv.2)) ws->∃ rs,Carries (Yi P w) ws rs/\KV kvs rs
 | [],_,r=>by rw[List.map_nil] at r;cases r;exact⟨[],True.intro,.nil⟩
 | p :: kvs,_,r=>by
   rw[ztm] at r;cases r with
   | @cons a b as bs h t =>
     obtain⟨rs,c,q⟩:=Jw (P:=P) (w:=w) t;obtain⟨b1,b2⟩:=b;exact⟨(p.1,b2) :: rs,⟨Kh h.1,rfl,c⟩,.cons ⟨rfl,h.2⟩ q⟩
def zi6(trs:List (TE×TE)):TE:=fun σ H Q=>∀ p,H p=none->Al trs σ (upd H p (.dK [])) fun ps H2=>H2 p=some (.dK [])/\∃ kvs:List (Key×V),ps=kvs.map (fun kv=>(kV kv.1,kv.2))/\kvs.length<=15/\Q (.ref p) (upd H2 p (.dK (Vo [] kvs)))
theorem zas(h:PPs X pos keys values trs)(hall:keys.all (·.isSome)=true)(hl:keys.length=values.length)(h0:keys≠[])
  (h15:keys.length<=15):PE X (.Dict keys values pos) (zi6 trs):=by
 intro pins s σ H Q I q;have hn:=I.hok.fresh (ztc s.heap.objs.size);have I1:=I.laid (a:=s.heap.objs.size) (o:=.dK []) (h':=s.heap.push { cls:=.type "dict",data:=.dict #[] }) (t':=s.toks) (fun _ _ q=>Heap.get?_push_of_some _ q) (ztc _) (Ck s.heap I.big);refine wpAny_Dict_walk (knd:=Yi X.prog X.w) hall hl h0 h15 (thn (h pins _ σ _ _ I1 (q _ hn)) fun ws s2 ⟨ps,H2,I2,rel,e,kvs,ep,lk,q2⟩=>?_);subst ep;obtain⟨rs,c,rk⟩:=Jw (P:=X.prog) (w:=X.w) rel;obtain⟨z,hd,vs0,r0,dd⟩:=Ci I2.hok e;cases r0;refine⟨rs,c,dd,fun h' dd' hs=>⟨.ref s.heap.objs.size,_,?_,rfl,q2⟩⟩;have hz:(Vo [] kvs).length<=sizeLine:=by
  have h1:=Sy kvs [];rw[List.length_nil] at h1;rw[sizeLine_eq];omega
 have he:∃ q,h'.get? s.heap.objs.size=some q:=let ⟨q,_,_,hq,_⟩:=dd';⟨q,hq⟩;exact Oj I2 (by rw[e];exact True.intro) hs he (Em hz hd (rk.merge .nil) dd')
structure M1(X:Cx)(o:Expr)(m:Str)(apos:Pos)(e:Expr)(cpos:Pos):Prop where
 base:attributeBase o m X.env (eval o X.env)=eval o X.env
 few:((backTo cpos (starEach [e] X.env)).all (fun x=>!x.1)&&(backToKw cpos (keywordEach [] X.env)).all (fun x=>x.1.isSome)
  && decide (([e]:List Expr).length+([]:List Keyword).length+(if ([]:List Keyword).isEmpty then 0 else 1)<30))=true
 line:(apos.endLine == cpos.line)=true
 trees:backTo cpos (starEach [e] X.env)=[(false,eval e X.env)]
structure M2(X:Cx)(o:Expr)(m:Str)(apos:Pos)(e f:Expr)(cpos:Pos):Prop where
 base:attributeBase o m X.env (eval o X.env)=eval o X.env
 few:((backTo cpos (starEach [e,f] X.env)).all (fun x=>!x.1)&&(backToKw cpos (keywordEach [] X.env)).all (fun x=>x.1.isSome)
  && decide (([e,f]:List Expr).length+([]:List Keyword).length+(if ([]:List Keyword).isEmpty then 0 else 1)<30))=true
 line:(apos.endLine == cpos.line)=true
 trees:backTo cpos (starEach [e,f] X.env)=[(false,eval e X.env),(false,eval f X.env)]
def IsD(H:Hp)(a:Addr):Prop:=(∃ kvs,Rd H a (.dK kvs))\/∃ kvs,Rd H a (.dT kvs)
theorem Am(I:Inv X pins σ H s)(d:IsD H a) :
  s.TypeIs (.ref a) "dict"/\(∀ b,Value.ref a=.ref b->∃ ob,s.heap.get? b=some ob/\ob.dict=none)/\(a == sysModules)=false:=by
 rcases d with ⟨kvs,e⟩|⟨kvs,e⟩
 ·obtain⟨_,hd,vs,_,dd⟩:=Ph I.hok e;refine⟨dd.typeIs,fun b q=>?_,hd⟩;cases q;obtain⟨ob,_,_,h1,h2,_⟩:=dd;exact⟨ob,h1,h2.2.1⟩
 ·obtain⟨_,hd,xs,_,dd⟩:=Ju I.hok e;refine⟨dd.typeIs,fun b q=>?_,hd⟩;cases q;obtain⟨ob,_,_,h1,h2,_⟩:=dd;exact⟨ob,h1,h2.2.1⟩
section
variable{X:Cx}{pins:List (Addr×Obj)}{σ:St}{H:Hp}{s:Shared}{a:Addr}{y d:V}{u r:Value}{o:Option V}{A:Around}{E:Value->Shared->Prop}
theorem zhg(hu:A.units+1<cLine)(I:Inv X pins σ H s)(g:DGet H a y o)(ry:RelV y u)(rd:RelV d r)(h:∀ w' s',Inv X pins σ H s'->RelV (o.getD d) w'->Q w' s') :
  wpAny (model X.prog X.w) A (call (.builtin "dict.get") [.ref a,u,r]) Q E s:=by
 rcases g with ⟨kvs,k,e,ey,l⟩|⟨kvs,k,b,e,ey,eb,l⟩
 ·subst ey;obtain⟨z,hd,vs,rel,dd⟩:=Ph I.hok e;refine call_meetsIn PySem.F.slot_dict_get dd.typeIs PySem.F.entry_dict_get (PySem.F.args_dict_get_3 _ _ _) (meets_dict_get_default (Yi X.prog X.w) a (Kh ry) hd r) ⟨_,dd.mapOf,h _ _ (I.tok _) ?_⟩;rw[l];exact(rel.val k).getD rd
 ·subst ey;cases (show u=Value.ref b from ry);obtain⟨z,hd,xs,rel,dd⟩:=Ju I.hok e;refine call_meetsIn PySem.F.slot_dict_get dd.typeIs PySem.F.entry_dict_get (PySem.F.args_dict_get_3 _ _ _) (meetsH_dict_get_default (tupleKind (Yi X.prog X.w)) a b hd r) ⟨tupleKind_room_in1 hu,k,xs,O8 I.hok eb,dd,h _ _ (I.tok _) ?_⟩;rw[l];exact(rel.val k).getD rd
end
inductive zfq(ty:TE)(tx:TE)(σ:L2.St)(Q:VK)(x:V)(H1:Hp):Prop where
 | mk(a)(_:x=.ref a)(_:IsD H1 a)(_:ty σ H1 fun y H2=>tx σ H2 fun z H3=>∃ o,DGet H3 a y o/\Q (o.getD z) H3)
def zhh(td ty tx:TE):TE:=fun σ H Q=>td σ H fun x H1=>zfq ty tx σ Q x H1
inductive zfr(ty:TE)(σ:L2.St)(Q:VK)(x:V)(H1:Hp):Prop where
 | mk(a)(_:x=.ref a)(_:IsD H1 a)(_:ty σ H1 fun y H2=>∃ kvs k v,H2 a=some (.dK kvs)/\y=kV k/\valV kvs k=some v/\Q v (upd H2 a (.dK (X5 kvs k))))
def zhi(td ty:TE):TE:=fun σ H Q=>td σ H fun x H1=>zfr ty σ Q x H1
section
variable{X:Cx}{o e f:Expr}{apos cpos:Pos}{td ty tx:TE}
theorem zdr(hu:X.A.units+1<cLine)(ho:PE X o td)(he:PE X e ty)(hf:PE X f tx)(m:M2 X o "get" apos e f cpos):PE X (.Call (.Attribute o "get" apos) [e,f] [] cpos) (zhh td ty tx):=by
 intro pins s σ H Q I h;refine wpAny_Call_method m.base m.few m.line PySem.F.plainAttrs_dict PySem.F.slot_dict_get PySem.F.type_dict_get (thn (ho pins s σ H _ I h) fun u s1 ⟨x,H1,I1,rx,a,ex,d,q1⟩=>?_);subst ex;obtain rfl:u=Value.ref a:=rx;obtain⟨t1,t2,_⟩:=Am I1 d;refine⟨t1,t2,?_⟩;rw[m.trees];refine Calls.callWith_builtin rfl (Calls.evalArgs_plain (Calls.spliced_cons (thn (he pins s1 σ H1 _ I1 q1) fun iv s2 ⟨y,H2,I2,ry,q2⟩ =>
  Calls.spliced_cons (thn (hf pins s2 σ H2 _ I2 q2) fun fv s3 ⟨z,H3,I3,rz,ov,g,q3⟩=>Calls.spliced_nil ?_))))
 exact zhg hu I3 g ry rz fun w' s4 I4 rw'=>⟨_,H3,I4,rw',q3⟩
theorem zds(ho:PE X o td)(he:PE X e ty)(m:M1 X o "pop" apos e cpos):PE X (.Call (.Attribute o "pop" apos) [e] [] cpos) (zhi td ty):=by
 intro pins s σ H Q I h;refine wpAny_Call_method m.base m.few m.line PySem.F.plainAttrs_dict PySem.F.slot_dict_pop PySem.F.type_dict_pop (thn (ho pins s σ H _ I h) fun u s1 ⟨x,H1,I1,rx,a,ex,d,q1⟩=>?_);subst ex;obtain rfl:u=Value.ref a:=rx;obtain⟨t1,t2,_⟩:=Am I1 d;refine⟨t1,t2,?_⟩;rw[m.trees];refine Calls.callWith_builtin rfl (Calls.evalArgs_plain (Calls.spliced_cons (thn (he pins s1 σ H1 _ I1 q1) fun iv s2 ⟨y,H2,I2,ry,kvs,k,v,ea,ey,l,q2⟩=>Calls.spliced_nil ?_)));subst ey;exact zi2 I2 ea ry l (.inl rfl) fun w' s3 I3 rw'=>⟨v,_,I3,rw',q2⟩
end
end L2
namespace HT
open PySem PyProof.Rows
section
open PySem.SeqAt
open PySem.AutoSeq1 (wpAny_loadPart')
open PySem.MeetsSeq PySem.MeetsSeq2 PySem.MeetsSeq3
end
section
variable{prog:Program}{w:World}{A:Around}{E:Value->Shared->Prop}{s:Shared}
theorem cat_tup(ht:IsTup s.heap t vs.toArray)(hb:IsTup s.heap b ws.toArray)(hv:vs≠[])
  (h1:ws=[]->Q (.ref t) s) (h2:ws≠[]->Q (.ref s.heap.objs.size) { s with heap:=s.heap.push { cls:=.type "tuple",data:=.seq (vs++ws).toArray } })
  (hsz:vs.length+ws.length<=sizeLine):wpAny (model prog w) A (binaryOp .Add (.ref t) (.ref b)) Q E s:=by
 obtain⟨⟨cls,dd,data,sl⟩,ho,hc,n,hd⟩:=id ht;obtain⟨⟨cls2,dd2,data2,sl2⟩,ho2,hc2,n2,hd2⟩:=id hb;simp only at hc hd hc2 hd2;subst hc hd hc2 hd2;have e:vs.toArray++ws.toArray=(vs++ws).toArray:=by simp
 by_cases hw:ws=[]
 ·exact concat_meets ⟨_,ho,rfl⟩ ⟨_,ho2,rfl⟩ noFill_tuple_add seq_tuple_add PySem.F.slot_tuple_add PySem.F.entry_tuple_add (PySem.F.args_tuple_add_2 _ _)
   (tuple_addW1 t b vs.toArray ws.toArray n n2 dd dd2 sl sl2 (by simpa using hv) (by simp[hw])) ⟨ho,ho2,h1 hw⟩
 ·refine concat_meets ⟨_,ho,rfl⟩ ⟨_,ho2,rfl⟩ noFill_tuple_add seq_tuple_add PySem.F.slot_tuple_add PySem.F.entry_tuple_add (PySem.F.args_tuple_add_2 _ _)
   (tuple_addW2 t b vs.toArray ws.toArray n n2 dd dd2 sl sl2 (by simpa using hv) (by simpa using hw) (by rw[ztj,ztj];exact hsz)) ⟨ho,ho2,?_⟩
  rw[e];exact h2 hw
def sIx(n d:Nat):Option Int->Nat
 | none=>d
 | some v=>if v<0 then (v+(n:Int)).toNat else min v.toNat n
theorem sIx_none(n d:Nat):sIx n d none=d:=rfl
theorem sIx_nat(n d k:Nat):sIx n d (some (k:Int))=min k n:=by
 show (if (k:Int)<0 then ((k:Int)+(n:Int)).toNat else min (k:Int).toNat n)=min k n;rw[if_neg ⋯,ztl]
end
end HT
namespace L2
open PySem PySem.Spec PyProof.Rows
abbrev TO:=St->Hp->(Option Int->Hp->Prop)->Prop
def PO(X:Cx)(e:Option Expr)(t:TO):Prop :=
 ∀ (pins:List (Addr×Obj)) (s:Shared) (σ:St) (H:Hp) (Q:Option Int->Hp->Prop),Inv X pins σ H s->t σ H Q ->
   wpAny (model X.prog X.w) X.A (evalPart e X.env) (fun u s'=>∃ o H',Inv X pins σ H' s'/\IsPart u o/\Q o H') X.xe s
def zfs:TO:=fun _ H Q=>Q none H
inductive zhj(Q:Option Int->Hp->Prop)(x:V)(H1:Hp):Prop where
 | mk(i)(_:x=.int i)(_:Q (some i) H1)
def zi7(t:TE):TO:=fun σ H Q=>t σ H fun x H1=>zhj Q x H1
section
variable{X:Cx}{e:Expr}{te:TE}{lo hi:Option Expr}{tl th:TO}{pos p2:Pos}
theorem zat:PO X none zfs:=by
 intro pins s σ H Q I h;rw[evalPart_none];exact wpAny_pure ⟨none,H,I,.none,h⟩
theorem Ji(h:PE X e te):PO X (some e) (zi7 te):=by
 intro pins s σ H Q I hw;rw[evalPart_some];refine thn (h pins s σ H _ I hw) fun u s1 ⟨x,H1,I1,r1,q1⟩=>?_;obtain⟨i,rfl,q⟩:=q1;obtain⟨t,rfl⟩:=r1;exact⟨some i,H1,I1,.int i t,q⟩
def SlR(X:Cx)(r:V->Option Int->Option Int->Hp->VK->Prop):Prop :=
 ∀ (pins:List (Addr×Obj)) (s:Shared) (σ:St) (H:Hp) (x:V) (v vl vu:Value) (lo hi:Option Int) (sl:Addr) (Q:VK),Inv X pins σ H s->RelV x v->s.heap.IsSliceOf sl vl vu .none->IsPart vl lo->IsPart vu hi->r x lo hi H Q ->
   ∃ T id,typeLookup (.type T) "__getitem__"=pure (some (.builtin id))/\s.TypeIs v T/\wpAny (model X.prog X.w) X.A (getItem v (.ref sl)) (EP X pins σ Q) X.xe s
def tSl(r:V->Option Int->Option Int->Hp->VK->Prop)(te:TE)(tl th:TO):TE:=fun σ H Q=>te σ H fun x H1=>tl σ H1 fun l H2=>th σ H2 fun u H3=>r x l u H3 Q
theorem Jx(hr:SlR X r)(he:PE X e te)(hl:PO X lo tl)(hu:PO X hi th):PE X (.Subscript e (.Slice lo hi none p2) pos) (tSl r te tl th):=by
 intro pins s σ H Q I h;refine Subscript_ (thn (he pins s σ H _ I h) fun v s1 ⟨x,H1,I1,r1,q1⟩=>?_);refine wpAny_Slice (thn (hl pins s1 σ H1 _ I1 q1) fun vl s2 ⟨l,H2,I2,pl,q2⟩=>thn (hu pins s2 σ H2 _ I2 q2) fun vu s3 ⟨u,H3,I3,pu,q3⟩=>?_);rw[evalPart_none];refine wpAny_pure ?_;have I4:Inv X pins σ H3 { s3 with heap:=s3.heap.push { cls:=.type "slice",data:=.fields #[vl,vu,.none] } }:=I3.kept (t':=s3.toks) fun b ob q=>Heap.get?_push_of_some _ q;obtain⟨T,id,hT,ht,hg⟩:=hr pins { s3 with heap:=s3.heap.push { cls:=.type "slice",data:=.fields #[vl,vu,.none] } } σ H3 x v vl vu l u s3.heap.objs.size Q I4 r1 (Heap.IsSliceOf.new ..) pl pu q3;show wpAny (model X.prog X.w) X.A (subscriptTail e (.Slice lo hi none p2) v (.ref s3.heap.objs.size)) (EP X pins σ Q) X.xe { s3 with heap:=s3.heap.push { cls:=.type "slice",data:=.fields #[vl,vu,.none] } };exact tail_any (ops:=[.ref s3.heap.objs.size,v]) ht hT hg (by with_unfolding_all rfl)
def En(xs:List V)(lo hi:Option Int):List V:=(xs.drop (HT.sIx xs.length 0 lo)).take (HT.sIx xs.length xs.length hi-HT.sIx xs.length 0 lo)
theorem Co(xs:List V)(lo hi:Option Int):(En xs lo hi).length<=xs.length:=by
 unfold En;rw[zur,zu8];omega
inductive zgl(K:Frag)(x:V)(y:V)(H:Hp)(Q:VK):Prop where
 | mk(a)(b)(xs)(ys)(_:x=.ref a)(_:y=.ref b)(_:SqT K H a xs)(_:SqT K H b ys)(_:xs≠[])(_:xs.length+ys.length<=sizeLine)(_:(ys=[]->Q (.ref a) H))(_:(ys≠[]->∀ p,H p=none->Q (.ref p) (upd H p (.tup (xs++ys)))))
theorem Vals.nil_iff(r:Vals xs us):us=[]↔xs=[]:=by
 cases r with
 | nil=>simp
 | cons _ _=>simp
theorem zft:OpR X (binaryOp .Add) (zgl X.K):=by
 intro pins s σ H x y v u Q I rx ry h;obtain⟨a,b,xs,ys,rfl,rfl,ha,hb,hx,hz,q1,q2⟩:=h;cases rx;cases ry;obtain⟨its,r1,p1,_⟩:=I.tuple ha;obtain⟨its2,r2,p2,_⟩:=I.tuple hb;refine HT.cat_tup p1 p2 (fun z=>hx (r1.nil_iff.mp z)) (fun z=>⟨.ref a,H,I,rfl,q1 (r2.nil_iff.mp z)⟩) (fun z=>?_) (by rw[<- r1.length,<- r2.length];exact hz);refine⟨.ref s.heap.objs.size,_,I.laid (t':=s.toks) (o:=.tup (xs++ys)) (fun b ob q=>Heap.get?_push_of_some _ q) (ztc _) ?_,rfl,q2 (fun w=>z (r2.nil_iff.mpr w)) _ (I.hok.fresh (ztc _))⟩;exact⟨by rw[zs8];exact hz,_,r1.append r2,IsTup.new _ _⟩
end
def ixN(n:Nat)(i:Int):Option Nat:=if 0<=i then (if i<n then some i.toNat else none) else if -(n:Int)<=i then some (i+n).toNat else none
def atI{α:Type}(xs:List α)(i:Int):Option α:=(ixN xs.length i).bind fun j=>xs[j]?
theorem zau(h:ixN n i=some j):seqIndex? i n=some j/\j<n/\-(n:Int)<=i/\i<n:=by
 unfold ixN at h;by_cases h0:0<=i
 ·rw[if_pos h0] at h;by_cases h1:i<n
  ·rw[if_pos h1] at h;have e:i.toNat=j:=Option.some.inj h;exact⟨by rw[seqIndex_of h0 h1,e],by omega,by omega,h1⟩
  ·rw[if_neg h1] at h;cases h
 ·rw[if_neg h0] at h;by_cases h1:-(n:Int)<=i
  ·rw[if_pos h1] at h;have e:(i+n).toNat=j:=Option.some.inj h;exact⟨by rw[seqIndex_neg ⋯ h1,e],by omega,h1,by omega⟩
  ·rw[if_neg h1] at h;cases h
theorem zav(h:atI xs i=some v):∃ j,seqIndex? i xs.length=some j/\xs[j]?=some v/\j<xs.length/\-(xs.length:Int)<=i/\i<xs.length:=by
 unfold atI at h;cases e:ixN xs.length i with
 | none=>rw[e] at h;cases h
 | some j =>
   rw[e] at h;obtain⟨h1,h2,h3,h4⟩:=zau e;exact⟨j,h1,h,h2,h3,h4⟩
theorem Zs{α:Type}{xs:List α}{j:Nat}{v:α}(h:xs[j]?=some v):atI xs (j:Int)=some v:=by
 have hj:j<xs.length:=(zs6.mp h).1;have e:ixN xs.length (j:Int)=some j:=by
  unfold ixN;rw[if_pos ⋯,if_pos ⋯];simp
 unfold atI;rw[e];exact h
theorem atI_last(xs:List α)(v:α):atI (xs++[v]) (-1)=some v:=by
 have hl:(xs++[v]).length=xs.length+1:=by simp
 have e:ixN (xs++[v]).length (-1)=some xs.length:=by
  unfold ixN;rw[hl,if_neg ⋯,if_pos ⋯]
  congr 1
  omega
 unfold atI;rw[e];show (xs++[v])[xs.length]?=some v;simp
def zaw(b:Expr):Prop:=∀ o i,subscripted b false o i=operate [o,i] (getItem o i)
def IxR(X:Cx)(r:R2):Prop :=
 ∀ (value slice:Expr) (pins:List (Addr×Obj)) (s:Shared) (σ:St) (H:Hp) (x y:V) (v u:Value) (Q:VK),Inv X pins σ H s->RelV x v->RelV y u->r x y H Q ->
   subscripted slice false v u=operate [v,u] (getItem v u)->wpAny (model X.prog X.w) X.A (subscriptTail value slice v u) (EP X pins σ Q) X.xe s
def MtR(X:Cx)(id:String)(r:V->List V->Hp->VK->Prop):Prop :=
 ∀ (pins:List (Addr×Obj)) (s:Shared) (σ:St) (H:Hp) (x:V) (xs:List V) (v:Value) (us:List Value) (Q:VK),Inv X pins σ H s->RelV x v->Vals xs us->r x xs H Q ->
   wpAny (model X.prog X.w) X.A (call (.builtin id) (v :: us)) (EP X pins σ Q) X.xe s
section
variable{X:Cx}{a b:Expr}{ta tb:TE}{pos:Pos}
theorem zi8(hr:IxR X r)(ha:PE X a ta)(hb:PE X b tb)(hs:zaw b):PE X (.Subscript a b pos) (tOp r ta tb):=by
 intro pins s σ H Q I h;exact Subscript_ (binT ha hb I h fun v u s2 x y H2 I2 rx ry q=>hr a b pins s2 σ H2 x y v u Q I2 rx ry q (hs _ _))
inductive zfu(K:Frag)(x:V)(y:V)(H:Hp)(Q:VK):Prop where
 | mk(p)(xs)(i)(v)(_:x=.ref p)(_:y=.int i)(_:SqL K H p xs)(_:atI xs i=some v)(_:Q v H)
inductive zhk(K:Frag)(x:V)(y:V)(H:Hp)(Q:VK):Prop where
 | mk(p)(xs)(i)(v)(_:x=.ref p)(_:y=.int i)(_:SqT K H p xs)(_:atI xs i=some v)(_:Q v H)
theorem zfv:IxR X (zfu X.K):=by
 intro value slice pins s σ H x y v u Q I rx ry h hs;obtain⟨p,xs,i,z,rfl,rfl,hq,he,q⟩:=h;cases rx;obtain⟨t,rfl⟩:=ry;obtain⟨its,r,pl,hz⟩:=I.list hq;obtain⟨j,h1,h2,h3,h4,h5⟩:=zav he;obtain⟨w,ew,rw'⟩:=r.get h2;have hl:=r.length;have hn:=O7;have fin:EP X pins σ Q w s:=⟨z,H,I,rw',q⟩;by_cases h0:0<=i
 ·have hj:i.toNat=j:=by
   rw[seqIndex_of h0 h5] at h1;exact Option.some.inj h1
  exact item_listR pl.isList h0 ⋯ (by rw[hj];simpa using ew) fin hs
 ·have hj:(i+(its.toArray.size:Int)).toNat=j:=by
   rw[seqIndex_neg ⋯ h4] at h1;rw[ztj,<- hl];exact Option.some.inj h1
  exact subscriptTail_builtinR (x:=w) pl.isList.typeIs slot_list_getitem.lookup
   (wpAny_getItem_list_neg (Q:=fun r s'=>r=w/\EP X pins σ Q r s') pl.isList ⋯ (by rw[ztj]<;>omega) ⋯ (by rw[hj];simpa using ew) ⟨rfl,fin⟩) hs
theorem zhl:IxR X (zhk X.K):=by
 intro value slice pins s σ H x y v u Q I rx ry h hs;obtain⟨p,xs,i,z,rfl,rfl,hq,he,q⟩:=h;cases rx;obtain⟨t,rfl⟩:=ry;obtain⟨its,r,pl,hz⟩:=I.tuple hq;obtain⟨j,h1,h2,h3,h4,h5⟩:=zav he;obtain⟨w,ew,rw'⟩:=r.get h2;have hl:=r.length;have hn:=O7;have fin:EP X pins σ Q w s:=⟨z,H,I,rw',q⟩;exact subscriptTail_builtinR (x:=w) pl.typeIs slot_tuple_getitem.lookup
  (getItem_tuple (j:=j) (Q:=fun r s'=>r=w/\EP X pins σ Q r s') pl ⋯ ⋯ (by rw[ztj,<- hl];exact h1) (by simpa using ew) ⟨rfl,fin⟩) hs
theorem An(its:List Value)(n j:Nat)(u:Value):Obj.mapSeq (·.setIfInBounds j u) { cls:=.type "list",data:=.seq its.toArray n }={ cls:=.type "list",data:=.seq (its.set j u).toArray n }:=by
 simp[Obj.mapSeq]
theorem Inv.lst(I:Inv X pins σ H s)(h:H p=some (.lst xs)) :
  ∃ (its:List Value) (n:Nat),Vals xs its/\s.heap.get? p=some { cls:=.type "list",data:=.seq its.toArray n }/\xs.length<=sizeLine:=by
 obtain⟨z,its,n,r,e⟩:=I.hok p _ h;exact⟨its,n,r,e,z⟩
theorem Inv.lstUpd{pins:List (Addr×Obj)}{σ:St}{H:Hp}{s:Shared}{p:Addr}{xs ys:List V}{its its':List Value}{n n':Nat}{f:Obj->Obj}(I:Inv X pins σ H s)(h:H p=some (.lst xs))
  (ho:s.heap.get? p=some { cls:=.type "list",data:=.seq its.toArray n }) (hf:f { cls:=.type "list",data:=.seq its.toArray n }={ cls:=.type "list",data:=.seq its'.toArray n' }) (r:Vals ys its') (hz:ys.length<=sizeLine) (t:Nat) :
  Inv X pins σ (upd H p (.lst ys)) { s with heap:=s.heap.update p f,toks:=t }:=by
 have e:(s.heap.update p f).get? p=some { cls:=.type "list",data:=.seq its'.toArray n' }:=by
  rw[Heap.get?_update_self f ho (by rw[hf]<;>rfl),hf]
 refine I.write (x:=p) (e:=p) (by rw[h];trivial) (.inl rfl) (fun b u hb q=>(Heap.get?_update_other _ _ (Ne.symm hb)).trans q) ⟨_,e⟩ ?_;exact⟨hz,its',n',r,e⟩
def zi9:V->V->V->Hp->(Hp->Prop)->Prop:=fun o i v H Q=>∃ p xs k j,o=.ref p/\i=.int k/\H p=some (.lst xs)/\ixN xs.length k=some j/\Q (upd H p (.lst (xs.set j v)))
theorem Cp:zim X zi9:=by
 intro pins s σ H o i v ov iv u Q I ro ri rv h;obtain⟨p,xs,k,j,rfl,rfl,hp,hj,q⟩:=h;cases ro;obtain⟨t,rfl⟩:=ri;obtain⟨its,n,r,ho,hz⟩:=I.lst hp;obtain⟨h1,h2,h3,h4⟩:=zau hj;have hl:=r.length;have hn:=O7;have I':Inv X pins σ (upd H p (.lst (xs.set j v))) { s with heap:=s.heap.update p (Obj.mapSeq (·.setIfInBounds j u)) } :=
  I.lstUpd hp ho (An its n j u) (r.set rv j) (by rw[zu0];exact hz) s.toks
 by_cases h0:0<=k
 ·have hk:k.toNat=j:=by
   rw[seqIndex_of h0 h4] at h1;exact Option.some.inj h1
  exact PySem.W.ki_setAt ho h0 ⋯ (by rw[ztj,<- hl];exact h4) (by rw[hk];exact⟨_,I',q⟩)
 ·have hk:(k+(its.toArray.size:Int)).toNat=j:=by
   rw[seqIndex_neg ⋯ h3] at h1;rw[ztj,<- hl];exact Option.some.inj h1
  exact PySem.W.ki_setBack ho ⋯ (by rw[ztj,<- hl];exact h3) ⋯ (by rw[hk];exact⟨_,I',q⟩)
theorem Eo(lo hi:Option Int)(n:Nat):(sliceBounds lo hi none n).1=((HT.sIx n 0 lo:Nat):Int)/\(sliceBounds lo hi none n).2.1=((HT.sIx n n hi:Nat):Int)/\(sliceBounds lo hi none n).2.2=1:=by
 refine⟨?_,?_,rfl⟩
 ·cases lo with
  | none=>simp[sliceBounds,HT.sIx]
  | some i =>
    simp only[sliceBounds,HT.sIx,Option.getD_none,show (1:Int)>0 by decide,if_true];by_cases h:i<0
    ·simp only[h,if_true]<;>omega
    ·simp only[h,if_false]<;>omega
 ·cases hi with
  | none=>simp[sliceBounds,HT.sIx]
  | some i =>
    simp only[sliceBounds,HT.sIx,Option.getD_none,show (1:Int)>0 by decide,if_true];by_cases h:i<0
    ·simp only[h,if_true]<;>omega
    ·simp only[h,if_false]<;>omega
theorem Gi(its:List Value)(lo hi:Option Int):slicePick its.toArray lo hi none=((its.drop (HT.sIx its.length 0 lo)).take (HT.sIx its.length its.length hi-HT.sIx its.length 0 lo)).toArray:=by
 obtain⟨h1,h2,h3⟩:=Eo lo hi its.toArray.size;unfold slicePick;rw[h1,h2,h3];simp only[sliceRange_one,pick_run,ztj]<;>rfl
def zja(K:Frag):V->Option Int->Option Int->Hp->VK->Prop:=fun x lo hi H Q=>∃ a xs,x=.ref a/\SqL K H a xs/\∀ p,H p=none->Q (.ref p) (upd H p (.lst (En xs lo hi)))
theorem zfw:SlR X (zja X.K):=by
 intro pins s σ H x v vl vu lo hi sl Q I rx hs pl pu h;obtain⟨a,xs,rfl,hx,q⟩:=h;cases rx;obtain⟨its,r,ht,hz⟩:=I.list hx;have hlen:=r.length;refine⟨"list",_,slot_list_getitem.lookup,ht.isList.typeIs,?_⟩;refine wpAny_getItem_list_slice ht.isList hs pl pu .none (by simp) ?_ (by rw[ztj]<;>omega);rw[Gi,<- hlen];refine⟨.ref s.heap.objs.size,_,I.laid (t':=s.toks) (o:=.lst (En xs lo hi)) (fun b ob q=>Heap.get?_push_of_some _ q) (ztc _) ?_,rfl,q _ (I.hok.fresh (ztc _))⟩;exact⟨ztk (Co xs lo hi) hz,_,0,(r.drop (HT.sIx xs.length 0 lo)).take (HT.sIx xs.length xs.length hi-HT.sIx xs.length 0 lo),Heap.get?_push_size _ rfl⟩
def U4:V->Bool
 | .non=>true
 | .bl _=>true
 | .int _=>true
 | .str _=>true
 | _=>false
def eqV:V->V->Bool
 | .non,.non=>true
 | .bl a,.bl b=>a == b
 | .bl a,.int b=>(if a then 1 else 0) == b
 | .int a,.bl b=>a == (if b then 1 else 0)
 | .int a,.int b=>a == b
 | .str a,.str b=>a == b
 | _,_=>false
theorem zhm(ry:RelV y u)(rx:RelV x v)(fy:U4 y=true)(fx:U4 x=true):SeqAt.EqAt A s u v (eqV y x):=by
 cases y with
 | non =>
   cases ry;cases x with
   | non=>cases rx;exact SeqAt.EqAt.same _
   | bl b=>cases rx;exact SeqAt.EqAt.none_bool b
   | int b=>obtain⟨t,rfl⟩:=rx;exact SeqAt.EqAt.none_int b t
   | str b=>obtain⟨t,rfl⟩:=rx;exact SeqAt.EqAt.none_str b t
   | _=>exact absurd (show false=true from fx) ztv
 | bl a =>
   cases ry;cases x with
   | non=>cases rx;exact SeqAt.EqAt.bool_none a
   | bl b=>cases rx;exact SeqAt.EqAt.bool_bool a b
   | int b=>obtain⟨t,rfl⟩:=rx;exact SeqAt.EqAt.bool_int a b t
   | str b=>obtain⟨t,rfl⟩:=rx;exact SeqAt.EqAt.bool_str a b t
   | _=>exact absurd (show false=true from fx) ztv
 | int a =>
   obtain⟨t',rfl⟩:=ry;cases x with
   | non=>cases rx;exact SeqAt.EqAt.int_none a t'
   | bl b=>cases rx;exact SeqAt.EqAt.int_bool a t' b
   | int b=>obtain⟨t,rfl⟩:=rx;exact SeqAt.EqAt.int_int a t' b t
   | str b=>obtain⟨t,rfl⟩:=rx;exact SeqAt.EqAt.int_str a t' b t
   | _=>exact absurd (show false=true from fx) ztv
 | str a =>
   obtain⟨t',rfl⟩:=ry;cases x with
   | non=>cases rx;exact SeqAt.EqAt.str_none a t'
   | bl b=>cases rx;exact SeqAt.EqAt.str_bool a t' b
   | int b=>obtain⟨t,rfl⟩:=rx;exact SeqAt.EqAt.str_int a t' b t
   | str b=>obtain⟨t,rfl⟩:=rx;exact SeqAt.EqAt.str_str a t' b t
   | _=>exact absurd (show false=true from fx) ztv
 | _=>exact absurd (show false=true from fy) ztv
def eqU(x:V)(u:Value):Bool:=match u with
 | .none=>eqV .non x
 | .bool b=>eqV (.bl b) x
 | .int i _=>eqV (.int i) x
 | .str z _=>eqV (.str z) x
 | _=>false
theorem Ao(r:RelV y u)(f:U4 y=true):eqU x u=eqV y x:=by
 cases y with
 | non=>cases r;rfl
 | bl b=>cases r;rfl
 | int i=>obtain⟨t,rfl⟩:=r;rfl
 | str z=>obtain⟨t,rfl⟩:=r;rfl
 | _=>exact absurd (show false=true from f) ztv
theorem N8:∀ {xs:List V} {us:List Value},Vals xs us->xs.all U4=true->us.any (eqU x)=xs.any fun y=>eqV y x
 | _,_,.nil,_=>rfl
 | y :: xs,u :: us,.cons r t,f=>by
   rw[List.all_cons,zus] at f;rw[zvd,zvd,Ao r f.1,N8 t f.2]
theorem Rq(rx:RelV x v)(fx:U4 x=true):∀ {xs:List V} {us:List Value},Vals xs us->xs.all U4=true->∀ u∈us,SeqAt.EqAt A s u v (eqU x u)
 | _,_,.nil,_=>fun u hu=>by cases hu
 | y :: xs,u :: us,.cons r t,f=>fun u' hu=>by
   rw[List.all_cons,zus] at f;rcases ztf.mp hu with rfl|hu
   ·rw[Ao r f.1];exact zhm r rx f.1 fx
   ·exact Rq rx fx t f.2 u' hu
def inV(x:V)(xs:List V):Bool:=xs.any fun y=>eqV y x
inductive rIn(K:Frag)(neg:Bool)(x:V)(y:V)(H:Hp)(Q:VK):Prop where
 | mk(p)(xs)(_:y=.ref p)(_:(SqL K H p xs\/SqT K H p xs))(_:U4 x=true)(_:xs.all U4=true)(_:Q (.bl (if neg then !inV x xs else inV x xs)) H)
theorem zb6:OpR X (compareOp .In) (rIn X.K false):=by
 intro pins s σ H x y v u Q I rx ry h;obtain⟨p,xs,rfl,hq,fx,fs,q⟩:=h;cases ry;rcases hq with hq|hq
 ·obtain⟨its,r,pl,hz⟩:=I.list hq;refine SeqAt.in_listAt (eqU x) pl.isList (fun w hw=>Rq rx fx r fs w (by simpa using hw)) ⟨.bl _,H,I,rfl,?_⟩;rw[show its.toArray.any (eqU x)=its.any (eqU x) by simp,N8 r fs];exact q
 ·obtain⟨its,r,pl,hz⟩:=I.tuple hq;refine SeqAt.in_tupleAt (eqU x) pl (fun w hw=>Rq rx fx r fs w (by simpa using hw)) ⟨.bl _,H,I,rfl,?_⟩;rw[show its.toArray.any (eqU x)=its.any (eqU x) by simp,N8 r fs];exact q
theorem Ep:OpR X (compareOp .NotIn) (rIn X.K true):=by
 intro pins s σ H x y v u Q I rx ry h;obtain⟨p,xs,rfl,hq,fx,fs,q⟩:=h;cases ry;rcases hq with hq|hq
 ·obtain⟨its,r,pl,hz⟩:=I.list hq;refine SeqAt.notIn_listAt (eqU x) pl.isList (fun w hw=>Rq rx fx r fs w (by simpa using hw)) ⟨.bl _,H,I,rfl,?_⟩;rw[show its.toArray.any (eqU x)=its.any (eqU x) by simp,N8 r fs];exact q
 ·obtain⟨its,r,pl,hz⟩:=I.tuple hq;refine SeqAt.notIn_tupleAt (eqU x) pl (fun w hw=>Rq rx fx r fs w (by simpa using hw)) ⟨.bl _,H,I,rfl,?_⟩;rw[show its.toArray.any (eqU x)=its.any (eqU x) by simp,N8 r fs];exact q
theorem Er:Vy X (.builtin "len") (fun xs H Q=>∃ p ys,xs=[.ref p]/\(SqL X.K H p ys\/SqT X.K H p ys)/\Q (.int ys.length) H):=by
 intro pins s σ H xs us Q I r h;obtain⟨p,ys,rfl,hq,q⟩:=h;obtain⟨u,rfl,rx⟩:=To r;cases rx;have hn:=O7;rcases hq with hq|hq
 ·obtain⟨its,r',pl,hz⟩:=I.list hq;have hlen:=r'.length;exact Calls.call_len_list pl.isList (by simp only[ztj]<;>omega) ⟨.int ys.length,H,I.tok _,⟨s.toks+1,by rw[ztj,hlen]⟩,q⟩
 ·obtain⟨its,r',pl,hz⟩:=I.tuple hq;have hlen:=r'.length;exact len_tuple pl (by simp only[ztj]<;>omega) ⟨.int ys.length,H,I.tok _,⟨s.toks+1,by rw[ztj,hlen]⟩,q⟩
theorem Et:Vy X (.type "list") (fun xs H Q=>∃ p ys,xs=[.ref p]/\(SqL X.K H p ys\/SqT X.K H p ys)/\∀ l,H l=none->Q (.ref l) (upd H l (.lst ys))):=by
 intro pins s σ H xs us Q I r h;obtain⟨p,ys,rfl,hq,q⟩:=h;obtain⟨u,rfl,rx⟩:=To r;cases rx;have fin:∀ (its:List Value),Vals ys its->ys.length<=sizeLine->∀ (h':Heap) (c':Nat),(∀ b o',s.heap.get? b=some o'->h'.get? b=some o') ->
   h'.get? s.heap.objs.size=some { cls:=.type "list",dict:=none,data:=.seq its.toArray c',slots:=#[] }->EP X pins σ Q (.ref s.heap.objs.size) { s with heap:=h' }:=fun its r' hz h' c' kp e =>
  ⟨.ref s.heap.objs.size,_,I.laid (t':=s.toks) kp (ztc _) (show Yw X.prog X.w _ h' _ (.lst ys) from⟨hz,its,c',r',e⟩),rfl,q _ (I.hok.fresh (ztc _))⟩
 rcases hq with hq|hq
 ·obtain⟨its,r',pl,hz⟩:=I.list hq;have hlen:=r'.length;obtain⟨o,ho,hc,n,hd⟩:=pl.isList;exact call_list_seq p (.inl rfl) ho hc hd (fun h' c' kp e=>fin its r' hz h' c' kp e) (by simp only[ztj]<;>omega)
 ·obtain⟨its,r',pl,hz⟩:=I.tuple hq;have hlen:=r'.length;obtain⟨o,ho,hc,n,hd⟩:=pl;exact call_list_seq p (.inr rfl) ho hc hd (fun h' c' kp e=>fin its r' hz h' c' kp e) (by simp only[ztj]<;>omega)
theorem Gj:Vy X (.type "tuple") (fun xs H Q=>∃ p ys,xs=[.ref p]/\((SqL X.K H p ys/\∀ l,H l=none->Q (.ref l) (upd H l (.tup ys)))\/(SqT X.K H p ys/\Q (.ref p) H))):=by
 intro pins s σ H xs us Q I r h;obtain⟨p,ys,rfl,h⟩:=h;obtain⟨u,rfl,rx⟩:=To r;cases rx;rcases h with ⟨hq,q⟩|⟨hq,q⟩
 ·obtain⟨its,r',pl,hz⟩:=I.list hq;have hlen:=r'.length;refine call_tuple_list pl.isList (fun h' kp=>?_) (by simp only[ztj]<;>omega);have I1:Inv X pins σ H { s with heap:=h' }:=I.kept (t':=s.toks) kp;have I2:Inv X pins σ (upd H h'.objs.size (.tup ys)) { s with heap:=h'.push { cls:=.type "tuple",data:=.seq its.toArray } } :=
   I1.laid (t':=s.toks) (fun b o e=>Heap.get?_push_of_some _ e) (ztc _) (show Yw X.prog X.w _ _ _ (.tup ys) from⟨hz,its,r',IsTup.new _ _⟩)
  exact⟨.ref h'.objs.size,_,I2,rfl,q _ (I1.hok.fresh (ztc _))⟩
 ·obtain⟨its,r',pl,hz⟩:=I.tuple hq;exact call_tuple_same pl ⟨.ref p,H,I,rfl,q⟩
def tyV(K:Frag)(T:String)(x:V)(H:Hp):Prop:=match x with
 | .str _=>T="str"
 | .int _=>T="int"
 | .ref p=>(T="list"/\∃ xs,SqL K H p xs)\/(T="tuple"/\∃ o,K.lookup p=some o/\o.cls=.type "tuple"/\o.dict=none) \/
   (T="dict"/\((∃ kvs,H p=some (.dK kvs))\/∃ kvs,H p=some (.dT kvs)))\/(T="set"/\∃ S n,H p=some (.set S n))
 | _=>False
theorem Ap(I:Inv X pins σ H s)(r:RelV x v)(ty:tyV X.K T x H) :
  s.TypeIs v T/\∀ a,v=.ref a->∃ ob,s.heap.get? a=some ob/\ob.dict=none:=by
 cases x with
 | str z =>
   obtain⟨t,rfl⟩:=r;cases (show T="str" from ty);exact⟨typeIs_str s z t,fun _ e=>nomatch e⟩
 | int i =>
   obtain⟨t,rfl⟩:=r;cases (show T="int" from ty);exact⟨typeIs_int s i t,fun _ e=>nomatch e⟩
 | ref p =>
   cases r;rcases ty with ⟨rfl,xs,hq⟩|⟨rfl,o,hk,hc,hd⟩|⟨rfl,hk⟩|⟨rfl,S,n,hk⟩
   ·obtain⟨its,_,pl,_⟩:=I.list hq;refine⟨pl.isList.typeIs,fun a e=>?_⟩;cases e;obtain⟨o,n,e,c,hd,_⟩:=pl;exact⟨o,e,hd⟩
   ·refine⟨⟨o,I.kIn p o hk,hc⟩,fun a e=>?_⟩;cases e;exact⟨o,I.kIn _ o hk,hd⟩
   ·have z:∃ o,s.heap.get? p=some o/\o.ExactDict:=by
     rcases hk with ⟨kvs,hk⟩|⟨kvs,hk⟩
     ·obtain⟨_,_,_,_,o,_,_,e,ex,_⟩:=I.hok p _ hk;exact⟨o,e,ex⟩
     ·obtain⟨_,_,_,_,o,_,_,e,ex,_⟩:=I.hok p _ hk;exact⟨o,e,ex⟩
    obtain⟨o,e,ex⟩:=z;refine⟨⟨o,e,ex.1⟩,fun a e2=>?_⟩;cases e2;exact⟨o,e,ex.2.1⟩
   ·obtain⟨o,_,_,_,e,ex,_⟩:=I.hok p _ hk;refine⟨⟨o,e,ex.1⟩,fun a e2=>?_⟩;cases e2;exact⟨o,e,ex.2.1⟩
 | _=>exact False.elim ty
inductive zjb(K:Frag)(T:String)(r:V->List V->Hp->VK->Prop)(Q:VK)(x:V)(H1:Hp):Prop where
 | mk(_:tyV K T x H1)(_:r x [] H1 Q)
def zkf(K:Frag)(T:String)(r:V->List V->Hp->VK->Prop)(to:TE):TE:=fun σ H Q=>to σ H fun x H1=>zjb K T r Q x H1
inductive zkg(K:Frag)(T:String)(r:V->List V->Hp->VK->Prop)(t:TA)(σ:L2.St)(Q:VK)(x:V)(H1:Hp):Prop where
 | mk(_:tyV K T x H1)(_:t σ H1 fun xs H2=>r x xs H2 Q)
def tBM(K:Frag)(T:String)(r:V->List V->Hp->VK->Prop)(to:TE)(t:TA):TE:=fun σ H Q=>to σ H fun x H1=>zkg K T r t σ Q x H1
variable{o e:Expr}{es:List Expr}{to:TE}{t:TA}{name:Str}{apos cpos:Pos}{T id:String}{r:V->List V->Hp->VK->Prop}
theorem Aq(pa:PlainAttrs T)(slot:Slot T name id)(hty:typeOf (.builtin id)=pure (.type "method_descriptor"))(hm:MtR X id r)(ho:PE X o to)
  (hbase:attributeBase o name X.env (eval o X.env)=eval o X.env:=by rfl) (hline:(apos.endLine == cpos.line)=true:=by rfl):PE X (.Call (.Attribute o name apos) [] [] cpos) (zkf X.K T r to):=by
 intro pins s σ H Q I h;refine wpAny_Call_method0_late hbase hline (thn (ho pins s σ H _ I h) fun v s1 ⟨x,H1,I1,r1,ty,q1⟩=>?_);obtain⟨h1,h2⟩:=Ap I1 r1 ty;exact⟨T,id,pa,slot,hty,h1,h2,Calls.callWith_builtin rfl (PySem.evalArgs_none (hm pins s1 σ H1 x [] v [] Q I1 r1 .nil q1))⟩
theorem zax(pa:PlainAttrs T)(slot:Slot T name id)(hty:typeOf (.builtin id)=pure (.type "method_descriptor"))(hm:MtR X id r)(ho:PE X o to)(ha:PA X (e :: es) t)
  (hbase:attributeBase o name X.env (eval o X.env)=eval o X.env:=by rfl)
  (hfew:((backTo cpos (starEach (e :: es) X.env)).all (fun x=>!x.1)&&(backToKw cpos (keywordEach [] X.env)).all (fun x=>x.1.isSome)
   && decide ((e :: es).length+([]:List Keyword).length+(if ([]:List Keyword).isEmpty then 0 else 1)<30))=true:=by rfl)
  (hline:(apos.endLine == cpos.line)=true:=by rfl) (hs:starEach (e :: es) X.env=(false,eval e X.env) :: starEach es X.env:=by rfl) (hplain:(backTo cpos (starEach es X.env)).any (·.1)=false:=by rfl) :
  PE X (.Call (.Attribute o name apos) (e :: es) [] cpos) (tBM X.K T r to t):=by
 intro pins s σ H Q I h;refine wpAny_Call_method_late hbase hfew hline rfl (thn (ho pins s σ H _ I h) fun v s1 ⟨x,H1,I1,r1,ty,q1⟩=>?_);obtain⟨h1,h2⟩:=Ap I1 r1 ty;refine⟨T,id,pa,slot,hty,h1,h2,?_⟩;have hA:=ha cpos pins s1 σ H1 _ I1 q1;rw[hs] at hA ⊢;refine Calls.callWith_builtin (by show (false||(backTo cpos (starEach es X.env)).any (·.1))=false;rw[hplain]<;>rfl) (Calls.evalArgs_plain ?_);exact thn hA fun us s2 ⟨vs,H2,I2,r2,q2⟩=>hm pins s2 σ H2 x vs v us Q I2 r1 r2 q2
end
def MtM(X:Cx)(id:String)(r:V->List V->Hp->VK->Prop):Prop :=
 ∀ (pins:List (Addr×Obj)) (s:Shared) (σ:St) (H:Hp) (x:V) (xs:List V) (v:Value) (us:List Value) (Q:VK),Inv X pins σ H s->RelV x v->Vals xs us->r x xs H Q ->
   wpAny (model X.prog X.w) X.A (call (.builtin id) (v :: us)) (EP X pins σ Q) X.xe s
theorem Vals.one:∀ {x:V} {us:List Value},Vals [x] us->∃ u,us=[u]/\RelV x u
 | _,_,.cons r .nil=>⟨_,rfl,r⟩
theorem Vals.zero:∀ {us:List Value},Vals [] us->us=[]
 | _,.nil=>rfl
theorem Vals.dropLast(h:Vals xs us):Vals xs.dropLast us.dropLast:=by
 induction h with
 | nil=>exact .nil
 | cons r t ih =>
   cases t with
   | nil=>exact .nil
   | cons q t'=>exact .cons r ih
theorem Vals.reverse(h:Vals xs us):Vals xs.reverse us.reverse:=by
 induction h with
 | nil=>exact .nil
 | cons r t ih=>rw[zuu,zuu];exact Vals.append ih (.cons r .nil)
theorem Ar(l:List α):l.eraseIdx (l.length-1)=l.dropLast:=by
 induction l with
 | nil=>rfl
 | cons a r ih =>
   cases r with
   | nil=>rfl
   | cons b r =>
     have e:(a :: b :: r).length-1=((b :: r).length-1)+1:=by
      have h1:(a :: b :: r).length=r.length+2:=rfl;have h2:(b :: r).length=r.length+1:=rfl;omega
     rw[e,List.eraseIdx_cons_succ,ih]
     all_goals rfl
section
variable{X:Cx}{pins:List (Addr×Obj)}{σ:St}{H:Hp}{s:Shared}{l b:Addr}{xs ys zs:List V}
theorem Inv.lset{its its':List Value}{n:Nat}{f:Array Value->Array Value}{t':Nat}(I:Inv X pins σ H s)(hH:H l=some (.lst xs))
  (e:s.heap.get? l=some { cls:=.type "list",data:=.seq its.toArray n }) (hf:f its.toArray=its'.toArray) (hv:Vals ys its') (hz:ys.length<=sizeLine) :
  Inv X pins σ (upd H l (.lst ys)) { s with heap:=s.heap.update l (Obj.mapSeq f),toks:=t' }:=by
 have q:=PySem.IsL.update e f;rw[hf] at q;refine I.write (x:=l) (e:=l) (by rw[hH];exact trivial) (.inl rfl) (fun b' u hb hu=>(Heap.get?_update_other s.heap (Obj.mapSeq f) (Ne.symm hb)).trans hu) ⟨_,q⟩ ?_;exact⟨hz,its',_,hv,q⟩
theorem Inv.lnew(I:Inv X pins σ H s)(hv:Vals ys its)(hz:ys.length<=sizeLine) :
  Inv X pins σ (upd H s.heap.objs.size (.lst ys)) { s with heap:=s.heap.push { cls:=.type "list",data:=.seq its.toArray },toks:=t' } :=
 I.laid (fun _ _ q=>Heap.get?_push_of_some _ q) (ztc _) ⟨hz,its,0,hv,Heap.get?_push_size _ rfl⟩
theorem Inv.fresh(I:Inv X pins σ H s):H s.heap.objs.size=none:=I.hok.fresh (ztc _)
theorem Inv.lstM(I:Inv X pins σ H s)(hH:H l=some (.lst xs)):xs.length<=sizeLine/\∃ (its:List Value) (n:Nat),Vals xs its/\xs.length=its.length/\s.heap.get? l=some { cls:=.type "list",data:=.seq its.toArray n }:=by
 obtain⟨z,its,n,r,e⟩:=I.hok l _ hH;exact⟨z,its,n,r,r.length,e⟩
end
section
variable{X:Cx}
inductive zfx(x:V)(vs:List V)(H:Hp)(Q:VK):Prop where
 | mk(l)(xs)(y)(_:x=.ref l)(_:vs=[y])(_:H l=some (.lst xs))(_:xs.length<sizeLine)(_:Q .non (upd H l (.lst (xs++[y]))))
theorem zb7:MtM X "list.append" zfx:=by
 intro pins s σ H x vs v us Q I rx rv h;obtain⟨l,xs,y,rfl,rfl,hH,hz,q⟩:=h;cases rx;obtain⟨u,rfl,ru⟩:=rv.one;obtain⟨z,its,n,r,hl,e⟩:=I.lstM hH;refine call_meets F.slot_list_append ⟨_,e,rfl⟩ F.entry_list_append (F.args_list_append_2 _ _) (PySem.list_append l its.toArray n u (by rw[ztj];omega)) ⟨e,?_⟩;refine⟨.non,_,I.lset (its':=its++[u]) hH e (by simp) (r.append (.cons ru .nil)) ?_,rfl,q⟩;rw[zs8,List.length_singleton];omega
inductive zkh(x:V)(vs:List V)(H:Hp)(Q:VK):Prop where
 | mk(l)(xs)(y)(_:x=.ref l)(_:vs=[])(_:H l=some (.lst xs))(_:xs[xs.length-1]?=some y)(_:Q y (upd H l (.lst xs.dropLast)))
theorem zdt:MtM X "list.pop" zkh:=by
 intro pins s σ H x vs v us Q I rx rv h;obtain⟨l,xs,y,rfl,rfl,hH,hy,q⟩:=h;cases rx;have hus:=rv.zero;subst hus;obtain⟨z,its,n,r,hl,e⟩:=I.lstM hH;obtain⟨u,hu,ru⟩:=r.get hy;have hy':its.toArray[its.toArray.size-1]?=some u:=by
  show its.toArray[its.length-1]?=some u;rw[<- Array.getElem?_toList,<- hl];exact hu
 refine call_meets F.slot_list_pop ⟨_,e,rfl⟩ F.entry_list_pop (F.args_list_pop_1 _) (MeetsSeq.list_pop_last l its.toArray n u hy' (by rw[ztj];omega)) ⟨e,?_⟩;refine⟨y,_,I.lset (its':=its.dropLast) hH e ?_ r.dropLast ?_,ru,q⟩
 ·show its.toArray.eraseIdxIfInBounds (its.toArray.size-1)=its.dropLast.toArray;rw[ztj,List.eraseIdxIfInBounds_toArray,Ar]
 ·rw[List.length_dropLast];omega
inductive zdu(x:V)(vs:List V)(H:Hp)(Q:VK):Prop where
 | mk(l)(xs)(_:x=.ref l)(_:vs=[])(_:H l=some (.lst xs))(_:Q .non (upd H l (.lst xs.reverse)))
theorem As:MtM X "list.reverse" zdu:=by
 intro pins s σ H x vs v us Q I rx rv h;obtain⟨l,xs,rfl,rfl,hH,q⟩:=h;cases rx;have hus:=rv.zero;subst hus;obtain⟨z,its,n,r,hl,e⟩:=I.lstM hH;refine call_meets F.slot_list_reverse ⟨_,e,rfl⟩ F.entry_list_reverse (F.args_list_reverse_1 _) (AutoSeq1.list_reverse_list_0 l its.toArray n (by rw[ztj];omega)) ⟨e,?_⟩;refine⟨.non,_,I.lset (its':=its.reverse) hH e (by simp) r.reverse ?_,rfl,q⟩;rw[zu7];omega
inductive zki(x:V)(y:V)(H:Hp)(Q:VK):Prop where
 | mk(l)(b)(xs)(zs)(_:x=.ref l)(_:y=.ref b)(_:H l=some (.lst xs))(_:H b=some (.lst zs))(_:xs.length+zs.length<=sizeLine)(_:∀ p,H p=none->Q (.ref p) (upd H p (.lst (xs++zs))))
theorem Eu:OpR X (binaryOp .Add) zki:=by
 intro pins s σ H x y v u Q I rx ry h;obtain⟨l,b,xs,zs,rfl,rfl,hH,hB,hz,q⟩:=h;cases rx;cases ry;obtain⟨z,its,n,r,hl,e⟩:=I.lstM hH;obtain⟨z2,its2,n2,r2,hl2,e2⟩:=I.lstM hB;refine PySem.P.add_list e e2 ?_ (by rw[ztj,ztj];omega);have ea:its.toArray++its2.toArray=(its++its2).toArray:=by simp
 rw[ea];exact⟨.ref _,_,I.lnew (t':=s.toks) (r.append r2) (by rw[zs8];omega),rfl,q _ I.fresh⟩
end
end L2
namespace Att
open PySem PySem.W PySem.Calls PyProof.Rows
theorem Ks:∀ (ns:List Int) (vs:List Value),WellAll P h vs (ns.map WData.int)->IntsAre vs ns:=by
 intro ns
 induction ns with
 | nil =>
   intro vs w;rw[List.map_nil] at w;cases w;exact .nil
 | cons n ns ih =>
   intro vs w;rw[ztm] at w;cases w with
   | cons a b =>
     cases a;exact .cons _ _ (ih _ b)
theorem zb8{l:OpenLaw}{n:Nat}(hn:l.most=some n){P:Params}{h:Heap}{args:List WData}{vals:List Value}
  (hpre:l.row.toRowW.claim.pre args=true) (hwl:WellAll P h vals args) :
  ∃ a vs ns,vals=[Value.ref a]/\args=[WData.list (ns.map WData.int)]/\h.get? a=some { cls:=.type "list",data:=.seq vs.toArray }/\IntsAre vs ns/\ns.length<=n:=by
 have hsh:WShape.hasAll [] args [.list .int]=true:=(pre_splitW hpre).1;have hc:l.pre.holds [] { args:=args }=true:=(pre_splitW hpre).2;obtain⟨d,r,rfl,h1,h2⟩:=hasAllW_cons hsh;obtain rfl:=hasAllW_nil h2;obtain⟨xs,rfl,h3⟩:=hasW_list h1;obtain⟨ns,rfl⟩:=items_int h3;have hlen:ns.length<=n:=by
  unfold OpenLaw.pre at hc;have h4:(WTm.not (.lt (.lit (.int (n:Int))) (.len (.arg 0)))).holds [] { args:=[.list (ns.map .int)] }=true:=by
   have h4:=(holds_andW hc).1;rw[hn] at h4;exact h4
  have h5:=condW_of h4 (w_not (w_lt w_lit (w_len_list (w_arg rfl))));rw[zs4] at h5;refine Nat.le_of_not_lt fun q=>?_;have q':(n:Int)<((ns.length:Nat):Int):=by omega
  first
   | (rw[zta q'] at h5;exact absurd h5 ⋯)
   | (simp at h5;omega)
 cases hwl with
 | cons w1 w2 =>
   cases w2;cases w1 with
   | list ho hall=>exact⟨_,_,ns,rfl,rfl,ho,Ks ns _ hall,hlen⟩
theorem zb9(l:OpenLaw)(args:List WData):l.row.toRowW.claim.post args (.bool true) args=true :=
 postW_of (r:=l.row.toRowW) (X:=(true == true))
  (show WShape.has [] (.bool true) .bool=true by first|rfl|decide|simp[WShape.has,WShape.arms,WShape.armsAll])
  (show (WTm.eq .res (.lit (.bool true))).value [] { args:=args,res:=some (.bool true),after:=args }=some (.bool (true == true)) from w_eq_bool (w_res rfl) w_lit) rfl
theorem attach_call{l:OpenLaw}{n:Nat}{q:Program}{loose:List Str}{XP:(Str->Option Value)->Heap->Prop}{YP:World->Heap->Prop}{d:DefRec}
  (hn:l.most=some n) (hdf:d.params.defaults=[])
  (call:∀ (w:World) (s₀ s₁:Shared) (mg mb:Str->Option Value) (fa:Addr) (o:Obj) (pm cd doc:Value) (a:Addr) (vs:List Value) (ns:List Int),
   Ground q loose [] XP w s₀ mg mb s₁.heap->YP w s₁.heap ->
   s₁.heap.get? fa=some o->o.data=.func (docDef d.name d.params d.body d.scope pm cd doc)->s₁.heap.CodeRec cd d.name->mg d.name=some (.ref fa) ->
   s₁.heap.get? a=some { cls:=.type "list",data:=.seq vs.toArray }->IntsAre vs ns->ns.length<=n->s₁.gens=#[] ->
   codeAny (model l.prog w) callerA (.call (.ref fa) ⟨[.ref a],[]⟩) (fun r s'=>r=.ok (.ret (.bool true))/\OldK s₁.heap s'.heap/\s'.os=s₁.os/\AllBare s'.gens) s₁) :
  WalkO q loose XP YP l.row.toRowW d [] (fun f vs=>PySem.call f vs):=by
 intro w s₀ s₁ mg mb G Y fa o pm cd doc dV kV ho hd hcd hD hmg hg args vals as hpre hlay hrd hwl hlo;obtain rfl:dV=.none:=Dflts.none hD hdf;obtain rfl:kV=.none:=Dflts.noKw hD;obtain⟨a,vs,ns,rfl,rfl,hobj,hints,hlen⟩:=zb8 hn hpre hwl;refine enter_call (codeAny_mono (call w s₀ s₁ mg mb fa o pm cd doc a vs ns G Y ho (fd_plain hd) hcd hmg hobj hints hlen hg) fun r s' hq=>?_);obtain⟨rfl,h2,h3,h4⟩:=hq;exact⟨.inl ⟨.bool true,.bool true,[],rfl,fun _=>rfl,.bool true,zb9 l _,fun _=>⟨List.Pairwise.nil,fun _ hm=>(nomatch hm)⟩⟩,h2,h3,h4⟩
end Att
namespace L2
open PySem PySem.Spec PyProof.Rows
theorem M7:∀ {vs:List Value} {ns:List Int},IntsAre vs ns->Vals (ns.map V.int) vs
 | _,_,.nil=>.nil
 | _,_,.cons n t h=>.cons ⟨t,rfl⟩ (M7 h)
def zhn(H:Hp):Prop:=∀ b,H b=none\/∃ o xs,H b=some (.frz o (.lst xs))
theorem zdv{P:Program}{w:World}{K:Frag}{mg mb:Str->Option Value}{CX:CXT}{k:Nat}{fa a:Addr}{fd:FuncData}{x:Str}{sp:Sp}{s₁:Shared}{vs:List Value}{ns:List Int}
  (KX:K.In s₁.heap) (hns:s₁.heap.Ns mainGlobals mg) (hb:s₁.heap.Ns builtinsNs mb) (hbb:∀ x:Str,x≠"__name__"->mb x=bootBuiltins x) (hlim:s₁.heap.NoLimit) (hg:s₁.gens=#[])
  (ha:s₁.heap.get? a=some { cls:=.type "list",data:=.seq vs.toArray }) (hi:IntsAre vs ns) (hl:ns.length<=sizeLine) (hr:Vf k callerA)
  (F:∀ base:Heap,K.In base->base.Ns mainGlobals mg->FnOk P w K mg base CX k fa fd [x] sp) (hbind:∀ (s:Shared) (u:Value),BindsTo s fd ⟨[u],[]⟩ [(x,u)])
  (hsp:∀ H:Hp,zhn H->SqL K H a (ns.map V.int)->sp [.ref a] H (fun v _=>v=.bl true) fun _ _ _=>False)
  (hCX:∀ H e s',CX [] H s₁ (fun _ _ _=>False) e s'->False) :
  codeAny (model P w) callerA (.call (.ref fa) ⟨[.ref a],[]⟩) (fun r s'=>r=.ok (.ret (.bool true))/\OldK s₁.heap s'.heap/\s'.os=s₁.os/\AllBare s'.gens) s₁:=by
 have rv:=M7 hi;have lenV:=hi.length;have core:∀ H:Hp,zhn H->SqL K H a (ns.map V.int)->HOk P w H s₁.heap->(∀ b,H b≠none->b=a)->(H a≠none->K.lookup a=none) ->
   codeAny (model P w) callerA (.call (.ref fa) ⟨[.ref a],[]⟩) (fun r s'=>r=.ok (.ret (.bool true))/\OldK s₁.heap s'.heap/\s'.os=s₁.os/\AllBare s'.gens) s₁:=by
  intro H hO hS hok hA hK;have base_of:∀ {b:Addr} {o:Obj},s₁.heap.get? b=some o->H b=none->(Eg s₁.heap H).get? b=some o:=fun e n=>zc7 e n;have noA:∀ {b:Addr} {o:Obj} {es:Array DictEntry} {ep:Nat},s₁.heap.get? b=some o->o.data=.dict es ep->H b=none:=fun {b o es ep} e d=>by
   cases q:H b with
   | none=>rfl
   | some u =>
     have e':b=a:=hA b (by rw[q];simp);subst e';rw[ha] at e;cases e;have d':Data.seq vs.toArray _=Data.dict es ep:=d;cases d'
  have nsK:∀ {b:Addr} {m:Str->Option Value},s₁.heap.Ns b m->(Eg s₁.heap H).Ns b m:=fun {b m} ⟨o,es,ep,e,d,r⟩=>⟨o,es,ep,base_of e (noA e d),d,r⟩
  have hKb:K.In (Eg s₁.heap H):=fun b o e=>base_of (KX b o e) (by
   cases q:H b with
   | none=>rfl
   | some u =>
     have e':b=a:=hA b (by rw[q];simp);subst e';rw[hK (by rw[q];simp)] at e;cases e)
  have hM:Mod K mg (Eg s₁.heap H):=⟨hKb,nsK hns,⟨mb,nsK hb,hbb⟩,let ⟨mc,h1,h2⟩:=hlim;⟨mc,nsK h1,h2⟩⟩;have e0:Kr P w K mg (Eg s₁.heap H) callerA [] s₁ H:=⟨rfl,hM,fun b o e=>zfb e,Nat.le_of_eq (zbv _ _),trivial,fun b hb=>absurd (show b∈([]:List Addr) from hb) (by simp),hok,.of_eq hg⟩;refine codeAny_mono ((F _ hKb (nsK hns)).run callerA [] s₁ H ⟨[.ref a],[]⟩ [.ref a] [.ref a] _ _ hr e0 (hbind s₁ (.ref a)) (.cons rfl .nil) (hsp H hO hS)) fun r s' h=>?_;cases r with
  | error e=>exact(hCX H e s' h).elim
  | ok fl =>
    cases fl with
    | next=>exact False.elim h
    | brk=>exact False.elim h
    | cont=>exact False.elim h
    | ret u =>
      obtain⟨v,H',os,bare,un,hok',r',q⟩:=h;have q':v=.bl true:=q;subst q';obtain rfl:u=Value.bool true:=r';refine⟨rfl,OldK.of_keep fun b o e=>?_,os,bare⟩;cases q:H b with
      | none=>exact un.keep b o e q (by intro z;exact absurd (show b∈([]:List Addr) from z) (by simp)) (by simp)
      | some u =>
        rcases hO b with z|⟨ob,xs,z⟩
        ·rw[q] at z;cases z
        ·have z2:=un.frzs b ob _ z;obtain⟨e1,_⟩:=hok b _ z;obtain⟨e2,_⟩:=hok' b _ z2;rw[e] at e1;cases e1;exact e2
 cases hk:K.lookup a with
 | some o =>
   have e:=KX a o hk;rw[ha] at e;cases e;refine core (fun _=>none) (fun _=>.inl rfl) (.inr ⟨_,vs.toArray,_,hk,rfl,rfl,rfl,by rw[ztj,lenV];exact hl,by simpa using rv⟩) (fun b u z=>by have z':(none:Option HO)=some u:=z;cases z') (fun b z=>absurd rfl z) fun z=>absurd rfl z
 | none =>
   refine core (fun b=>if b=a then some (.frz { cls:=.type "list",data:=.seq vs.toArray } (.lst (ns.map V.int))) else none) (fun b=>?_) (.inl (.inr ⟨{ cls:=.type "list",data:=.seq vs.toArray },if_pos rfl⟩)) (fun b u z=>?_) (fun b z=>?_) fun _=>hk
   ·by_cases hb:b=a
    ·exact .inr ⟨_,_,if_pos hb⟩
    ·exact .inl (if_neg hb)
   ·by_cases hb:b=a
    ·have z':=(if_pos hb).symm.trans z;cases z';subst hb;exact⟨ha,by rw[zs4];exact hl,vs,_,rv,ha⟩
    ·have z':=(if_neg hb).symm.trans z;cases z'
   ·by_cases hb:b=a
    ·exact hb
    ·exact absurd (if_neg hb) z
theorem zfy{l:PySem.W.OpenLaw}{n k:Nat}{q:Program}{loose:List Str}{XP:(Str->Option Value)->Heap->Prop}{YP:World->Heap->Prop}{d:DefRec}{K:Params->Frag}{CX:World->CXT}{sp:World->Sp}{x:Str}
  (hn:l.most=some n) (hn2:n<=sizeLine) (hdf:d.params.defaults=[]) (hr:Vf k callerA)
  (hY:∀ (w:World) (h:Heap),YP w h->(K w.params).In h)
  (F:∀ (w:World) (mg:Str->Option Value) (fa:Addr) (h:Heap),(K w.params).In h->h.Ns mainGlobals mg->mg d.name=some (.ref fa) ->
   ∃ fd:FuncData,(∀ (s:Shared) (u:Value),BindsTo s fd ⟨[u],[]⟩ [(x,u)]) /\
     ∀ base:Heap,(K w.params).In base->base.Ns mainGlobals mg->FnOk l.prog w (K w.params) mg base (CX w) k fa fd [x] (sp w))
  (hsp:∀ (w:World) (H:Hp) (a:Addr) (ns:List Int),ns.length<=n->zhn H->SqL (K w.params) H a (ns.map V.int)->sp w [.ref a] H (fun v _=>v=.bl true) fun _ _ _=>False)
  (hCX:∀ (w:World) (H:Hp) (s:Shared) (e:Value) (s':Shared),CX w [] H s (fun _ _ _=>False) e s'->False) :
  PySem.W.WalkO q loose XP YP l.row.toRowW d [] (fun f vs=>PySem.call f vs):=by
 refine Att.attach_call hn hdf fun w s₀ s₁ mg mb fa o pm cd doc a vs ns G Y ho hd hcd hmg hobj hints hlen hg=>?_;have KX:=hY w _ Y;obtain⟨fd,hb,hF⟩:=F w mg fa _ KX G.T.g hmg;exact zdv KX G.T.g G.T.b G.T.builtins G.T.nolimit hg hobj hints (ztk hlen hn2) hr hF hb (fun H hO hS=>hsp w H a ns hlen hO hS) fun H e s'=>hCX w H s₁ e s'
def Z0(s:Stmt)(j:Nat):Stmt:=match s with
 | .ClassDef _ _ _ body _ _ _ _ _ _ _=>body.getD j (.Pass ⟨0,0,0,0⟩)
 | _=>.Pass ⟨0,0,0,0⟩
def Sj(s:Stmt):Arguments:=match s with
 | .FunctionDef _ a _ _ _ _ _ _ _ _=>a
 | _=>{ posonlyargs:=[],args:=[],vararg:=none,kwonlyargs:=[],kw_defaults:=[],kwarg:=none,defaults:=[] }
def Yt(s:Stmt):List Stmt:=match s with
 | .FunctionDef _ _ b _ _ _ _ _ _ _=>b
 | _=>[]
def Zi(s:Stmt):Scope:=match s with
 | .FunctionDef _ _ _ _ _ _ sc _ _ _=>sc
 | _=>{ kind:=.function,names:=[],isGenerator:=false,isCoroutine:=false }
abbrev E0:XK:=fun _ _ _=>False
structure Fun(K:Frag)(x qual:Str)(st:Stmt)(f:Addr)(fd:FuncData):Prop where
 ex:∃ (oc:Value) (od:Option Addr) (kV doc pm:Value) (an:Option Addr) (cdv ct:Value) (osl:Array (Option Value)),
  fd=PySem.W.fnOf x qual (Sj st) (Yt st) (Zi st) .none kV doc pm an cdv ct/\K.lookup f=some ⟨oc,od,.func fd,osl⟩/\PySem.W.codeIn K cdv qual=true
 kp:PySem.W.keepIn K (.ref f)=true
section
variable{P:Program}{w:World}{K:Frag}{mg:Str->Option Value}{base:Heap}
theorem Fun.binds{x qual:Str}{st:Stmt}{f:Addr}{fd:FuncData}{ps:List Str}(F:Fun K x qual st f fd)
  (h:∀ (kV doc pm:Value) (an:Option Addr) (cdv ct:Value) (us:List Value),us.length=ps.length->bindArgs (PySem.W.fnOf x qual (Sj st) (Yt st) (Zi st) .none kV doc pm an cdv ct) ⟨us,[]⟩=pure (ps.zip us)):Rn K fd ps []:=by
 obtain⟨oc,od,kV,doc,pm,an,cdv,ct,osl,rfl,lk,hcd⟩:=F.ex;exact .all (h kV doc pm an cdv ct)
theorem O9{x qual:Str}{st:Stmt}{f:Addr}{oc:Value}{od an:Option Addr}{osl:Array (Option Value)}{kV doc pm cdv ct:Value}(l:K.lookup f=some ⟨oc,od,.func (PySem.W.fnOf x qual (Sj st) (Yt st) (Zi st) .none kV doc pm an cdv ct),osl⟩)
  (c:PySem.W.codeIn K cdv qual=true) (k:PySem.W.keepIn K (.ref f)=true):Fun K x qual st f (PySem.W.fnOf x qual (Sj st) (Yt st) (Zi st) .none kV doc pm an cdv ct):=⟨⟨oc,od,kV,doc,pm,an,cdv,ct,osl,rfl,l,c⟩,k⟩
end
theorem Vg(hr:Vf k A):A.units+1<cLine:=zu4 (Nat.add_le_add_left (by decide:1<=64) _) hr.units
theorem Yn(h:n<=1000):n<sizeLine:=zu4 h ⋯
section
variable{X:Cx}
theorem pv(i:Nat)(hN:X.N[i]?=some x:=by rfl)(hv:Vis X.env.scope x:=by first|exact Or.inl rfl|exact Or.inr (Or.inl rfl)|exact Or.inr (Or.inr rfl))(hd:(x == ("__debug__":Str))=false:=by decide)
  (hcd:(x == ("__classdict__":Str))=false:=by decide):PE X (.Name x pos) (tVar i):=zgz hN hv hd hcd
theorem zca:Vy X (.builtin "len") (fun xs H Q=>∃ a kvs,xs=[V.ref a]/\H a=some (.dK kvs)/\Q (.int kvs.length) H):=by
 intro pins s σ H xs us Q I r h;obtain⟨a,kvs,rfl,ha,q⟩:=h;obtain⟨u,rfl,ru⟩:=To r;cases ru;exact zi3 I (.inl ha) fun t s' I'=>⟨.int kvs.length,H,I',⟨t,rfl⟩,q⟩
end
theorem iteF{A B:Prop}(h:B):if false=true then A else B:=by
 rw[if_neg ztv];exact h
theorem iteT{A B:Prop}(h:A):if true=true then A else B:=by
 rw[if_pos rfl];exact h
theorem Ew{c A B:Prop}[Decidable c](h1:c->A)(h2:¬ c->B):if c then A else B:=by
 by_cases h:c
 ·rw[if_pos h];exact h1 h
 ·rw[if_neg h];exact h2 h
def Same(H H':Hp):Prop:=∀ b o,H b=some o->H' b=some o
theorem Same.refl(H:Hp):Same H H:=fun _ _ h=>h
theorem Same.trans(a:Same H H1)(b:Same H1 H2):Same H H2:=fun c o h=>b c o (a c o h)
theorem Same.free(e:Same H H')(h:H' l=Option.none):H l=Option.none:=by
 cases q:H l with
 | none=>rfl
 | some o =>
   rw[e l o q] at h;cases h
theorem Same.seq{K:Frag}{H H':Hp}{a:Addr}{xs:List V}(e:Same H H')(h:SqL K H a xs):SqL K H' a xs:=by
 rcases h with (h|⟨o,h⟩)|h
 ·exact .inl (.inl (e _ _ h))
 ·exact .inl (.inr ⟨o,e _ _ h⟩)
 ·exact .inr h
section
variable{κ:Type}[DecidableEq κ]
theorem Jj:∀ {l:List κ} {k:κ},l.Nodup->¬ k∈l->(l++[k]).Nodup
 | [],k,_,_=>by simp
 | a :: r,k,h,hk=>by
   obtain⟨h1,h2⟩:=zt0.mp h;show (a :: (r++[k])).Nodup;refine zt0.mpr ⟨fun m=>?_,Jj h2 fun m=>hk (ztf.mpr (Or.inr m))⟩;rcases ztg.mp m with q|q
   ·exact h1 q
   ·exact hk (ztf.mpr (Or.inl (zs9.mp q).symm))
theorem zcb{p:κ×V}{r:List (κ×V)}{k:κ}(e:p.1=k):X5 (p :: r) k=X5 r k:=by
 unfold X5;rw[zt8,if_neg (by simp[e])]
theorem zcc{p:κ×V}{r:List (κ×V)}{k:κ}(e:¬ p.1=k):X5 (p :: r) k=p :: X5 r k:=by
 unfold X5;rw[zt8,if_pos (by simp[e])]
end
section
variable{P:Program}{w:World}{H H':Hp}{h h' g:Heap}{a:Addr}{o:HO}
theorem Yw.there(x:Yw P w H h a o):∃ ob,h.get? a=some ob:=by
 cases o with
 | lst xs=>obtain⟨_,_,_,_,e⟩:=x;exact⟨_,e⟩
 | tup xs=>obtain⟨_,_,_,ob,e,_⟩:=x;exact⟨_,e⟩
 | dK kvs=>obtain⟨_,_,_,_,o,_,_,e,_⟩:=x;exact⟨_,e⟩
 | dT kvs=>obtain⟨_,_,_,_,o,_,_,e,_⟩:=x;exact⟨_,e⟩
 | set S n=>obtain⟨o,_,_,_,e,_⟩:=x;exact⟨_,e⟩
 | ins C dx fs=>obtain⟨_,_,_,e,_⟩:=x;exact⟨_,e⟩
 | own y=>obtain⟨_,e⟩:=x;exact⟨_,e⟩
 | xd fs=>obtain⟨_,⟨_,_,_,e,_⟩,_⟩:=x;exact⟨_,e⟩
 | rng lo hi=>obtain⟨_,_,_,e⟩:=x;exact⟨_,e⟩
 | frz ob u=>obtain⟨e,_⟩:=x;exact⟨_,e⟩
 | tbl ps=>exact⟨_,(show h.get? a=some _ from x)⟩
 | met f y=>exact⟨_,(show h.get? a=some _ from x)⟩
 | ext φ=>obtain⟨_,⟨_,e⟩,_⟩:=x;exact⟨_,e⟩
theorem HOk.none_of(x:HOk P w H h)(e:h.get? a=none):H a=none:=by
 cases q:H a with
 | none=>rfl
 | some u =>
   obtain⟨_,z⟩:=(x a u q).there;rw[e] at z;cases z
theorem Cq(e:(PySem.W.hideAll h as).get? a=none):h.get? a=none\/a∈as:=by
 by_cases m:a∈as
 ·exact .inr m
 ·cases q:h.get? a with
  | none=>exact .inl rfl
  | some o=>rw[PySem.W.hideAll_get as q m] at e;cases e
end
structure Fly(g:Heap)(H:Hp)(h:Heap)(e T:Addr)(cls:Value):Prop where
 ex:∃ oe vs oT ts,h.get? e=some oe/\oe.cls=cls/\oe.data=.fields vs/\vs[1]?=some (.ref T)/\T≠e/\h.get? T=some oT/\oT.data=.fields ts/\ts[3]?=some .none
 newE:g.get? e=none
 newT:g.get? T=none
 freeE:H e=none
 freeT:H T=none
def CX1(P:Program)(w:World):CXT:=fun outer H s E e s'=>∃ a T cls H',e=.ref a/\s'.os=s.os/\AllBare s'.gens/\Un (frs outer) [] H H' s.heap s'.heap/\HOk P w H' s'.heap/\Fly s.heap H' s'.heap a T cls/\E cls none H'
section
variable{X:Cx}{pins:List (Addr×Obj)}{σ:St}{H H':Hp}{s s':Shared}{h':Heap}{e T:Addr}{cls:Value}
structure Na(X:Cx)(ch:List Addr)(h h':Heap):Prop where
 keep:∀ b o,h.get? b=some o->b∉ch->b∉frs X.stack->h'.get? b=some o
 slot:∀ b o,h.get? b=some o->b∉ch->b∈frs X.stack->∃ sl,h'.get? b=some { o with slots:=sl }
theorem Na.of(I:Inv X pins σ H s)(st:(PySem.W.hideAll s.heap (as++frs X.stack)).StaysIn h')(up:s.heap.UpToSlots h'):Na X as s.heap h' where
 keep:=fun b o q n1 n2=>st b o (PySem.W.hideAll_get _ q (by simp[n1,n2]))
 slot:=fun b o q _ m=>by
  obtain⟨_,o',ho,nf⟩:=I.stack.mem m;rw[q] at ho;cases ho;exact up b o q nf
theorem Na.hok(I:Inv X pins σ H s)(t:Na X ch s.heap h')(hch:∀ b∈ch,H b=none):HOk X.prog X.w H h':=fun b u q=>by
 have tr:∀ c v,H c=some v->c∉ch/\c∉frs X.stack:=fun c v z=>⟨(fun m=>by rw[hch c m] at z;cases z),(fun m=>by rw[I.stkFree c m] at z;cases z)⟩
 refine(I.hok b u q).stay (fun c v hc r=>?_) (fun _ z=>z) fun _ _ z=>z;rcases hc with z|z
 ·subst z;exact t.keep c v r (tr c u q).1 (tr c u q).2
 ·exact t.keep c v r (tr c _ z).1 (tr c _ z).2
theorem Inv.raised(I:Inv X pins σ H s)(ho:s'.os=s.os)(hg:AllBare s'.gens)(u:Un (frs X.stack) [] H H' s.heap s'.heap)(hok:HOk X.prog X.w H' s'.heap):Inv X pins σ H' s' :=
 I.call' ho u hok hg (fun _ z=>nomatch z)
theorem Fly.flying(J:Inv X pins σ H s)(hl:s.heap.FunFrames X.base l)(hsub:∀ b∈frs l,b∈frs X.stack)(F:Fly g H s.heap e T cls) :
  ∃ a0,Heap.FlyingW (PySem.W.hideAll s.heap ([e,T]++frs X.stack)) l e cls a0 s.heap:=by
 obtain⟨oe,vs,oT,ts,e1,e2,e3,e4,e5,e6,e7,e8⟩:=F.ex;have sz:0<vs.size:=zu4 (zt6 _) (Array.getElem?_eq_some_iff.mp e4).1;refine⟨vs[0],fun b o q=>PySem.W.of_hideAll _ q,PySem.W.hideAll_none _ (by simp),PySem.W.funFrames_hide hl fun env he a ha=>?_,oe,vs,T,oT,ts,e1,⟨e2,?_⟩,e3,e4,PySem.W.hideAll_none _ (by simp),e5,e6,e7,e8⟩
 ·have:a∈frs l:=zu3.mpr ⟨env,he,ha⟩;simp[hsub a this]
 ·exact Array.getElem?_eq_getElem sz
theorem Fly.again(J:Inv X pins σ H s)(F:Fly g H s.heap e T cls)(hg:∀ b,s.heap.get? b=none->g.get? b=none)
  (up:s.heap.UpToSlots h') (st:(PySem.W.hideAll s.heap ([e,T]++frs X.stack)).StaysIn h') (tr:h'.TracedW (PySem.W.hideAll s.heap ([e,T]++frs X.stack)) e cls a0):∃ T',Fly g H h' e T' cls:=by
 obtain⟨oe,vs,T',oT,ts,f1,⟨f2,_⟩,f3,f4,f5,f6,f7,f8,f9⟩:=tr;refine⟨T',⟨oe,vs,oT,ts,f1,f2,f3,f4,f6,f7,f8,f9⟩,F.newE,?_,F.freeE,?_⟩
 all_goals
  rcases Cq f5 with z|z
  ·first
    | exact hg _ z
    | exact J.hok.none_of z
  ·simp only[ztg,ztf,zue,or_false] at z;rcases z with (z|z)|z
   ·exact absurd z f6
   ·subst z
    first
     | exact F.newT
     | exact F.freeT
   ·obtain⟨_,o,ho,nf⟩:=J.stack.mem z;obtain⟨sl,q⟩:=up T' o ho nf;rw[f7] at q;cases q;exact absurd f8 (nf _)
end
section
variable{P:Program}{w:World}{K:Frag}{mg:Str->Option Value}{base:Heap}{N:List Str}{qual:Str}{scope:Scope}{f:Addr}{cd:Value}{A:Around}{outer:List Env}{s0:Shared}{H0:Hp}{E:XK}
 {pins:List (Addr×Obj)} {σ:St} {H H':Hp} {s s':Shared} {h':Heap} {e T:Addr} {cls:Value}
theorem Cr(hx:X.ex=[])(J:Inv X pins σ H s)(hst:X.stack=X.env :: X.outer)(hf:X.env.frame=some X.env.locals)(t:Na X ch s.heap h')(hch:∀ b∈ch,X.s₀.heap.get? b=none) :
  Un X.fs [] X.H₀ H X.s₀.heap h':=by
 have nb:∀ b o,X.s₀.heap.get? b=some o->b∉ch:=fun b o q m=>by rw[hch b m] at q;cases q
 have mem:∀ b,b∈frs X.stack↔b=X.env.locals\/b∈X.fs:=fun b=>by
  unfold Cx.fs frs;rw[hst,zu6,hf];exact ztf
 have neL:∀ b o,X.s₀.heap.get? b=some o->b≠X.env.locals:=fun b o q=>zts (ztn (Heap.lt_size q) J.ok.above);have nx:∀ b:Addr,b∉X.ex:=fun b=>by rw[hx];simp
 refine⟨fun b o q n hb _=>?_,fun b o q n hb _=>?_,fun b o q n _=>J.base.free b o q n (nx b),fun b o q _=>?_,J.base.tups,J.base.frzs,J.base.tbls⟩
 ·refine t.keep b o (J.base.keep b o q n hb (nx b)) (nb b o q) fun m=>?_;exact((mem b).mp m).elim (neL b o q) hb
 ·obtain⟨sl,z⟩:=J.base.slot b o q n hb (nx b);obtain⟨sl',z'⟩:=t.slot b _ z (nb b o q) ((mem b).mpr (.inr hb));exact⟨sl',z'⟩
 ·obtain⟨o',z⟩:=J.base.there b o q (nx b);by_cases m:b∈frs X.stack
  ·obtain⟨_,z'⟩:=t.slot b o' z (nb b o q) m;exact⟨_,z'⟩
  ·exact⟨o',t.keep b o' z (nb b o q) m⟩
theorem Zj:Vn (CX1 P w) (cxOf (CX1 P w) P w K mg base N qual scope f cd A outer s0 H0 E) E:=by
 intro pins σ H s ev s' I h;obtain⟨a,T,cls,H',q0,ho,hg,u,hok,F,hE⟩:=h;subst q0;have J:=I.raised ho hg u hok;obtain⟨a0,hfl⟩:=F.flying J J.stack (fun _ z=>z);refine wpAny_leaves_onW (base:=PySem.W.hideAll s'.heap ([a,T]++frs _)) J.ok.frames rfl hfl fun h2 hfl2 up=>?_;have old:∀ b,s.heap.get? b=none->s0.heap.get? b=none:=fun b n=>by
  cases q:s0.heap.get? b with
  | none=>rfl
  | some o =>
    obtain⟨_,z⟩:=I.base.there b o q (by show b∉([]:List Addr);simp);rw[n] at z;cases z
 have old2:∀ b,s'.heap.get? b=none->s0.heap.get? b=none:=fun b n=>by
  cases q:s0.heap.get? b with
  | none=>rfl
  | some o =>
    obtain⟨_,z⟩:=J.base.there b o q (by show b∉([]:List Addr);simp);rw[n] at z;cases z
 have t:=Na.of (as:=[a,T]) J hfl2.1 up;have F0:Fly s0.heap H' s'.heap a T cls:=⟨F.ex,old _ F.newE,old _ F.newT,F.freeE,F.freeT⟩;obtain⟨T',F'⟩:=F0.again J old2 up hfl2.1 hfl2.2.2.2;refine⟨a,T',cls,H',rfl,J.os,J.bare,Cr rfl J rfl rfl t ?_,t.hok J ?_,F',hE⟩
 ·intro b hb;rcases ztf.mp hb with rfl|hb
  ·exact F0.newE
  ·rcases ztf.mp hb with rfl|hb
   ·exact F0.newT
   ·cases hb
 ·intro b hb;rcases ztf.mp hb with rfl|hb
  ·exact F.freeE
  ·rcases ztf.mp hb with rfl|hb
   ·exact F.freeT
   ·cases hb
def zgm(X:Cx)(E:XK):Prop:=∀ (pins:List (Addr×Obj)) (σ:St) (H:Hp) (s:Shared) (h':Heap) (e C:Addr) (args:List Value),Inv X pins σ H s->Heap.MadeExcOf s.heap h' e (.ref C) args->E (.ref C) none H->X.xe (.ref e) { s with heap:=h' }
theorem Xd:zgm (cxOf (CX1 P w) P w K mg base N qual scope f cd A outer s0 H0 E) E:=by
 intro pins σ H s h1 e C args I hm hE;refine wpAny_leaves_madeW (base:=PySem.W.hideAll s.heap ([]++frs _)) (h:=s.heap) I.ok.frames rfl (fun b o q=>PySem.W.of_hideAll _ q)
  (PySem.W.funFrames_hide I.stack fun env he a ha=>by
   have:a∈frs _:=zu3.mpr ⟨env,he,ha⟩
   simpa using this) hm fun h2 t hfl _ _ up=>?_
 have up2:s.heap.UpToSlots h2:=(Heap.UpToSlots.of_keeps hm.keeps).trans up;have tt:=Na.of (as:=[]) I hfl.1 up2;have old2:∀ b,s.heap.get? b=none->s0.heap.get? b=none:=fun b n=>by
  cases q:s0.heap.get? b with
  | none=>rfl
  | some o =>
    obtain⟨_,z⟩:=I.base.there b o q (by show b∉([]:List Addr);simp);rw[n] at z;cases z
 obtain⟨oe,vs,T',oT,ts,f1,⟨f2,_⟩,f3,f4,f5,f6,f7,f8,f9⟩:=hfl.2.2.2;have nT:s.heap.get? T'=none:=by
  rcases Cq f5 with z|z
  ·exact z
  ·have z':T'∈frs (cxOf (CX1 P w) P w K mg base N qual scope f cd A outer s0 H0 E).stack:=(ztg.mp z).resolve_left (by simp);obtain⟨_,o,ho,nf⟩:=I.stack.mem z';obtain⟨sl,q⟩:=up2 T' o ho nf;rw[f7] at q;cases q;exact absurd f8 (nf _)
 refine⟨e,T',.ref C,H,rfl,I.os,I.bare,Cr rfl I rfl rfl tt (fun _ z=>nomatch z),tt.hok I (fun _ z=>nomatch z),⟨⟨oe,vs,oT,ts,f1,f2,f3,f4,f6,f7,f8,f9⟩,old2 _ hm.new,old2 _ nT,I.hok.none_of hm.new,I.hok.none_of nT⟩,hE⟩
end
structure Q9(K:Frag)(mg:Str->Option Value)(x:Str)(C:Addr):Prop where
 nm:mg x=some (.ref C)
 ex:PySem.W.excIn K C [.type "ValueError",.type "Exception",.type "BaseException",.type "object"] "ValueError.__new__"=true
theorem Q9.own{K:Frag}{mg:Str->Option Value}{x:Str}{C:Addr}{h:Heap}(c:Q9 K mg x C)(X:K.In h):OwnCls x C [.type "ValueError",.type "Exception",.type "BaseException",.type "object"] "ValueError.__new__" mg h:=by
 refine⟨c.nm,?_⟩;have q:=c.ex;unfold PySem.W.excIn at q;split at q
 ·rename_i dd cd sl ho;split at q
  ·rename_i C' bm k0 k1 k2 k3 n k5 hm hs;simp only[zus,beq_iff_eq,zvb] at q;obtain⟨⟨⟨⟨⟨rfl,rfl⟩,hdel⟩,ht⟩,hok⟩,hni⟩:=q;obtain⟨nm,bs,mro,ns,qn,hd,sn,sub,ab,col,del⟩:=cd;dsimp only at hm hdel hok hni;subst hm hdel;have hsl:sl=#[k0,k1,k2,k3,some (.builtin "ValueError.__new__"),k5]:=by
    obtain⟨l⟩:=sl;simp only at hs;rw[hs]
   subst hsl;exact⟨bm,ns,nm,qn,bs,hd,sn,sub,ab,col,dd,k0,k1,k2,k3,k5,_,X _ _ ho,.of_isNs (PySem.W.isNs_of_in X hok),PySem.W.nsMap_none_of_in X hok hni,PySem.W.tail_of_in X ht⟩
  ·cases q
 ·cases q
inductive zfz(C:Addr)(E:XK)(vs:List V)(H1:Hp):Prop where
 | mk(_:vs.length<=sizeLine)(_:E (.ref C) none H1)
def zho(C:Addr)(E:XK)(t:TA):TS:=fun _ σ H=>t σ H fun vs H1=>zfz C E vs H1
theorem Xe{X:Cx}{x:Str}{C:Addr}{E:XK}{e₀:Expr}{rest:List Expr}{t:TA}{np cpos pos:Pos}(hl:zgm X E)(hc:X.calm=true)(c:Q9 X.K X.mg x C)(hg:Gl X x)(ha:PA X (e₀ :: rest) t)
  (he:starEach (e₀ :: rest) X.env=(false,eval e₀ X.env) :: starEach rest X.env:=by rfl) (hplain:(backTo cpos (starEach rest X.env)).any (·.1)=false:=by rfl) (hd:(x == ("__debug__":Str))=false:=by decide) :
  PS X (.Raise (some (.Call (.Name x np) (e₀ :: rest) [] cpos)) none pos) (zho C E t):=by
 intro pins s σ H D I h;have O:=c.own I.mod.kin;obtain⟨tl,N,nm,q,bs,hdct,sn,sub,ab,col,dd,k0,k1,k2,k3,k5,mN,hC,hN,hni,T⟩:=O.obj;refine wpAny_Raise_call_subT (C:=C) (nm:=nm) (q:=q) (N:=N) (bs:=bs) (bm:=tl) (hdct:=hdct) (sn:=sn) (sub:=sub) (ab:=ab) (col:=col) (dd:=dd) (k0:=k0) (k1:=k1) (k2:=k2) (k3:=k3) (k5:=k5)
  PySem.F.excBase_ValueError (mN:=mN) (T.hasType (by rfl)) (I.ok.hd hc) (by rw[he];show (false||(backTo cpos (starEach rest X.env)).any (·.1))=false;rw[hplain];rfl) hni (N6 I hg c.nm ⟨rfl,?_⟩ hd)
 have hp:=ha cpos pins s σ H _ I h;rw[he] at hp ⊢;refine Calls.evalArgs_plain (wpAny_mono hp (fun us s2 h2=>?_) fun _ _ y=>y);obtain⟨vs,H1,I1,r,hlen,hE⟩:=h2;exact⟨rfl,by rw[<- r.length];exact hlen,I1.bk _ _ hC,hN.keeps I1.bk,T.keeps I1.bk,fun h' e hm=>hl _ _ _ _ _ _ _ _ I1 hm hE⟩
structure zkx(K:Frag)(CB:Addr):Prop where
 ty:PySem.W.typeIn K (.ref CB)=some (.type "type")
 cl:(PySem.W.clsIn K CB).isSome=true
 bx:PySem.W.mroIn K CB (.type "BaseException")=some true
end L2
namespace L2
open PySem PySem.Spec PyProof.Rows PySem.W PySem.Calls PySem.Builtin PySem.Builtin.ObjectAttr PySem.Builtin.Getset_descriptor
def zjc(a:Addr)(cls:Value):HO:=.ext fun h=>∃ o vs,h.get? a=some o/\o.cls=cls/\o.data=.fields vs
structure zcd(K:Frag)(D:Addr):Prop where
 ga:findIn K (.ref D) "__getattribute__"=some (some (.builtin "BaseException.__getattribute__"))
 gk:findIn K (.ref D) "__getattr__"=some none
 cl:(clsIn K D).isSome=true
 at_:findIn K (.ref D) "__class__"=some (some (.builtin "object.__class__"))
 gt:specialIn K (.builtin "object.__class__") "__get__"=some (some (.builtin "getset_descriptor.__get__"))
 tk:takesIn K (.builtin "object.__class__")=some true
 mo:mroIn K D (.type "object")=some true
 mx:mroIn K D (.type "BaseException")=some true
section
variable{prog:Program}{w:World}{A:Around}{E:Value->Shared->Prop}{s:Shared}{K:Frag}{x D:Addr}
theorem zdw(X:K.In h)(c:zcd K D):Looks M h (find (.ref x) (.ref D) "__class__") (.bind (.builtin "getset_descriptor.__get__") (.builtin "object.__class__")):=by
 have L1:=looks_findIn (M:=M) X c.at_;have L2:Looks M h (getOf (some (.builtin "object.__class__"))) (some (.builtin "getset_descriptor.__get__")):=looks_specialIn X c.gt;have L3:=looks_takesIn (M:=M) X c.tk;exact L1.andThen (L2.andThen ((show Looks M h (dataDescriptor? (some (.builtin "object.__class__")) (some (.builtin "getset_descriptor.__get__"))) (some (.builtin "getset_descriptor.__get__",.builtin "object.__class__")) from L3.andThen .now).andThen (Looks.tag .now)))
theorem Au(X:K.In s.heap)(hx:s.heap.get? x=some o)(hc:o.cls=.ref D)(c:zcd K D)(q:R (.ok (.ret (.ref D))) s) :
  codeAny (model prog w) A (.call (.builtin "getset_descriptor.__get__") ⟨[.builtin "object.__class__",.ref x,.ref D],[]⟩) R s:=by
 obtain⟨hh,g,d,t,os⟩:=s;have L0:Looks (model prog w) hh (typeOf (.ref x)) (.ref D):=hc▸(Looks.ld hx).andThen .now;have Lm:=looks_mroIn (M:=model prog w) X c.mo;refine codeAny_call_builtin KF.slot_gs.plain KF.entry_gs (KF.slot_gs.check _ _ _ _ _ _ _ _ KF.type_class (KF.args_gs _ _ _) ?_);unfold Builtin.«getset_descriptor.__get__» descrGet;rw[dga_obj];refine wpAny_bind (wpAny_pure ?_);unfold descrGetter descrCheckInstance descrNameAndClass isInstance;simp only[KF.owner_class]
 repeat lk
 refine⟨Code.quiet_builtin _ ⋯,codeAny_builtin KF.entry_class ?_⟩;unfold Builtin.«object.__class__» shownTypeOf
 repeat lk
 exact q
theorem zhp(X:K.In s.heap)(hx:s.heap.get? x=some o)(hc:o.cls=.ref D)(c:zcd K D)(q:Q (.done (.ret (.ref D))) s) :
  wpAny (model prog w) A (Builtin.«object.__getattribute__» ⟨[.ref x,.str "__class__" tk],[]⟩) Q E s:=by
 have L0:Looks (model prog w) s.heap (typeOf (.ref x)) (.ref D):=hc▸(Looks.ld hx).andThen .now;have Lf:=zdw (x:=x) (M:=model prog w) X c;have e1:slotArgs "__getattribute__" 1 ⟨[.ref x,.str "__class__" tk],[]⟩=pure (.ref x,[.str "__class__" tk]):=rfl;unfold Builtin.«object.__getattribute__»;rw[e1];refine wpAny_bind (wpAny_pure ?_);refine wpAny_bind (show wpAny _ _ (attrName (.str "__class__" tk)) _ _ _ from wpAny_pure ?_);obtain⟨hh,g,d,t,os⟩:=s;refine wpAny_bind (L0.at (wpAny_bind (Lf.at ?_)));show wpAny _ _ (bindTo _ _ _ _) _ _ _;unfold bindTo;dsimp only;refine wpAny_bind (wpAny_holding (wpAny_call (Au X hx hc c ?_)));exact wpAny_pure q
theorem Gk(X:K.In s.heap)(hx:s.heap.get? x=some o)(hc:o.cls=.ref D)(c:zcd K D)(q:Q (some (.ref D)) { s with toks:=s.toks+1 }) :
  wpAny (model prog w) A (getAttr? (.ref x) "__class__") Q E s:=by
 obtain⟨hh,g,d,t,os⟩:=s;have L0:Looks (model prog w) hh (typeOf (.ref x)) (.ref D):=hc▸(Looks.ld hx).andThen .now;have La:=looks_findIn (M:=model prog w) X c.ga;have Lk:=looks_findIn (M:=model prog w) X c.gk;have Lx:=looks_mroIn (M:=model prog w) X c.mx;have hb:=PySem.F.attr_ValueError.ga.bind (.ref x);have hne0:(Value.builtin "BaseException.__getattribute__" == Value.builtin "object.__getattribute__")=false:=by decide +kernel
 have hne:(onTheHeap (Value.ref D)&&Value.builtin "BaseException.__getattribute__" == Value.builtin "object.__getattribute__")=false:=by rw[hne0];rfl
 unfold getAttr? getAttrBy? getAttrBy;refine wpAny_bind (wpAny_mkText (wpAny_bind (wpAny_attempt (wpAny_holding (wpAny_bind (L0.at (wpAny_bind (La.at ?_))))))));dsimp only;rw[if_neg (by rw[hne];decide)];unfold getAttrByItsOwn;refine wpAny_bind (show wpAny _ _ (typeLookup (.ref D) "__getattr__") _ _ _ from Lk.at ?_);refine wpAny_bind (wpAny_attempt (wpAny_holding ?_));show wpAny _ _ (boundAndCalled _ _ _) _ _ _;unfold boundAndCalled;rw[hb];refine wpAny_bind (wpAny_pure (wpAny_call ?_));refine codeAny_call_builtin PySem.F.attr_ValueError.ga.plain PySem.F.entry_bexc_ga ?_;have hk:builtinKind "BaseException.__getattribute__"=some .slot:=by decide +kernel
 have hsplit:splitId "BaseException.__getattribute__"=some ("BaseException","__getattribute__"):=by decide +kernel
 have ha:=PySem.F.args_bexc_ga (.ref x) (.str "__class__" t);simp only[checkBuiltinCall,hk,hsplit,List.cons_append,List.nil_append];unfold isInstance
 repeat (first|with_reducible refine zhp X hx hc c ?_|lk)
 exact q
theorem zdx(c:zcd K D):KitX K (.ref x) (.ref D) (fun h=>∃ o,h.get? x=some o/\o.cls=.ref D) where
 ty:=fun M h _ p=>by obtain⟨o,hx,hc⟩:=p;exact hc▸(Looks.ld hx).andThen .now
 it:=fun _ _ X _=>by
  have z:=c.cl;unfold clsIn at z;split at z
  ·rename_i ho;intro A' Q' E' s' k q;unfold isType loadHead;exact wpAny_bind (wpAny_loadPart (k _ _ (X _ _ ho)) (wpAny_pure q))
  ·cases z
 ne:=fun h tp dd its n sl X htp=>by
  refine Bool.eq_false_iff.mpr fun q=>?_;have e:D=tp:=Value.ref.inj (beq_iff_eq.mp q);subst e;have z:=c.cl;unfold clsIn at z;split at z
  ·rename_i ho;have z:=(X _ _ ho).symm.trans htp;cases z
  ·cases z
 ca:=fun X p q=>by obtain⟨o,hx,hc⟩:=p;exact Gk X hx hc c q
end
inductive TyX(K:Frag)(H:Hp)(x:V)(t:Value):Prop where
 | of (h:M6 K H x t):TyX K H x t
 | exc {a D:Addr} (ex:x=.ref a) (et:t=.ref D) (h:H a=some (zjc a (.ref D))) (c:zcd K D):TyX K H x t
def zjd:V->Value
 | .ty n=>.type n
 | .ref a=>.ref a
 | _=>.none
inductive zje(K:Frag)(xs:List V)(H:Hp)(Q:VK):Prop where
 | mk(x)(c)(t)(b)(_:xs=[x,c])(_:TyX K H x t)(_:((∃ n,c=.ty n)\/∃ a,c=.ref a))(_:kitOne K t (zjd c)=some b)(_:Q (.bl b) H)
theorem zdy:Vy X (.builtin "isinstance") (zje X.K):=by
 intro pins s σ H xs us Q I r h;obtain⟨x,c,t,b,rfl,ty,hc,hk,q⟩:=h;obtain⟨u,w',rfl,r1,r2⟩:=zdh r;have e:w'=zjd c:=by
  rcases hc with ⟨n,rfl⟩|⟨a,rfl⟩
  ·exact r2
  ·exact r2
 subst e;cases ty with
 | of ty=>exact zb2 I r1 ty hk fun tk=>⟨.bl b,H,I.tok tk,rfl,q⟩
 | @exc a D ex et ha cl =>
   subst ex et;cases (show u=Value.ref a from r1);obtain⟨⟨o,vs,ho,hcl,_⟩,_⟩:=(show Yw X.prog X.w H s.heap a (zjc a (.ref D)) from I.hok a _ ha);exact kia_one (zdx cl) I.kIn ⟨o,ho,hcl⟩ hk (fun z=>nomatch z) fun tk=>⟨.bl b,H,I.tok tk,rfl,q⟩
structure zk3(X:Cx):Prop where
 ex:X.ex=[]
 lk:X.lk=[]
 st:X.stack=X.env :: X.outer
 fr:X.env.frame=some X.env.locals
section
variable{P:Program}{w:World}{K:Frag}{mg:Str->Option Value}{base:Heap}
theorem Fun.okX{x qual:Str}{st:Stmt}{f:Addr}{fd:FuncData}{N ps:List Str}{k:Nat}{sp:Sp}(F:Fun K x qual st f fd)(S:Zk N ps (Zi st))(len:∀ vs H Q E,sp vs H Q E->vs.length=ps.length)
  (hbody:∀ (cdv:Value) (A:Around) (outer:List Env) (s:Shared) (H:Hp) (vs:List V) (Q:VK) (E:XK),Vf k (A.deeper (envOfC qual (Zi st) s.heap.objs.size f cdv))->sp vs H Q E ->
   ∃ t,PSs (cxOf (CX1 P w) P w K mg base N qual (Zi st) f cdv A outer s H E) (Yt st) t/\t { nx:=fun _ H'=>Q .non H',rt:=Q } (Kg N vs) H):FnOk P w K mg base (CX1 P w) (k+1) f fd ps sp:=by
 obtain⟨oc,od,kV,doc,pm,an,cdv,ct,osl,rfl,lk,hcd⟩:=F.ex;exact zi0 lk hcd S len fun A outer s H vs Q E hr hsp=>hbody cdv A outer s H vs Q E hr hsp
end
def Kt{α:Type}(p:α->Prop):List α->Prop
 | []=>True
 | a :: r=>p a/\Kt p r
theorem Kt.get:∀ {l:List α} {a:α},Kt p l->a∈l->p a
 | _ :: _,_,h,.head _=>h.1
 | _ :: _,_,h,.tail _ m=>Kt.get h.2 m
def Yz(X:Cx)(pn:List (Addr×Obj))(Nc:List Str)(scope:Scope)(cl:List (Str×Addr))(s₀:Shared)(H₀:Hp)(fp:List Addr)(C:Addr):Cx :=
 { X with N:=Nc,s₀:=s₀,H₀:=H₀,env:=compEnvC scope cl C X.env,outer:=X.stack,stack:=X.stack,ex:=fp,fn:=fun _=>false,pn:=pn,xe:=fun _ _=>False,lk:=[] }
def cs(js:List Nat)(σ:St)(x:V):St:=some x :: js.map fun j=>(σ[j]?).getD none
def PTs(X:Cx)(ifs:List Expr)(t:TT):Prop :=
 ∀ (pins:List (Addr×Obj)) (s:Shared) (σ:St) (H:Hp) (Q:Bool->Hp->Prop),Inv X pins σ H s->t σ H Q ->
   wpAny (model X.prog X.w) X.A (forIn ifs true fun c r=>if r=true then do let ok <- isTrue c X.env (eval c X.env);pure (ForInStep.yield ok) else pure (ForInStep.yield r)) (TP X pins σ Q) X.xe s
def tYes:TT:=fun _ H Q=>Q true H
theorem W8:PTs X [] tYes:=fun _ _ _ H _ I h=>wpAny_tests_nil ⟨H,I,h⟩
theorem Sk(h:PT X c t):PTs X [c] t:=fun pins s σ H Q I q=>wpAny_tests_one (h pins s σ H Q I q)
def Fl(J:It)(js:List Nat)(tt:TT)(te:TE)(σ:St)(H:Hp)(Q:VK):Prop:=∃ W:Nat->Nat->List V->Hp->Prop,(∃ m,W 0 m [] H)/\∀ i m ys H,W i m ys H ->
 (J.stop i H/\ys.length<=sizeLine/\∀ p,H p=none->Q (.ref p) (upd H p (.lst ys))) \/
 (J.go i H/\ys.length<sizeLine/\∃ N:List V->Hp->Prop,(∀ ys' H',N ys' H'->∃ m',m' < m/\W (i+1) m' ys' H')/\∀ x H',J.yld i H x H'->tt (cs js σ x) H' fun b H2=>if b=true then te (cs js σ x) H2 fun y H3=>N (ys++[y]) H3 else N ys H2)
def zdz(wi:TI)(js:List Nat)(tt:TT)(te:TE):TE:=fun σ H Q=>wi σ H fun J H1=>Fl J js tt te σ H1 Q
section
variable{X:Cx}{elt iter:Expr}{x:Str}{px pos:Pos}{ifs:List Expr}{scope:Scope}{cl:List (Str×Addr)}{ys:List Str}{js:List Nat}
structure zay(X:Cx)(x:Str)(scope:Scope)(cl:List (Str×Addr))(ys:List Str)(js:List Nat):Prop where
 clos:closureFor scope X.env=pure cl
 kind:scope.kind=.function
 names:∀ y∈scope.names,y.2=.local->scope.names.lookup y.1=some .local
 nocell:∀ y∈scope.names,y.2≠.cell
 own:scope.names.lookup x=some .local
 nd:(x :: ys).Nodup
 at_:js.map (X.N[·]?)=ys.map some
 free:Kt (fun y=>X.env.kindOf y=some .cell/\(relabel scope X.env).names.lookup y=some .cell/\cl.lookup y=X.env.cells.lookup y) ys
 only:Kt (fun p=>X.env.cells.lookup p.1=some p.2) cl
 vis:∀ y∈scope.names,y.2=.free->y.1∈ys
theorem Qa{env:Env}:∀ {names:List (Str×NameKind)} {y:Str},(names.map fun (n,k)=>if (k == NameKind.free&&env.scope.kind == .function&&env.kindOf n == some .cell) then (n,NameKind.cell) else (n,k)).lookup y=some .cell \/
  (names.map fun (n,k)=>if (k == NameKind.free&&env.scope.kind == .function&&env.kindOf n == some .cell) then (n,NameKind.cell) else (n,k)).lookup y=some .free->∃ k,(y,k)∈names/\(k=.cell\/k=.free)
 | [],_,h=>by rcases h with h|h<;>simp at h
 | (n,k) :: r,y,h=>by
   by_cases hx:y=n
   ·subst hx;refine⟨k,ztz,?_⟩;rw[ztm] at h;dsimp only at h;by_cases hc:(k == NameKind.free&&env.scope.kind == .function&&env.kindOf y == some .cell)=true
    ·simp only[zus,beq_iff_eq] at hc;exact .inr hc.1.1
    ·rw[if_neg hc] at h;simp only[zt3,beq_self_eq_true] at h;rcases h with h|h
     ·exact .inl (Option.some.inj h)
     ·exact .inr (Option.some.inj h)
   ·have hb:(y == n)=false:=zty.mpr hx;have ih:=@Qa env r y;rw[ztm] at h;have key:∀ z:Str×NameKind,z.1=n->List.lookup y (z :: (r.map fun (n,k)=>if (k == NameKind.free&&env.scope.kind == .function&&env.kindOf n == some .cell) then (n,NameKind.cell) else (n,k))) =
      List.lookup y (r.map fun (n,k)=>if (k == NameKind.free&&env.scope.kind == .function&&env.kindOf n == some .cell) then (n,NameKind.cell) else (n,k)):=fun z hz=>by
     obtain⟨z1,z2⟩:=z;cases hz;simp only[zt3,hb]
    rw[key _ (by dsimp only;split<;>rfl)] at h;obtain⟨k',m,q⟩:=ih h;exact⟨k',ztx _ m,q⟩
variable{wi:TI}{tt:TT}{te:TE}
end
theorem Wi{K:Frag}{js:List Nat}{tt:TT}{te:TE}{a:Addr}{xs:List V}{σ:St}{H:Hp}{Q:VK}(Pv:Nat->List V->Hp->Prop)(h0:Pv 0 [] H)(hl:∀ i ys H,i<=xs.length->Pv i ys H->SqL K H a xs)(hz:xs.length<=sizeLine)
  (hy:∀ i ys H,Pv i ys H->ys.length<=i)
  (hs:∀ i x ys H,xs[i]?=some x->Pv i ys H->tt (cs js σ x) H fun b H2=>if b=true then te (cs js σ x) H2 fun y H3=>Pv (i+1) (ys++[y]) H3 else Pv (i+1) ys H2)
  (hd:∀ ys H,Pv xs.length ys H->∀ p,H p=none->Q (.ref p) (upd H p (.lst ys))):Fl (Itl K a) js tt te σ H Q:=by
 refine⟨fun i m ys H=>m=xs.length-i/\i<=xs.length/\Pv i ys H,⟨xs.length,by simp,zt6 _,h0⟩,?_⟩;rintro i m ys H ⟨rfl,hi,p⟩;have q:=hl i ys H hi p;have ly:=hy i ys H p;by_cases hlt:i<xs.length
 ·refine .inr ⟨⟨xs,xs[i],q,by simp[hlt]⟩,by omega,Pv (i+1),fun ys' H' p'=>⟨xs.length-(i+1),by omega,rfl,hlt,p'⟩,fun x H' y=>?_⟩;obtain⟨e,y⟩:=y;subst e;exact hs i x ys _ (y xs q) p
 ·have e:i=xs.length:=by omega
  subst e;exact .inl ⟨⟨xs,q,ztc _⟩,by omega,hd ys H p⟩
theorem Qb{js:List Nat}{tt:TT}{te:TE}{lo:Int}{n:Nat}{σ:St}{H:Hp}{Q:VK}(Pv:Nat->List V->Hp->Prop)(h0:Pv 0 [] H)(hz:n<=sizeLine)(hy:∀ i ys H,Pv i ys H->ys.length<=i)
  (hs:∀ i ys H,i<n->Pv i ys H->tt (cs js σ (.int (lo+i))) H fun b H2=>if b=true then te (cs js σ (.int (lo+i))) H2 fun y H3=>Pv (i+1) (ys++[y]) H3 else Pv (i+1) ys H2)
  (hd:∀ ys H,Pv n ys H->∀ p,H p=none->Q (.ref p) (upd H p (.lst ys))):Fl (Itr lo n) js tt te σ H Q:=by
 refine⟨fun i m ys H=>m=n-i/\i<=n/\Pv i ys H,⟨n,by simp,zt6 _,h0⟩,?_⟩;rintro i m ys H ⟨rfl,hi,p⟩;have ly:=hy i ys H p;by_cases hlt:i<n
 ·refine .inr ⟨hlt,by omega,Pv (i+1),fun ys' H' p'=>⟨n-(i+1),by omega,rfl,hlt,p'⟩,fun x H' y=>?_⟩;obtain⟨e,y⟩:=y;subst e y;exact hs i ys _ hlt p
 ·have e:i=n:=by omega
  subst e;exact .inl ⟨ztc _,by omega,hd ys H p⟩
theorem Fm{js:List Nat}{te:TE}{lo:Int}{n:Nat}{σ:St}{H:Hp}{Q:VK}(f:Nat->V)(hz:n<=sizeLine)
  (hs:∀ i (R:VK),i<n->R (f i) H->te (cs js σ (.int (lo+i))) H R) (hd:∀ p,H p=none->Q (.ref p) (upd H p (.lst ((List.range n).map f)))):Fl (Itr lo n) js tYes te σ H Q:=by
 refine Qb (fun i ys H'=>H'=H/\ys=(List.range i).map f) ⟨rfl,rfl⟩ hz (fun i ys H' ⟨_,e⟩=>by rw[e,zs4,ztr];exact ztc _) (fun i ys H' hi ⟨e1,e2⟩=>?_) fun ys H' ⟨e1,e2⟩ p hp=>?_
 ·subst e1;unfold tYes;dsimp only;rw[if_pos rfl];refine hs i _ hi ⟨rfl,?_⟩;rw[e2,zu5,zti];rfl
 ·subst e1;rw[e2];exact hd p hp
theorem Pj{K:Frag}{js:List Nat}{tt:TT}{te:TE}{a:Addr}{xs:List V}{σ:St}{H:Hp}{Q:VK}(p:V->Bool)(f:V->V)(hl:SqL K H a xs)(hz:xs.length<=sizeLine)
  (ht:∀ (i:Nat) (x:V) (R:Bool->Hp->Prop),xs[i]?=some x->R (p x) H->tt (cs js σ x) H R) (hs:∀ (i:Nat) (x:V) (R:VK),xs[i]?=some x->p x=true->R (f x) H->te (cs js σ x) H R)
  (hd:∀ q,H q=none->Q (.ref q) (upd H q (.lst ((xs.filter p).map f)))):Fl (Itl K a) js tt te σ H Q:=by
 refine Wi (fun i ys H'=>H'=H/\ys=((xs.take i).filter p).map f) ⟨rfl,rfl⟩ (fun i ys H' _ ⟨e,_⟩=>e▸hl) hz
  (fun i ys H' ⟨_,e⟩=>by rw[e,zs4];exact ztk (zub _ _) (zu1 _ _)) (fun i x ys H' hx ⟨e1,e2⟩=>?_) fun ys H' ⟨e1,e2⟩ q hq=>?_
 ·subst e1;refine ht i x _ hx ?_;have e3:((xs.take (i+1)).filter p).map f=ys++(if p x then [f x] else []):=by
   rw[e2,zuf,hx,zul,zti];cases hp:p x<;>simp[hp]
  cases hp:p x with
  | true =>
    rw[if_pos rfl];refine hs i x _ hx hp ⟨rfl,?_⟩;rw[e3,hp];rfl
  | false =>
    rw[if_neg ⋯];refine⟨rfl,?_⟩;rw[e3,hp];simp
 ·subst e1;rw[e2,zto];exact hd q hq
theorem Ki:∀ {xs:List V} {us:List Value},xs.length=us.length->(∀ (j:Nat) x u,xs[j]?=some x->us[j]?=some u->RelV x u)->Vals xs us
 | [],[],_,_=>.nil
 | x :: xs,u :: us,hl,h=>.cons (h 0 x u rfl rfl) (Ki (by simpa using hl) fun j x' u' h1 h2=>h (j+1) x' u' (by simpa using h1) (by simpa using h2))
abbrev TF:=St->Hp->(Hp->Prop)->Prop
def PF(X:Cx)(e:Expr)(t:TF):Prop :=
 ∀ (pins:List (Addr×Obj)) (s:Shared) (σ:St) (H:Hp) (k:Hp->Prop),Inv X pins σ H s->t σ H k ->
   wpAny (model X.prog X.w) X.A (eval e X.env) (fun u s'=>∃ y tk H',u=.str y tk/\y.length<=10000/\Inv X pins σ H' s'/\k H') X.xe s
def PFs(X:Cx)(es:List Expr)(t:TF):Prop :=
 ∀ (pins:List (Addr×Obj)) (s:Shared) (σ:St) (H:Hp) (k:Hp->Prop) (acc:Str),Inv X pins σ H s->acc.length+10000*es.length<=sizeLine->t σ H k ->
   Joins (model X.prog X.w) X.A X.xe (evalEach es X.env) acc (fun out s'=>out.length<=sizeLine/\∃ H',Inv X pins σ H' s'/\k H') s
def zjf:TF:=fun _ H k=>k H
def zjg(t u:TF):TF:=fun σ H k=>t σ H fun H1=>u σ H1 k
def okF(v:V):Prop:=(∃ i,v=.int i/\i.natAbs.log2<1920)\/∃ y,v=.str y/\y.length<=10000
def zkj(te:TE):TF:=fun σ H k=>te σ H fun v H1=>okF v/\k H1
def zjh(t:TF):TE:=fun σ H Q=>t σ H fun H1=>∀ z,Q (.str z) H1
section
variable{X:Cx}{e:Expr}{es:List Expr}{te:TE}{t u:TF}{pos:Pos}
theorem Xu{j}(h:x.length<=10000):PF X (.Constant (.str x) j pos) zjf:=fun _ _ _ H _ I hk=>Calls.Constant_str ⟨x,_,H,rfl,h,I.tok _,hk⟩
theorem Vb(he:PE X e te):PF X (.FormattedValue e (-1) none pos) (zkj te):=by
 intro pins s σ H k I h;refine FormattedValue_plain (thn (he pins s σ H _ I h) fun v s1 ⟨x,H1,I1,r1,ok,hk⟩=>?_);rcases ok with ⟨i,rfl,hi⟩|⟨y,rfl,hy⟩
 ·obtain⟨t,rfl⟩:=r1;refine formatField_int_small hi ⟨_,_,H1,rfl,?_,I1.tok _,hk⟩;have:=int_text_length_le (k:=1920) ⋯ hi;show (Str.ofString (toString i)).length<=10000;rw[PySem.ofString_length];omega
 ·obtain⟨t,rfl⟩:=r1;exact formatField_str (fun t' tk=>⟨y,t',H1,rfl,hy,I1.tok tk,hk⟩) (by rw[sizeLine_eq];omega)
theorem Vj:PFs X [] zjf:=fun _ _ _ H _ _ I hz hk=>⟨by simpa using hz,H,I,hk⟩
theorem Zy(h1:PF X e t)(h2:PFs X es u)(hs:evalEach (e :: es) X.env=eval e X.env :: evalEach es X.env:=by rfl):PFs X (e :: es) (zjg t u):=by
 intro pins s σ H k acc I hz h;rw[hs];refine thn (h1 pins s σ H _ I h) fun v s1 ⟨y,tk,H1,e1,hy,I1,hk⟩=>⟨y,tk,e1,?_,?_⟩
 ·rw[strLen_append];rw[ztt] at hz;omega
 ·exact h2 pins s1 σ H1 k _ I1 (by rw[strLen_append];rw[ztt] at hz;omega) hk
theorem Vk(h:PFs X (e :: e' :: es) t)(hl:es.length<=100):PE X (.JoinedStr (e :: e' :: es) pos) (zjh t):=by
 intro pins s σ H Q I h';refine wpAny_JoinedStr ?_;have q:=h pins s σ H _ Str.empty I (by rw[sizeLine_eq];simp only[ztt];have:Str.empty.length=0:=rfl;omega) h';have mono:∀ (ps:List (Sem Value)) (acc:Str) (Q1 Q2:Str->Shared->Prop) (s:Shared),(∀ o s,Q1 o s->Q2 o s)->Joins (model X.prog X.w) X.A X.xe ps acc Q1 s->Joins (model X.prog X.w) X.A X.xe ps acc Q2 s:=by
  intro ps
  induction ps with
  | nil=>intro acc Q1 Q2 s m z;exact m _ _ z
  | cons p r ih=>intro acc Q1 Q2 s m z;exact thn z fun v s1 ⟨y,tk,e1,hz,z1⟩=>⟨y,tk,e1,hz,ih _ _ _ _ m z1⟩
 refine mono _ _ _ _ _ (fun out s1 ⟨hz,H1,I1,hk⟩=>⟨hz,.str out,H1,I1.tok _,⟨_,rfl⟩,hk out⟩) q
end
section
variable{X:Cx}
theorem Nb(hc:X.calm=true):Vy X (.type "list") (fun xs H Q=>∃ a kvs,xs=[.ref a]/\Rd H a (.dK kvs)/\∀ l,H l=none->Q (.ref l) (upd H l (.lst (kvs.map fun kv=>kV kv.1)))):=by
 intro pins s σ H xs us Q I r h;obtain⟨a,kvs,rfl,ha,q⟩:=h;obtain⟨u,rfl,ru⟩:=To r;cases (show u=Value.ref a from ru);obtain⟨hz,lo,vs,kv,o,es,ep,e1,e2⟩:=Ph I.hok ha;have hl:kvs.length=vs.length:=KV.length kv;refine PySem.W.kdl_call (PySem.W.kdl_dict (knd:=Yi X.prog X.w) (kvs:=vs) (ep:=ep) lo) (I.ok.hd hc) ⟨o,es,e1,e2⟩ (by rw[<- hl];exact hz) fun h' tk acc c hk hS hacc=>?_;have hf:H s.heap.objs.size=none:=I.hok.fresh (ztc _);refine⟨.ref s.heap.objs.size,upd H s.heap.objs.size (.lst (kvs.map fun kv=>kV kv.1)),I.laid (t':=tk) hk (ztc _) ?_,rfl,q _ hf⟩;obtain⟨accl⟩:=acc;refine⟨by rw[zs4];exact hz,accl,c,?_,hS⟩;have hlen:accl.length=vs.length:=by have:=hacc.1;simpa using this
 refine Ki (by rw[zs4,hl,hlen]) fun j x u hx hu=>?_;obtain⟨k,y,hk1,hk2⟩:=hacc.2 j u (by simpa using hu);have ek:=congrArg (·[j]?) (KV.keys kv);simp only[zs7,hk1,zua] at ek;rw[zs7] at hx;cases hkv:kvs[j]? with
 | none=>rw[hkv] at hx;cases hx
 | some p =>
   rw[hkv] at hx ek;have e1:kV p.1=x:=Option.some.inj hx;have e2:p.1=k:=Option.some.inj ek;rw[<- e1,e2];rcases Yv hk2 with ⟨i,t,rfl,rfl⟩|⟨z,t,rfl,rfl⟩
   ·exact⟨t,rfl⟩
   ·exact⟨t,rfl⟩
end
inductive Dt where
 | non|bl (b:Bool)|int (i:Int)|str (x:Str)|lst (xs:List Dt)|tup (xs:List Dt)
mutual
inductive Is(K:Frag)(H:Hp):V->Dt->Prop where
 | non:Is K H .non .non
 | bl (b:Bool):Is K H (.bl b) (.bl b)
 | int (i:Int):Is K H (.int i) (.int i)
 | str (x:Str):Is K H (.str x) (.str x)
 | lst {a:Addr} {xs:List V} {ds:List Dt} (h:SqL K H a xs) (hs:Rr K H xs ds):Is K H (.ref a) (.lst ds)
 | tup {a:Addr} {xs:List V} {ds:List Dt} (h:SqT K H a xs) (hs:Rr K H xs ds):Is K H (.ref a) (.tup ds)
inductive Rr(K:Frag)(H:Hp):List V->List Dt->Prop where
 | nil:Rr K H [] []
 | cons {x:V} {xs:List V} {d:Dt} {ds:List Dt} (h:Is K H x d) (t:Rr K H xs ds):Rr K H (x :: xs) (d :: ds)
end
mutual
def eqD:Dt->Dt->Bool
 | .non,.non=>true
 | .bl a,.bl b=>a == b
 | .bl a,.int b=>(if a then 1 else 0) == b
 | .int a,.bl b=>a == (if b then 1 else 0)
 | .int a,.int b=>a == b
 | .str a,.str b=>a == b
 | .lst xs,.lst ys=>M8 xs ys
 | .tup xs,.tup ys=>M8 xs ys
 | _,_=>false
def M8:List Dt->List Dt->Bool
 | [],[]=>true
 | x :: xs,y :: ys=>eqD x y&&M8 xs ys
 | _,_=>false
end
mutual
theorem Cs:∀ d:Dt,eqD d d=true
 | .non=>by simp[eqD]
 | .bl _=>by simp[eqD]
 | .int _=>by simp[eqD]
 | .str _=>by simp[eqD]
 | .lst xs=>by rw[eqD];exact Lb xs
 | .tup xs=>by rw[eqD];exact Lb xs
theorem Lb:∀ ds:List Dt,M8 ds ds=true
 | []=>by simp[M8]
 | d :: ds=>by rw[M8,Cs d,Lb ds];rfl
end
section
variable{X:Cx}{pins:List (Addr×Obj)}{σ:St}{H:Hp}{s:Shared}
mutual
def toPy:Dt->PyData
 | .non=>.none
 | .bl b=>.bool b
 | .int i=>.int i
 | .str x=>.str x
 | .lst xs=>.list (U5 xs)
 | .tup xs=>.tuple (U5 xs)
def U5:List Dt->List PyData
 | []=>[]
 | d :: ds=>toPy d :: U5 ds
end
mutual
theorem Jy:∀ d e:Dt,PyData.eqv (toPy d) (toPy e)=eqD d e
 | .non,e=>by cases e<;>simp[toPy,eqD,PyData.eqv]
 | .bl _,e=>by cases e<;>simp[toPy,eqD,PyData.eqv]
 | .int _,e=>by cases e<;>simp[toPy,eqD,PyData.eqv]
 | .str _,e=>by cases e<;>simp[toPy,eqD,PyData.eqv]
 | .lst xs,.lst ys=>by rw[toPy,toPy,PyData.eqv,eqD];exact Lc xs ys
 | .tup xs,.tup ys=>by rw[toPy,toPy,PyData.eqv,eqD];exact Lc xs ys
 | .lst _,.non=>by simp[toPy,eqD,PyData.eqv]
 | .lst _,.bl _=>by simp[toPy,eqD,PyData.eqv]
 | .lst _,.int _=>by simp[toPy,eqD,PyData.eqv]
 | .lst _,.str _=>by simp[toPy,eqD,PyData.eqv]
 | .lst _,.tup _=>by simp[toPy,eqD,PyData.eqv]
 | .tup _,.non=>by simp[toPy,eqD,PyData.eqv]
 | .tup _,.bl _=>by simp[toPy,eqD,PyData.eqv]
 | .tup _,.int _=>by simp[toPy,eqD,PyData.eqv]
 | .tup _,.str _=>by simp[toPy,eqD,PyData.eqv]
 | .tup _,.lst _=>by simp[toPy,eqD,PyData.eqv]
theorem Lc:∀ ds es:List Dt,PyData.eqvAll (U5 ds) (U5 es)=M8 ds es
 | [],[]=>by simp[U5,M8,PyData.eqvAll]
 | [],_ :: _=>by simp[U5,M8,PyData.eqvAll]
 | _ :: _,[]=>by simp[U5,M8,PyData.eqvAll]
 | d :: ds,e :: es=>by rw[U5,U5,PyData.eqvAll,M8,Jy d e,Lc ds es]
end
mutual
theorem Is.reads(I:Inv X pins σ H s):∀ {d:Dt} {x:V} {u:Value},Is X.K H x d->RelV x u->∃ as,Reads s.heap u (toPy d) as
 | _,_,_,.non,r=>by cases r;exact⟨_,.none⟩
 | _,_,_,.bl b,r=>by cases r;exact⟨_,.bool b⟩
 | _,_,_,.int i,r=>by obtain⟨t,rfl⟩:=r;exact⟨_,.int i t⟩
 | _,_,_,.str i,r=>by obtain⟨t,rfl⟩:=r;exact⟨_,.str i t⟩
 | _,_,_,.lst h hs,r=>by
   cases r;obtain⟨its,r1,⟨o,n',e1,e2,e3,e4⟩,_⟩:=I.list h;obtain⟨as,q⟩:=Rr.reads I hs r1;rw[toPy];exact⟨_,.list e1 e2 e4 (by simpa using q)⟩
 | _,_,_,.tup h hs,r=>by
   cases r;obtain⟨its,r1,⟨o,e1,e2,n',e4⟩,_⟩:=I.tuple h;obtain⟨as,q⟩:=Rr.reads I hs r1;rw[toPy];exact⟨_,.tuple e1 e2 e4 (by simpa using q)⟩
theorem Rr.reads(I:Inv X pins σ H s):∀ {ds:List Dt} {xs:List V} {us:List Value},Rr X.K H xs ds->Vals xs us->∃ as,ReadsAll s.heap us (U5 ds) as
 | _,_,_,.nil,r=>by cases r;exact⟨_,.nil⟩
 | _,_,_,.cons h t,r=>by
   cases r with
   | cons r1 r2 =>
     obtain⟨as,q1⟩:=Is.reads I h r1;obtain⟨bs,q2⟩:=Rr.reads I t r2;exact⟨_,.cons q1 q2⟩
end
def shD(d:Dt):Prop:=SeqAt.shaped (toPy d)=true
inductive rEqD(K:Frag)(neg:Bool)(x:V)(y:V)(H:Hp)(Q:VK):Prop where
 | mk(d)(e)(_:Is K H x d)(_:Is K H y e)(_:shD d)(_:shD e)(_:Q (.bl (if neg then !eqD d e else eqD d e)) H)
theorem zhq(hu:X.A.units+64<cLine):OpR X (compareOp .Eq) (rEqD X.K false):=by
 intro pins s σ H x y v u Q I rx ry h;obtain⟨d,e,h1,h2,s1,s2,q⟩:=h;obtain⟨as,r1⟩:=h1.reads I rx;obtain⟨bs,r2⟩:=h2.reads I ry;exact eq_dataH r1 r2 s1 s2 hu (by rw[Jy];exact⟨.bl _,H,I,rfl,q⟩)
theorem zhr(hu:X.A.units+64<cLine):OpR X (compareOp .NotEq) (rEqD X.K true):=by
 intro pins s σ H x y v u Q I rx ry h;obtain⟨d,e,h1,h2,s1,s2,q⟩:=h;obtain⟨as,r1⟩:=h1.reads I rx;obtain⟨bs,r2⟩:=h2.reads I ry;exact ne_dataH r1 r2 s1 s2 hu (by rw[Jy];exact⟨.bl _,H,I,rfl,q⟩)
end
section
variable{P:Program}{w:World}{K:Frag}{mg:Str->Option Value}{base:Heap}{x m:Str}{k j:Nat}{ps:List Str}{sp:Sp}{C:Addr}
def Z1(P:Program)(w:World)(K:Frag)(mg:Str->Option Value)(base:Heap)(x:Str)(k:Nat)(ps:List Str)(sp:Sp):Prop :=
 ∃ (f:Addr) (fd:FuncData),FnOk P w K mg base (CX1 P w) k f fd ps sp/\mg x=some (.ref f)/\PySem.W.keepIn K (.ref f)=true/\Rn K fd ps []
def Zt(P:Program)(w:World)(K:Frag)(mg:Str->Option Value)(base:Heap)(C:Addr)(m:Str)(k:Nat)(ps:List Str)(sp:Sp):Prop :=
 ∃ (f:Addr) (fd:FuncData),FnOk P w K mg base (CX1 P w) k f fd ps sp/\zdl K C m f/\Rn K fd ps []
def Tq(P:Program)(w:World)(K:Frag)(mg:Str->Option Value)(base:Heap)(x:Str)(C:Addr)(k:Nat)(ps:List Str)(sp:Sp):Prop :=
 ∃ (f:Addr) (fd:FuncData),FnOk P w K mg base (CX1 P w) k f fd ps sp/\Mk K C f/\mg x=some (.ref C)/\Rn K fd ps []
theorem Ct:Vn (CX1 P w) X E0:=fun _ _ _ _ _ _ _ h=>by obtain⟨_,_,_,_,_,_,_,_,_,_,z⟩:=h;exact z.elim
structure zky(K:Frag)(mg:Str->Option Value)(x:Str)(st:Stmt)(f:Addr)(fd:FuncData):Prop where
 fn:Fun K x x st f fd
 nm:mg x=some (.ref f)
end
section
variable{X:Cx}{k:Nat}{C:Addr}{ps:List Str}{sp:Sp}{E:XK}{x m:Str}{p pos apos:Pos}{e o:Expr}{es:List Expr}{ta:TE}{t:TA}
theorem zaz(D:Z1 X.prog X.w X.K X.mg X.base x k ps sp)(hr:Vf k X.A)(hx:Vn (CX1 X.prog X.w) X E)(hg:Gl X x)(ha:PA X (e :: es) t)(hdb:(x == ("__debug__":Str))=false:=by decide)
  (he:starEach (e :: es) X.env=(false,eval e X.env) :: starEach es X.env:=by rfl) (hpl:(backTo pos (starEach es X.env)).any (·.1)=false:=by rfl):PE X (.Call (.Name x p) (e :: es) [] pos) (zdm sp [] E t):=by
 obtain⟨f,fd,F,hm,kp,b⟩:=D;exact zfi F hr hg hm kp b .nil hx ha hdb he hpl
theorem Y1(he:PE X o ta)(c:Cls X.K C)(M:Zt X.prog X.w X.K X.mg X.base C m k ps sp)(hr:Vf k X.A)(hx:Vn (CX1 X.prog X.w) X E)(ha:PA X (e :: es) t)
  (hst:starEach (e :: es) X.env=(false,eval e X.env) :: starEach es X.env:=by rfl) (hpl:(backTo pos (starEach es X.env)).any (·.1)=false:=by rfl)
  (ht:eval (.Call (.Attribute o m apos) (e :: es) [] pos) X.env=(do
   let ov <- eval o X.env
   standAt apos.atName
   let (f,first) <- holding [ov] (getMethod ov m pl)
   callWith pos f first (backTo pos (starEach (e :: es) X.env)) (backToKw pos (keywordEach [] X.env))):=by rfl):PE X (.Call (.Attribute o m apos) (e :: es) [] pos) (zap C m sp [] E ta t):=by
 obtain⟨f,fd,F,hm,b⟩:=M;exact zfj he c hm F hr b .nil hx ha hst hpl ht
theorem Yr(he:PE X o ta)(c:Cls X.K C)(M:Zt X.prog X.w X.K X.mg X.base C m k ps sp)(hr:Vf k X.A)(hx:Vn (CX1 X.prog X.w) X E)
  (ht:eval (.Call (.Attribute o m apos) [] [] pos) X.env=(do
   let ov <- eval o X.env
   standAt apos.atName
   let (f,first) <- holding [ov] (getMethod ov m pl)
   callWith pos f first (backTo pos (starEach [] X.env)) (backToKw pos (keywordEach [] X.env))):=by rfl):PE X (.Call (.Attribute o m apos) [] [] pos) (zap C m sp [] E ta tNil):=by
 obtain⟨f,fd,F,hm,b⟩:=M;exact zdn he c hm F hr b .nil hx ht
theorem Ex(M:Tq X.prog X.w X.K X.mg X.base x C k ps sp)(hr:Vf (k+1) X.A)(hx:Vn (CX1 X.prog X.w) X E)(hg:Gl X x)(ha:PA X (e :: es) t)(hdb:(x == ("__debug__":Str))=false:=by decide)
  (he:starEach (e :: es) X.env=(false,eval e X.env) :: starEach es X.env:=by rfl) (hpl:(backTo pos (starEach es X.env)).any (·.1)=false:=by rfl):PE X (.Call (.Name x p) (e :: es) [] pos) (zaq C sp [] E t):=by
 obtain⟨f,fd,F,mk,hm,b⟩:=M;exact zfk mk F hr hg hm b .nil hx ha hdb he hpl
theorem za0(M:Tq X.prog X.w X.K X.mg X.base x C k ps sp)(hr:Vf (k+1) X.A)(hx:Vn (CX1 X.prog X.w) X E)(hg:Gl X x)(hdb:(x == ("__debug__":Str))=false:=by decide):PE X (.Call (.Name x p) [] [] pos) (zaq C sp [] E tNil):=by
 obtain⟨f,fd,F,mk,hm,b⟩:=M;exact zdo mk F hr hg hm b .nil hx hdb
theorem Wo(hg:Gl X x)(hm:∃ t,X.mg x=some (.int i t))(hd:(x == ("__debug__":Str))=false:=by decide):PE X (.Name x pos) (tC (.int i)):=by
 obtain⟨t,hm⟩:=hm;exact zfc hg hm ⟨t,rfl⟩ hd
end
inductive zji(te:TE)(D:N5)(σ:L2.St)(x:V)(H1:Hp):Prop where
 | mk(l)(xs)(_:x=.ref l)(_:H1 l=some (.lst xs))(_:te σ H1 fun y H2=>∃ ys,H2 l=some (.lst ys)/\ys.length<sizeLine/\D.nx σ (upd H2 l (.lst (ys++[y]))))
def zjj(to te:TE):TS:=fun D σ H=>to σ H fun x H1=>zji te D σ x H1
theorem Yo(ho:PE X o to)(he:PE X e te)(hbase:attributeBase o "append" X.env (eval o X.env)=eval o X.env:=by rfl)
  (hst:starEach [e] X.env=[(false,eval e X.env)]:=by rfl)
  (hline:(apos.endLine == cpos.line)=true:=by rfl) (hs:swapsWith (.Call (.Attribute o "append" apos) [e] [] cpos) none pos.line X.env=pure false:=by rfl):PS X (.Expr (.Call (.Attribute o "append" apos) [e] [] cpos) pos) (zjj to te):=by
 intro pins s σ H D I h;refine wpAny_Expr ?_ I.quiet;refine wpAny_Call_method_late hbase (by rw[hst];rfl) hline rfl (thn (ho pins s σ H _ I h) fun v s1 ⟨x,H1,I1,r1,l,xs,e1,hl,q1⟩=>?_);subst e1;obtain⟨h1,h2⟩:=Ap (T:="list") I1 r1 (.inl ⟨rfl,_,SqL.of hl⟩);refine⟨"list","list.append",PySem.F.plainAttrs_list,PySem.F.slot_list_append,PySem.F.type_list_append,h1,h2,?_⟩;rw[hst];refine Calls.callWith_builtin rfl (Calls.evalArgs_plain ?_);refine Calls.spliced_cons (thn (he pins s1 σ H1 _ I1 q1) fun u s2 ⟨y,H2,I2,r2,ys,hl2,hz,q2⟩=>Calls.spliced_nil ?_);refine thn (zb7 pins s2 σ H2 (.ref l) [y] v [u] (fun v H3=>v=.non/\D.nx σ H3) I2 r1 (.cons r2 .nil) ⟨l,ys,y,rfl,rfl,hl2,hz,rfl,q2⟩) fun z s3 ⟨zv,H3,I3,rz,ez,q3⟩=>?_;subst ez;cases rz;exact⟨σ,H3,I3,q3⟩
section
variable{X:Cx}{K:Frag}
theorem zd0(hK:X.K=K):IxR X (zfu K):=hK▸zfv
theorem zf0(hK:X.K=K):IxR X (zhk K):=hK▸zhl
theorem Gm(hK:X.K=K):Vy X (.builtin "len") (fun xs H Q=>∃ p ys,xs=[.ref p]/\(SqL K H p ys\/SqT K H p ys)/\Q (.int ys.length) H):=hK▸Er
theorem Xv(hK:X.K=K):Vy X (.type "list") (fun xs H Q=>∃ p ys,xs=[.ref p]/\(SqL K H p ys\/SqT K H p ys)/\∀ l,H l=none->Q (.ref l) (upd H l (.lst ys))):=hK▸Et
theorem Xh(hK:X.K=K):Vy X (.builtin "isinstance") (zje K):=hK▸zdy
theorem Ur(hK:X.K=K):OpR X (compareOp .In) (rIn K false):=hK▸zb6
theorem Xw(hK:X.K=K):OpR X (compareOp .NotIn) (rIn K true):=hK▸Ep
theorem Ey(hK:X.K=K)(hu:X.A.units+64<cLine):OpR X (compareOp .Eq) (rEqD K false):=hK▸zhq hu
theorem za1(hK:X.K=K)(hu:X.A.units+64<cLine):OpR X (compareOp .NotEq) (rEqD K true):=hK▸zhr hu
theorem Jz(hK:X.K=K):SlR X (zja K):=hK▸zfw
variable{o e l tg value a:Expr}{f:Str}{pos pos':Pos}{ta tv tl:TE}{es:List Expr}{k n:Nat}{t:TGs}
theorem Zr(hK:X.K=K)(he:PE X e ta)(hb:attributeBase e f X.env (eval e X.env)=eval e X.env):PE X (.Attribute e f pos) (ziv K ta f):=hK▸zg7 he hb
theorem Y6(hK:X.K=K)(ha:PE X o ta)(hv:PE X value tv)(hs:swapsWith value (some (.Attribute o f pos')) pos.line X.env=pure false):PS X (.Assign [.Attribute o f pos'] value pos) (zix K ta tv f):=hK▸zg8 ha hv hs
theorem Z4(hK:X.K=K)(hl:PE X l tl):PI X tg l (zgh K tl):=hK▸zfd hl
theorem V2(hK:X.K=K)(hc:X.calm=true)(h:PGs X es t)(hn:(assignEach es X.env).length=n:=by rfl)(hst:(assignEach es X.env).findIdx? (·.1)=none:=by rfl):PG X (.Tuple es k pos) (zio K n t):=hK▸zg3 hc h hn hst
theorem Fn(hK:X.K=K)(ha:PE X a ta)(he:∀ whole,isTrue a X.env whole=(do let v <- whole;standAt a.pos;holding [v] (truthy v))):PT X a (fun σ H Q=>ta σ H fun x H'=>∃ k,TruV K x H' k/\Q k H'):=hK▸zdg ha he
end
section
variable{X:Cx}{K:Frag}
theorem J0(hK:X.K=K):Vy X (.type "tuple") (fun xs H Q=>∃ p ys,xs=[.ref p]/\((SqL K H p ys/\∀ l,H l=none->Q (.ref l) (upd H l (.tup ys)))\/(SqT K H p ys/\Q (.ref p) H))):=hK▸Gj
end
end L2
namespace G
open PySem PySem.Spec PyProof.Rows L2
theorem sz1:1<=sizeLine:=by decide
theorem sz2:2<=sizeLine:=by decide
theorem sz3:3<=sizeLine:=by decide
theorem sz4:4<=sizeLine:=by decide
theorem szN(h:n<=1000):n<=sizeLine:=zvg (Yn h)
theorem itD{p:Prop}[Decidable p]{A B:Prop}(h1:p->A)(h2:¬ p->B):if decide p=true then A else B:=by
 by_cases h:p
 ·rw[zta h,if_pos rfl];exact h1 h
 ·rw[ztd h,if_neg ⋯];exact h2 h
theorem itN{p:Prop}[Decidable p]{A B:Prop}(h1:¬ p->A)(h2:p->B):if (!decide p)=true then A else B:=by
 by_cases h:p
 ·rw[zta h];exact iteF (h2 h)
 ·rw[ztd h];exact iteT (h1 h)
theorem itB{b:Bool}{A B:Prop}(h1:b=true->A)(h2:b=false->B):if b=true then A else B:=by
 cases b
 ·exact iteF (h2 rfl)
 ·exact iteT (h1 rfl)
theorem Pk:decide (V.int i=V.int j)=decide (i=j):=by
 by_cases h:i=j
 ·subst h;simp
 ·rw[ztd h,ztd (fun z=>h (V.int.inj z))]
theorem itV{i j:Int}{A B:Prop}(h1:i=j->A)(h2:¬ i=j->B):if decide (V.int i=V.int j)=true then A else B:=by
 rw[Pk];exact itD h1 h2
theorem Zo(h:H p=none):Same H (upd H p o):=fun b u e=>by rw[Zh (Zg e h)];exact e
def Yu(i:Int):Prop:=i.natAbs.log2<1920
theorem Yg(h:i.natAbs<=10 ^ 60):Yu i:=by
 unfold Yu;by_cases h0:i.natAbs=0
 ·rw[h0];decide
 ·exact(Nat.log2_lt h0).mpr (zu4 h ⋯)
theorem Z9(h:-1000<=i)(h':i<=1000):Yu i:=Yg (ztk (show i.natAbs<=1000 by omega) ⋯)
theorem Cu{xs:List Int}{i:Int}(h0:0<=i)(h1:i<xs.length):atI (xs.map V.int) i=some (.int (xs.getD i.toNat 0)):=by
 obtain⟨k,rfl⟩:∃ k:Nat,i=k:=⟨i.toNat,by omega⟩;refine Zs ?_;have hk:k<xs.length:=by omega
 rw[zs7,zs5 hk,zua,ztl,ztq,zs5 hk];rfl
theorem Vh(h1:∀ Q:Bool->Hp->Prop,Q b H->t σ H Q)(h2:∀ Q:Bool->Hp->Prop,Q c H->u σ H Q)(Q:Bool->Hp->Prop)(h:Q (b||c) H):tOr t u σ H Q:=by
 refine h1 _ ?_;cases b with
 | true=>exact h
 | false=>exact h2 _ h
theorem Y7(h1:∀ Q:Bool->Hp->Prop,Q b H->t σ H Q)(h:if b=true then A D σ H else B D σ H):Ac t A B D σ H:=h1 _ h
theorem Wk(h:A { D with nx:=B D } σ H):Zw A B D σ H:=h
theorem U6(J:L2.St->Hp->Prop)(hc:∀ Q:Bool->Hp->Prop,Q b H->c σ H Q)(h1:b=true->∀ N:L2.St->Hp->Prop,(∀ σ' H',J σ' H'->N σ' H')->t { D with nx:=N } σ H)
  (h2:b=false->∀ N:L2.St->Hp->Prop,(∀ σ' H',J σ' H'->N σ' H')->e { D with nx:=N } σ H) (h3:∀ σ' H',J σ' H'->u D σ' H'):Zw (Ac c t e) u D σ H:=by
 refine hc _ ?_;cases b with
 | true=>rw[if_pos rfl];exact h1 rfl _ h3
 | false=>rw[if_neg ⋯];exact h2 rfl _ h3
theorem Zz(h:D.nx σ H):zc9 D σ H:=h
theorem zhs(K:Frag):PySem.W.kitOne K (.type "int") (.type "int")=some true:=rfl
theorem zht(K:Frag):PySem.W.kitOne K (.type "int") (.type "bool")=some false:=by with_unfolding_all rfl
theorem Nd(K:Frag):PySem.W.kitOne K (.type "list") (.type "list")=some true:=rfl
theorem Ez(K:Frag):PySem.W.kitOne K (.type "tuple") (.type "tuple")=some true:=rfl
inductive TupL(H:Hp):List V->List (List V)->Prop where
 | nil:TupL H [] []
 | cons {t:Addr} {r:List V} {ts:List V} {R:List (List V)} (h:H t=some (.tup r)) (q:TupL H ts R):TupL H (.ref t :: ts) (r :: R)
theorem TupL.mono(k:∀ t xs,H t=some (.tup xs)->H' t=some (.tup xs)):∀ {ts:List V} {R:List (List V)},TupL H ts R->TupL H' ts R
 | _,_,.nil=>.nil
 | _,_,.cons h r=>.cons (k _ _ h) (TupL.mono k r)
theorem TupL.same(e:Same H H')(h:TupL H ts R):TupL H' ts R:=h.mono fun t xs q=>e _ _ q
theorem TupL.length:∀ {ts:List V} {R:List (List V)},TupL H ts R->ts.length=R.length
 | _,_,.nil=>rfl
 | _,_,.cons _ r=>by simp[TupL.length r]
theorem TupL.snoc(h:H t=some (.tup x)):∀ {ts:List V} {R:List (List V)},TupL H ts R->TupL H (ts++[.ref t]) (R++[x])
 | _,_,.nil=>.cons h .nil
 | _,_,.cons h' r=>.cons h' (TupL.snoc h r)
theorem TupL.get:∀ {ts:List V} {R:List (List V)} {i:Nat} {x:V},TupL H ts R->ts[i]?=some x->∃ t r,x=.ref t/\R[i]?=some r/\H t=some (.tup r)
 | _,_,_,_,.nil,e=>by simp at e
 | _,_,0,_,.cons h _,e=>by simp at e;subst e;exact⟨_,_,rfl,rfl,h⟩
 | _,_,i+1,x,.cons _ r,e=>by
   obtain⟨t,n,h1,h2,h3⟩:=TupL.get (i:=i) (x:=x) r (by simpa using e);exact⟨t,n,h1,by simpa using h2,h3⟩
theorem TupL.getR:∀ {ts:List V} {R:List (List V)} {i:Nat} {r:List V},TupL H ts R->R[i]?=some r->∃ t,ts[i]?=some (.ref t)/\H t=some (.tup r)
 | _,_,_,_,.nil,e=>by simp at e
 | _,_,0,_,.cons h _,e=>by simp at e;subst e;exact⟨_,rfl,h⟩
 | _,_,i+1,x,.cons _ r,e=>by
   obtain⟨t,h1,h2⟩:=TupL.getR (i:=i) (r:=x) r (by simpa using e);exact⟨t,by simpa using h1,h2⟩
inductive N9(vs:List V)(H:Hp)(Q:VK)(_:XK):Prop where
 | mk(i)(_:vs=[.int i])(_:Q (.bl true) H)
def Z7(ns:List Int)(k:Nat):Int:=(ns[k]?).getD 0
inductive zhu(K:Frag)(vs:List V)(H:Hp)(Q:VK)(_:XK):Prop where
 | mk(b:Addr)(ns:List Int)(k:Nat)(_:vs=[.ref b,.int k])(_:SqL K H b (ns.map V.int))(_:Q (.int (Z7 ns k)) H)
def stp(c:Int):Int:=([1,2,5,10,100,500,998]:List Int).getD (c%7).toNat 0
def numS(c:Int)(j:Nat):Int:=1+(c/7+stp c*(j:Int))%999
def O2(c:Int)(many:Nat):List Int:=(List.range many).map (numS c)
inductive Nf(vs:List V)(H:Hp)(Q:VK)(_:XK):Prop where
 | mk(c:Int)(many:Nat)(_:vs=[.int c,.int many])(_:many<=1000)(_:∀ l H',H' l=some (.lst ((O2 c many).map V.int))->Same H H'->H l=none->Q (.ref l) H')
def E1(c:Int):Int:=([1,2,5,10,50,97,98]:List Int).getD (c%7).toNat 0
def Pl(c:Int)(j:Nat):Int:=1+(c/7+E1 c*(j:Int))%99
def zd1(c:Int)(many:Nat):List Int:=(List.range many).map (Pl c)
inductive za2(vs:List V)(H:Hp)(Q:VK)(_:XK):Prop where
 | mk(c:Int)(many:Nat)(_:vs=[.int c,.int many])(_:many<=1000)(_:∀ l H',H' l=some (.lst ((zd1 c many).map V.int))->Same H H'->H l=none->Q (.ref l) H')
def oneV(x:V):Prop:=x=.non\/∃ i,x=.int i
inductive Ma(vs:List V)(H:Hp)(Q:VK)(_:XK):Prop where
 | mk(x)(_:vs=[x,x])(_:oneV x)(_:Q (.bl true) H)
inductive Pm(K:Frag)(vs:List V)(H:Hp)(Q:VK)(_:XK):Prop where
 | mk(b c:Addr)(xs:List V)(_:vs=[.ref b,.ref c])(_:H b=some (.lst xs))(_:SqL K H c xs)(_:(∀ x∈xs,oneV x))(_:xs.length<=1000)(_:Q (.bl true) H)
inductive Fo(K:Frag)(vs:List V)(H:Hp)(Q:VK)(_:XK):Prop where
 | mk(b c:Addr)(xs:List V)(_:vs=[.ref b,.ref c])(_:H b=some (.tup xs))(_:SqT K H c xs)(_:(∀ x∈xs,oneV x))(_:xs.length<=1000)(_:Q (.bl true) H)
inductive Fp(K:Frag)(vs:List V)(H:Hp)(Q:VK)(_:XK):Prop where
 | mk(b c:Addr)(ts us:List V)(R:List (List V))(_:vs=[.ref b,.ref c])(_:H b=some (.lst ts))(_:SqL K H c us)(_:TupL H ts R)(_:TupL H us R)(_:(∀ r∈R,r.length<=1000/\∀ x∈r,oneV x))(_:R.length<=1000)(_:Q (.bl true) H)
inductive za3(K:Frag)(vs:List V)(H:Hp)(Q:VK)(_:XK):Prop where
 | mk(b:Addr)(ns:List Int)(_:vs=[.ref b])(_:SqL K H b (ns.map V.int))(_:ns.length<=63)(_:∀ H',Q (.bl true) H')
structure Row where
 h:Int
 g:Int
 d:Int
 w:Option Int
def oV:Option Int->V
 | none=>.non
 | some n=>.int n
def E2(r:Row):List V:=[.int r.h,.int r.g,.int r.d,oV r.w]
theorem zhv(o:Option Int):oneV (oV o):=by
 cases o with
 | none=>exact .inl rfl
 | some n=>exact .inr ⟨n,rfl⟩
theorem zhw{H:Hp}{ts:List V}{rs:List Row}{i:Nat}{x:V}(h:TupL H ts (rs.map E2))(e:ts[i]?=some x):∃ t r,x=.ref t/\rs[i]?=some r/\H t=some (.tup (E2 r)):=by
 obtain⟨t,r,h1,h2,h3⟩:=h.get e;rw[zs7] at h2;cases q:rs[i]? with
 | none=>rw[q] at h2;cases h2
 | some m=>rw[q] at h2;cases h2;exact⟨t,m,h1,rfl,h3⟩
def hit(n c:Int)(r:Row):Bool:=decide (r.w=some n)&&(decide (r.h=c)||decide (r.g=c))
def E3(n c:Int)(Rs:List (List Row)):Nat×Nat:=Rs.foldl (fun p rs=>(p.1+1,if rs.any (hit n c) then p.1+1 else p.2)) (0,0)
def metS(Rs:List (List Row))(n c:Int):Nat:=(E3 n c Rs).2
theorem zd2(n c:Int)(Rs:List (List Row)):(E3 n c Rs).1=Rs.length:=by
 have h:∀ (Rs:List (List Row)) (p:Nat×Nat),(Rs.foldl (fun p rs=>(p.1+1,if rs.any (hit n c) then p.1+1 else p.2)) p).1=p.1+Rs.length:=fun Rs=>by
  induction Rs with
  | nil=>intro p;rfl
  | cons r Rs ih=>intro p;rw[List.foldl_cons,ih,ztt];simp only;omega
 have:=h Rs (0,0);unfold E3;rw[this];simp
theorem zce(Rs:List (List Row))(rs:List Row)(n c:Int):metS (Rs++[rs]) n c=if rs.any (hit n c) then Rs.length+1 else metS Rs n c:=by
 unfold metS;have e:E3 n c (Rs++[rs])=((E3 n c Rs).1+1,if rs.any (hit n c) then (E3 n c Rs).1+1 else (E3 n c Rs).2):=by
  unfold E3;rw[List.foldl_append];rfl
 rw[e,zd2]
def Cv(kvs:List (List Key×V))(f:Int->Int->Nat):Prop:=∀ n c:Int,valV kvs [inl n,inl c]=if f n c=0 then none else some (.int (f n c))
inductive Ov(H:Hp):List V->List (List Row)->Prop where
 | nil:Ov H [] []
 | cons {t:Addr} {ts rs:List V} {r:List Row} {R:List (List Row)} (h:H t=some (.tup ts)) (q:TupL H ts (r.map E2)) (n:Ov H rs R):Ov H (.ref t :: rs) (r :: R)
theorem Ov.mono(k:∀ t xs,H t=some (.tup xs)->H' t=some (.tup xs)):∀ {ts:List V} {R:List (List Row)},Ov H ts R->Ov H' ts R
 | _,_,.nil=>.nil
 | _,_,.cons h q r=>.cons (k _ _ h) (q.mono k) (Ov.mono k r)
theorem Ov.length:∀ {ts:List V} {R:List (List Row)},Ov H ts R->ts.length=R.length
 | _,_,.nil=>rfl
 | _,_,.cons _ _ r=>by simp[Ov.length r]
theorem Ov.snoc(h:H t=some (.tup xs))(q:TupL H xs (x.map E2)):∀ {ts:List V} {R:List (List Row)},Ov H ts R->Ov H (ts++[.ref t]) (R++[x])
 | _,_,.nil=>.cons h q .nil
 | _,_,.cons h' q' r=>.cons h' q' (Ov.snoc h q r)
def tot(Rs:List (List Row)):Nat:=(Rs.map List.length).sum
theorem zd3(Rs:List (List Row))(rs:List Row):tot (Rs++[rs])=tot Rs+rs.length:=by unfold tot;rw[zti,List.sum_append];simp
structure U7(C:Addr)(H:Hp)(p lr ld:Addr)(Rs:List (List Row)):Prop where
 at_:∃ dx,H p=some (.ins C dx [("rounds",.ref lr),("meetings",.ref ld)])
 rd:∃ rs,H lr=some (.lst rs)/\Ov H rs Rs
 mt:∃ kvs,H ld=some (.dT kvs)/\Cv kvs (metS Rs)/\kvs.length<=2*tot Rs
theorem U7.same{C:Addr}{H H':Hp}{p lr ld:Addr}{Rs:List (List Row)}(h:U7 C H p lr ld Rs)(e:Same H H'):U7 C H' p lr ld Rs:=by
 obtain⟨⟨dx,h1⟩,⟨rs,h2,h3⟩,⟨kvs,h4,h5⟩⟩:=h;exact⟨⟨dx,e _ _ h1⟩,⟨rs,e _ _ h2,h3.mono fun t xs q=>e _ _ q⟩,⟨kvs,e _ _ h4,h5⟩⟩
theorem U7.keep{C:Addr}{H H':Hp}{p lr ld:Addr}{Rs:List (List Row)}(h:U7 C H p lr ld Rs)(ep:∀ o,H p=some o->H' p=some o)(er:∀ o,H lr=some o->H' lr=some o)(ed:∀ o,H ld=some o->H' ld=some o)(et:∀ t xs,H t=some (.tup xs)->H' t=some (.tup xs)):U7 C H' p lr ld Rs:=by
 obtain⟨⟨dx,h1⟩,⟨rs,h2,h3⟩,⟨kvs,h4,h5⟩⟩:=h;exact⟨⟨dx,ep _ h1⟩,⟨rs,er _ h2,h3.mono et⟩,⟨kvs,ed _ h4,h5⟩⟩
theorem Ld:List.lookup ("rounds":Str) ([("rounds",V.ref x),("meetings",V.ref y)]:List (Str×V))=some (.ref x):=by simp only[zt3,beq_self_eq_true]
theorem Pn:List.lookup ("meetings":Str) ([("rounds",V.ref x),("meetings",V.ref y)]:List (Str×V))=some (.ref y):=by
 have e:(("meetings":Str) == "rounds")=false:=by decide +kernel
 simp only[zt3,e,beq_self_eq_true]
theorem J1{x y:Addr}{m:Str}(h:¬ m="rounds")(h':¬ m="meetings"):List.lookup m ([("rounds",V.ref x),("meetings",V.ref y)]:List (Str×V))=none:=by
 have e:(m == "rounds")=false:=zty.mpr h;have e':(m == "meetings")=false:=zty.mpr h';simp only[zt3,e,e',List.lookup_nil]
inductive za4(C:Addr)(vs:List V)(H:Hp)(Q:VK)(_:XK):Prop where
 | mk(p)(dx)(_:vs=[.ref p])(_:H p=some (.ins C dx []))(_:∀ lr ld H',U7 C H' p lr ld []->(∀ b o,H b=some o->b≠p->H' b=some o)->H lr=none->H ld=none->lr≠ld->Q .non H')
inductive Le(C:Addr)(vs:List V)(H:Hp)(Q:VK)(_:XK):Prop where
 | mk(p)(lr)(ld)(Rs)(_:vs=[.ref p])(_:U7 C H p lr ld Rs)(_:Q (.int (Rs.length:Nat)) H)
inductive zgn(C:Addr)(vs:List V)(H:Hp)(Q:VK)(_:XK):Prop where
 | mk(p)(lr)(ld)(Rs)(n)(c)(_:vs=[.ref p,.int n,.int c])(_:U7 C H p lr ld Rs)(_:∀ H',Same H H'->Q (.int (metS Rs n c:Nat)) H')
theorem Ol:([inl n,inl c]:List Key)=[inl n',inl c']↔n=n'/\c=c':=by
 constructor
 ·intro h;injection h with h1 h2;injection h2 with h2 _;exact⟨inl.inj h1,inl.inj h2⟩
 ·rintro⟨rfl,rfl⟩;rfl
theorem Cv.put(h:Cv kvs f)(n c:Int)(t:Nat)(ht:0<t):Cv (putK kvs [inl n,inl c] (.int t)) (fun n' c'=>if n'=n/\c'=c then t else f n' c'):=fun n' c'=>by
 rw[U3];show _=if (if n'=n/\c'=c then t else f n' c')=0 then none else some (V.int ((if n'=n/\c'=c then t else f n' c':Nat):Int))
 by_cases e:n'=n/\c'=c
 ·rw[if_pos e,if_pos (Ol.mpr e),if_neg ⋯]
 ·rw[if_neg (fun z=>e (Ol.mp z)),if_neg e];exact h n' c'
def Lg(Rs:List (List Row))(rs:List Row)(i:Nat)(n c:Int):Nat:=if (rs.take i).any (hit n c) then Rs.length+1 else metS Rs n c
theorem zcf(Rs:List (List Row))(rs:List Row):Lg Rs rs 0=metS Rs:=by funext n c;unfold Lg;simp
theorem zd4(Rs:List (List Row))(rs:List Row):Lg Rs rs rs.length=metS (Rs++[rs]):=by funext n c;unfold Lg;rw[zto,zce]
theorem Fq(e:rs[i]?=some r)(n c:Int):Lg Rs rs (i+1) n c=if hit n c r then Rs.length+1 else Lg Rs rs i n c:=by
 unfold Lg;rw[zuf,e,List.any_append];cases h1:(rs.take i).any (hit n c)<;>cases h2:hit n c r<;>simp[h2]
theorem zcg(e:rs[i]?=some r)(h:r.w=none):Lg Rs rs (i+1)=Lg Rs rs i:=by
 funext n c
 rw[Fq e];have:hit n c r=false:=by unfold hit;rw[h];simp
 rw[this];simp
theorem zch(e:rs[i]?=some r)(h:r.w=some w) :
  (fun n c=>if n=w/\c=r.g then Rs.length+1 else (fun n c=>if n=w/\c=r.h then Rs.length+1 else Lg Rs rs i n c) n c)=Lg Rs rs (i+1):=by
 funext n c
 rw[Fq e];unfold hit;rw[h];show (if n=w/\c=r.g then Rs.length+1 else if n=w/\c=r.h then Rs.length+1 else Lg Rs rs i n c)=_;by_cases h1:n=w
 ·subst h1;by_cases h2:r.g=c
  ·rw[if_pos ⟨rfl,h2.symm⟩,if_pos (by simp[h2])]
  ·rw[if_neg (fun z=>h2 z.2.symm)];by_cases h3:r.h=c
   ·rw[if_pos ⟨rfl,h3.symm⟩,if_pos (by simp[h3])]
   ·rw[if_neg (fun z=>h3 z.2.symm),if_neg (by simp[h2,h3])]
 ·rw[if_neg (fun z=>h1 z.1),if_neg (fun z=>h1 z.1),if_neg (by simp;intro z;exact absurd z.symm h1)]
theorem zd5{C:Addr}{H1 H':Hp}{x dx lr ld:Addr}(hx:H1 x=none)(hdx:H1 dx=none)(ne:dx≠x)(k:∀ b o,upd (upd H1 dx (.own x)) x (.ins C dx []) b=some o->b≠x->H' b=some o)
  (h1:upd (upd H1 dx (.own x)) x (.ins C dx []) lr=none) (h2:upd (upd H1 dx (.own x)) x (.ins C dx []) ld=none):Same H1 H'/\H1 lr=none/\H1 ld=none:=by
 have fr:∀ {l:Addr},upd (upd H1 dx (.own x)) x (.ins C dx []) l=none->H1 l=none:=fun {l} q=>by
  have n1:l≠x:=fun z=>by rw[z,Ze] at q;cases q
  have n2:l≠dx:=fun z=>by rw[z,Zh ne,Ze] at q;cases q
  rw[Zh n1,Zh n2] at q;exact q
 refine⟨fun b o e=>k b o ?_ (Zg e hx),fr h1,fr h2⟩;rw[Zh (Zg e hx),Zh (Zg e hdx)];exact e
theorem zjk{lr ld:Addr}:putF "meetings" (V.ref ld) [(("rounds":Str),V.ref lr)]=[(("rounds":Str),V.ref lr),(("meetings":Str),V.ref ld)]:=by
 show (if ("rounds":Str)="meetings" then _ else _)=_;rw[if_neg ⋯];rfl
theorem Z8(h:H l=none)(s:Same H H'):Same H (upd H' l o):=fun b u e=>by
 rw[Zh (Zg e h)];exact s b u e
theorem za5(h:H l=some (.lst xs)):∀ t r,H t=some (.tup r)->upd H l (.lst ys) t=some (.tup r):=fun t r e=>by
 rw[Zh (Xm e h (by intro z;cases z))];exact e
theorem Ts(h:oneV x):U4 x=true:=by rcases h with rfl|⟨i,rfl⟩<;>rfl
inductive RLs(H:Hp):List Addr->List (List Row)->Prop where
 | nil:RLs H [] []
 | cons {l:Addr} {ts:List V} {ls:List Addr} {r:List Row} {R:List (List Row)} (h:H l=some (.lst ts)) (q:TupL H ts (r.map E2)) (n:RLs H ls R):RLs H (l :: ls) (r :: R)
structure L1(C:Addr)(H0:Hp)(p lr ld kR:Addr)(ls:List Addr)(R S:List (List Row))(H:Hp):Prop where
 base:Same H0 H
 led:U7 C H p lr ld R
 krs:H kR=some (.lst (ls.map V.ref))
 rls:RLs H ls S
 sep:∀ l∈ls,l≠lr/\l≠kR
structure C1(H0:Hp)(lr ld kR:Addr):Prop where
 fr:H0 lr=none
 fd:H0 ld=none
 fk:H0 kR=none
 rk:lr≠kR
theorem zci(h1:∀ Q:Bool->Hp->Prop,Q b H->t σ H Q)(h2:∀ Q:Bool->Hp->Prop,Q c H->u σ H Q)(Q:Bool->Hp->Prop)(h:Q (b&&c) H):zif t u σ H Q:=by
 refine h1 _ ?_;cases b with
 | true=>exact h2 _ h
 | false=>exact h
def Tt(Rs:List (List Row))(n c rest:Int):Bool:=decide ((if (0:Int)>(Rs.length:Nat)-rest then 0 else ((Rs.length:Nat):Int)-rest)<(metS Rs n c:Nat))
inductive Cw(C:Addr)(vs:List V)(H:Hp)(Q:VK)(_:XK):Prop where
 | mk(p)(lr)(ld)(Rs)(n)(c)(rest)(_:vs=[.int n,.int c,.ref p,.int rest])(_:U7 C H p lr ld Rs)(_:∀ H',Same H H'->Q (.bl (Tt Rs n c rest)) H')
def bw(b:Bool)(w:Str):List Str:=if b then [w] else []
def Ku(Rs:List (List Row))(n g c h gu d:Int)(o:Bool)(rest:Int):List Str :=
 bw o "away"++(bw (decide (g<d)) "grade"++(bw (decide (c=h)||decide (c=gu)) "club"++bw (Tt Rs n h rest||Tt Rs n gu rest) "met"))
inductive Fs(K:Frag)(C:Addr)(vs:List V)(H:Hp)(Q:VK)(_:XK):Prop where
 | mk(t1 t2 p lr ld:Addr)(Rs:List (List Row))(n g c h gu d rest:Int)(o:Bool)(_:vs=[.ref t1,.ref t2,.bl o,.ref p,.int rest])(_:H t1=some (.tup [.int n,.int g,.int c]))(_:H t2=some (.tup [.int h,.int gu,.int d]))(_:U7 C H p lr ld Rs)(_:∀ l H',H' l=some (.lst ((Ku Rs n g c h gu d o rest).map V.str))->Same H H'->H l=none->Q (.ref l) H')
def Gr(c:TT)(σ:L2.St)(H:Hp)(b:Bool):Prop:=∀ Q:Bool->Hp->Prop,(∀ H1,Same H H1->Q b H1)->c σ H Q
theorem zd6(h1:Gr t σ H b)(h2:∀ H1,Same H H1->Gr u σ H1 c):Gr (tOr t u) σ H (b||c):=fun Q h=>by
 refine h1 _ fun H1 s1=>?_;cases b with
 | true=>exact h H1 s1
 | false=>exact h2 H1 s1 _ fun H2 s2=>h H2 (s1.trans s2)
theorem E4(h:∀ Q:Bool->Hp->Prop,Q b H->c σ H Q):Gr c σ H b:=fun Q q=>h Q (q H (Same.refl H))
theorem Jk(hc:Gr c σ H b)(h0:H0 l=none)(s:Same H0 H)(hl:H l=some (.lst (xs.map V.str)))(hx:xs.length<=100)(hv:σ[i]?=some (some (.ref l)))
  (h3:∀ H',Same H0 H'->H' l=some (.lst ((xs++bw b w).map V.str))->(∀ b o,H b=some o->b≠l->H' b=some o)->u D σ H'):Zw (Ac c (zjj (tVar i) (tC (.str w))) zc9) u D σ H:=by
 refine hc _ fun H1 s1=>?_;have hl1:=s1 _ _ hl;cases b with
 | true =>
   rw[if_pos rfl];refine⟨_,hv,l,_,rfl,hl1,_,hl1,Yn (by rw[zs4];omega),?_⟩;refine h3 _ (Z8 h0 (s.trans s1)) ?_ fun b o e n=>by rw[Zh n];exact s1 _ _ e
   rw[Ze,zti];rfl
 | false =>
   rw[if_neg ⋯];exact h3 _ (s.trans s1) (by rw[show bw false w=[] from rfl,zui];exact hl1) fun b o e _=>s1 _ _ e
theorem Av(b:Bool)(w:Str):(bw b w).length<=1:=by cases b<;>simp[bw]
inductive zgo(vs:List V)(H:Hp)(Q:VK)(_:XK):Prop where
 | mk(c:Int)(many:Nat)(bs:Int)(mixed:Bool)(_:vs=[.int c,.int many,.int bs,.bl mixed])(_:many<=100)(_:0<bs)(_:bs<=1000)(_:∀ l (xs:List Int) H',H' l=some (.lst (xs.map V.int))->xs.length=many->(∀ x∈xs,0<=x/\x<bs)->Same H H'->H l=none->Q (.ref l) H')
theorem zf1:x<metS Rs n c↔∃ (j:Nat) (r:List Row),Rs[j]?=some r/\r.any (hit n c)=true/\x<j+1:=by
 have gen:∀ (Rs:List (List Row)) (p:Nat×Nat),p.2<=p.1->(x<(Rs.foldl (fun p rs=>(p.1+1,if rs.any (hit n c) then p.1+1 else p.2)) p).2↔(∃ (j:Nat) (r:List Row),Rs[j]?=some r/\r.any (hit n c)=true/\x<p.1+j+1)\/x<p.2):=fun Rs=>by
  induction Rs with
  | nil=>intro p hp;simp
  | cons r Rs ih =>
    intro p hp;rw[List.foldl_cons,ih _ (by show (if r.any (hit n c) then p.1+1 else p.2)<=p.1+1;split<;>omega)];show ((∃ (j:Nat) (r':List Row),Rs[j]?=some r'/\r'.any (hit n c)=true/\x<p.1+1+j+1)\/x<(if r.any (hit n c) then p.1+1 else p.2))↔_;constructor
    ·rintro(⟨j,r',h1,h2,h3⟩|h)
     ·exact .inl ⟨j+1,r',by simpa using h1,h2,by omega⟩
     ·by_cases hr:r.any (hit n c)=true
      ·rw[if_pos hr] at h;exact .inl ⟨0,r,rfl,hr,by omega⟩
      ·rw[if_neg hr] at h;exact .inr h
    ·rintro(⟨j,r',h1,h2,h3⟩|h)
     ·cases j with
      | zero =>
        have e:r=r':=by simpa using h1
        subst e;exact .inr (by rw[if_pos h2];omega)
      | succ j=>exact .inl ⟨j,r',by simpa using h1,h2,by omega⟩
     ·right
      split<;>omega
 have:=gen Rs (0,0) (ztc _);unfold metS E3;rw[this];simp
theorem Cy(c:Int)(hi:i<40)(hj:j<40)(h:numS c i=numS c j):i=j:=by
 unfold numS at h;have hs:stp c=1\/stp c=2\/stp c=5\/stp c=10\/stp c=100\/stp c=500\/stp c=998:=by
  unfold stp;have h0:0<=c%7:=by omega
  have h1:c%7<7:=by omega
  generalize c%7=r at h0 h1;obtain⟨k,rfl⟩:∃ k:Nat,r=k:=⟨r.toNat,by omega⟩;rw[ztl];have hk:k<7:=by omega
  match k,hk with
  | 0,_=>simp
  | 1,_=>simp
  | 2,_=>simp
  | 3,_=>simp
  | 4,_=>simp
  | 5,_=>simp
  | 6,_=>simp
 generalize c/7=x at h;rcases hs with e|e|e|e|e|e|e<;>rw[e] at h<;>omega +splitMinMax
end G
namespace L2
open PySem PySem.Spec PyProof.Rows
theorem zd7(its:List Value):∀ n,n<=its.length->((List.range n).filterMap fun k=>its[its.length-1-k]?)=(its.drop (its.length-n)).reverse:=fun n=>by
 induction n with
 | zero=>intro _;simp
 | succ n ih =>
   intro h;rw[zu5,List.filterMap_append,ih ⋯];have hl:its.length-1-n<its.length:=by omega
   have e:its.drop (its.length-(n+1))=(its[its.length-1-n]'hl) :: its.drop (its.length-n):=by
    have:=List.drop_eq_getElem_cons (l:=its) (i:=its.length-1-n) hl;rw[show its.length-(n+1)=its.length-1-n by omega,this,show its.length-1-n+1=its.length-n by omega]
   rw[e,zuu]
   congr 1
   simp[zs5 hl]
theorem Gn(its:List Value):slicePick its.toArray none none (some (-1))=its.reverse.toArray:=by
 unfold slicePick;have hb:sliceBounds none none (some (-1)) its.toArray.size=((its.length:Int)-1,-1,-1):=by simp[sliceBounds]
 rw[hb];show ((sliceRange ((its.length:Int)-1) (-1) (-1)).filterMap (its.toArray[·]?)).toArray=_;have hr:sliceRange ((its.length:Int)-1) (-1) (-1)=(List.range its.length).map fun k=>its.length-1-k:=by
  unfold sliceRange;have hc:(if (-1:Int)>0 then (if (its.length:Int)-1 < -1 then (-1-((its.length:Int)-1) + -1-1) / -1 else 0) else (if (its.length:Int)-1 > -1 then ((its.length:Int)-1 - -1 - -1-1)/(- -1) else 0))=(its.length:Int):=by
   rw[if_neg ⋯];split
   ·show ((its.length:Int)-1 - -1 - -1-1)/1=_;rw[Int.ediv_one];omega
   ·omega
  show (List.range (Int.toNat (if (-1:Int)>0 then (if (its.length:Int)-1 < -1 then (-1-((its.length:Int)-1) + -1-1) / -1 else 0) else (if (its.length:Int)-1 > -1 then ((its.length:Int)-1 - -1 - -1-1)/(- -1) else 0)))).map (fun (k:Nat)=>((its.length:Int)-1 + -1*(k:Int)).toNat)=_;rw[hc,ztl];refine zun fun k hk=>?_;have:=zt5.mp hk;omega
 rw[hr,List.filterMap_map];have:=zd7 its its.length (ztc _);rw[Nat.sub_self,List.drop_zero] at this;rw[<- this]
 congr 2
 funext k
 simp
inductive zjl(K:Frag)(Q:VK)(x:V)(z:V)(H2:Hp):Prop where
 | mk(_:z=.int (-1))(_:∃ a xs,x=.ref a/\SqL K H2 a xs/\∀ p,H2 p=none->Q (.ref p) (upd H2 p (.lst xs.reverse)))
def zkk(K:Frag)(te tc:TE):TE:=fun σ H Q=>te σ H fun x H1=>tc σ H1 fun z H2=>zjl K Q x z H2
theorem zd8{X:Cx}{K:Frag}{e c:Expr}{te tc:TE}{p2 pos:Pos}(hK:X.K=K)(he:PE X e te)(hc:PE X c tc):PE X (.Subscript e (.Slice none none (some c) p2) pos) (zkk K te tc):=by
 subst hK;intro pins s σ H Q I h;refine Subscript_ (thn (he pins s σ H _ I h) fun v s1 ⟨x,H1,I1,r1,q1⟩=>?_);refine wpAny_Slice ?_;rw[evalPart_none,evalPart_some];refine wpAny_pure (wpAny_pure (thn (hc pins s1 σ H1 _ I1 q1) fun vc s2 ⟨z,H2,I2,r2,ez,a,xs,ex,hx,q⟩=>?_));subst ez ex;cases r1;obtain⟨t,rfl⟩:=r2;have I4:Inv X pins σ H2 { s2 with heap:=s2.heap.push { cls:=.type "slice",data:=.fields #[.none,.none,.int (-1) t] } }:=I2.kept (t':=s2.toks) fun b ob q=>Heap.get?_push_of_some _ q;obtain⟨its,r,ht,hz⟩:=I4.list hx;have hlen:=r.length;show wpAny (model X.prog X.w) X.A (subscriptTail e (.Slice none none (some c) p2) (.ref a) (.ref s2.heap.objs.size)) (EP X pins σ Q) X.xe { s2 with heap:=s2.heap.push { cls:=.type "slice",data:=.fields #[.none,.none,.int (-1) t] } };refine tail_any (ops:=[.ref a,.ref s2.heap.objs.size]) ht.isList.typeIs slot_list_getitem.lookup ?_ (by with_unfolding_all rfl);refine wpAny_getItem_list_slice ht.isList (Heap.IsSliceOf.new ..) .none .none (.int (-1) t) ⋯ ?_ (by rw[ztj]<;>omega);rw[Gn];refine⟨.ref _,_,I4.laid (t':=s2.toks) (o:=.lst xs.reverse) (fun b ob q=>Heap.get?_push_of_some _ q) (ztc _) ?_,rfl,q _ (I4.hok.fresh (ztc _))⟩;exact⟨by rw[zu7];exact hz,_,0,r.reverse,Heap.get?_push_size _ rfl⟩
end L2
namespace G
open PySem PySem.Spec PyProof.Rows L2
abbrev P3:=Int×Int×Int
def pV(m:P3):List V:=[.int m.1,.int m.2.1,.int m.2.2]
theorem zd9{H:Hp}{ts:List V}{Ms:List P3}{i:Nat}{x:V}(h:TupL H ts (Ms.map pV))(e:ts[i]?=some x):∃ t m,x=.ref t/\Ms[i]?=some m/\H t=some (.tup (pV m)):=by
 obtain⟨t,r,h1,h2,h3⟩:=h.get e;rw[zs7] at h2;cases q:Ms[i]? with
 | none=>rw[q] at h2;cases h2
 | some m=>rw[q] at h2;cases h2;exact⟨t,m,h1,rfl,h3⟩
theorem TupL.reverse:∀ {ts:List V} {R:List (List V)},TupL H ts R->TupL H ts.reverse R.reverse
 | _,_,.nil=>.nil
 | _,_,.cons h q=>by rw[zuu,zuu];exact(TupL.reverse q).snoc h
def Po(Rs:List (List Row))(h gu d:Int)(os:List V)(rest:Int)(m:P3):Bool:=(Ku Rs m.1 m.2.1 m.2.2 h gu d (inV (.int m.1) os) rest).isEmpty
inductive Cz(K:Frag)(C:Addr)(vs:List V)(H:Hp)(Q:VK)(_:XK):Prop where
 | mk(lp lo tm p lr ld:Addr)(Rs:List (List Row))(ts:List V)(Ms:List P3)(os:List V)(h gu d rest:Int)(_:vs=[.ref lp,.ref tm,.ref lo,.ref p,.int rest])(_:H lp=some (.lst ts))(_:TupL H ts (Ms.map pV))(_:H lo=some (.lst os))(_:(∀ x∈os,oneV x))(_:H tm=some (.tup [.int h,.int gu,.int d]))(_:U7 C H p lr ld Rs)(_:Ms.length<=1000)(_:∀ l H',H' l=some (.lst ((Ms.filter (Po Rs h gu d os rest)).map fun m=>V.int m.1))->Same H H'->H l=none->Q (.ref l) H')
def Wq(xs:List V):List Nat:=(List.range xs.length).filter fun i=>decide (xs[i]?=some .non)
inductive zea(K:Frag)(vs:List V)(H:Hp)(Q:VK)(_:XK):Prop where
 | mk(b:Addr)(xs:List V)(_:vs=[.ref b])(_:H b=some (.lst xs))(_:(∀ x∈xs,oneV x))(_:xs.length<=100)(_:∀ l H',H' l=some (.lst ((Wq xs).map fun i=>V.int (i:Nat)))->Same H H'->H l=none->Q (.ref l) H')
def Wr(xs:List V)(n:Int):Option Nat:=(List.range xs.length).find? fun i=>decide (xs[i]?=some (.int n))
def oN:Option Nat->V
 | none=>.non
 | some i=>.int i
inductive Ft(K:Frag)(vs:List V)(H:Hp)(Q:VK)(_:XK):Prop where
 | mk(b:Addr)(xs:List V)(n:Int)(_:vs=[.ref b,.int n])(_:H b=some (.lst xs))(_:(∀ x∈xs,oneV x))(_:xs.length<=100)(_:∀ H',Same H H'->Q (oN (Wr xs n)) H')
def Yh:List (Nat×Option Int)->List V->List V
 | [],xs=>xs
 | (p,w) :: r,xs=>Yh r (xs.set p (oV w))
def Wf(s:Nat×Option Int):List V:=[.int (s.1:Nat),oV s.2]
inductive Rt(K:Frag)(vs:List V)(H:Hp)(Q:VK)(_:XK):Prop where
 | mk(b c:Addr)(xs ts:List V)(st:List (Nat×Option Int))(_:vs=[.ref b,.ref c])(_:H b=some (.lst xs))(_:H c=some (.lst ts))(_:TupL H ts (st.map Wf))(_:(∀ s∈st,s.1<xs.length))(_:(∀ x∈xs,oneV x))(_:xs.length<=100)(_:st.length<=100)(_:∀ l H',H' l=some (.lst (Yh st xs))->Same H H'->H l=none->Q (.ref l) H')
theorem Xs:∀ (st:List (Nat×Option Int)) (xs:List V),(Yh st xs).length=xs.length
 | [],_=>rfl
 | (p,w) :: r,xs=>by rw[Yh,Xs r,zu0]
theorem zeb{xs:List Int}{k:Nat}(hk:k<xs.length):(xs.map V.int)[k]?=some (.int (xs.getD k 0)):=by
 rw[zs7,zs5 hk,ztq,zs5 hk];rfl
theorem Kj(xs:List V)(n:Int):(Wr xs n=none/\∀ i:Nat,xs[i]?≠some (V.int n))\/∃ i:Nat,Wr xs n=some i/\xs[i]?=some (V.int n):=by
 unfold Wr;cases h:(List.range xs.length).find? fun i=>decide (xs[i]?=some (.int n)) with
 | none =>
   refine .inl ⟨rfl,fun i e=>?_⟩;have hi:i<xs.length:=(zs6.mp e).1;have:=List.find?_eq_none.mp h i (zt5.mpr hi);exact this (zta e)
 | some i =>
   have:=List.find?_some h;exact .inr ⟨i,rfl,of_decide_eq_true this⟩
theorem zcj(xs:List V)(k:Nat):En xs (some (k:Int)) none=xs.drop k:=by
 unfold En;rw[HT.sIx_nat,HT.sIx_none];by_cases h:k<=xs.length
 ·rw[Nat.min_eq_left h,<- zu8,zto]
 ·rw[Nat.min_eq_right ⋯,List.drop_length,List.take_nil,List.drop_eq_nil_of_le ⋯]
inductive ILs(H:Hp):List Addr->List (List Int)->Prop where
 | nil:ILs H [] []
 | cons {l:Addr} {ls:List Addr} {r:List Int} {R:List (List Int)} (h:H l=some (.lst (r.map V.int))) (n:ILs H ls R):ILs H (l :: ls) (r :: R)
theorem ILs.keep:∀ {ls:List Addr} {R:List (List Int)},(∀ l∈ls,∀ o,H l=some o->H' l=some o)->ILs H ls R->ILs H' ls R
 | _,_,_,.nil=>.nil
 | _,_,k,.cons h r=>.cons (k _ ztz _ h) (ILs.keep (fun l hl=>k l (ztx _ hl)) r)
theorem ILs.same(e:Same H H')(h:ILs H ls R):ILs H' ls R:=h.keep fun l _ o q=>e _ _ q
theorem ILs.length:∀ {ls:List Addr} {R:List (List Int)},ILs H ls R->ls.length=R.length
 | _,_,.nil=>rfl
 | _,_,.cons _ r=>by simp[ILs.length r]
theorem ILs.snoc(h:H l=some (.lst (x.map V.int))):∀ {ls:List Addr} {R:List (List Int)},ILs H ls R->ILs H (ls++[l]) (R++[x])
 | _,_,.nil=>.cons h .nil
 | _,_,.cons h' r=>.cons h' (ILs.snoc h r)
theorem ILs.reverse:∀ {ls:List Addr} {R:List (List Int)},ILs H ls R->ILs H ls.reverse R.reverse
 | _,_,.nil=>.nil
 | _,_,.cons h q=>by rw[zuu,zuu];exact(ILs.reverse q).snoc h
theorem ILs.has:∀ {ls:List Addr} {R:List (List Int)} {l:Addr},ILs H ls R->l∈ls->∃ xs,H l=some (.lst xs)
 | _,_,_,.nil,e=>by simp at e
 | _,_,_,.cons h r,e=>by
   rcases ztf.mp e with rfl|e
   ·exact⟨_,h⟩
   ·exact ILs.has r e
theorem ILs.getR:∀ {ls:List Addr} {R:List (List Int)} {i:Nat} {r:List Int},ILs H ls R->R[i]?=some r->∃ l,ls[i]?=some l/\H l=some (.lst (r.map V.int))
 | _,_,_,_,.nil,e=>by simp at e
 | _,_,0,_,.cons h _,e=>by simp at e;subst e;exact⟨_,rfl,h⟩
 | _,_,i+1,x,.cons _ r,e=>by
   obtain⟨t,h1,h2⟩:=ILs.getR (i:=i) (r:=x) r (by simpa using e);exact⟨t,by simpa using h1,h2⟩
theorem ILs.getL:∀ {ls:List Addr} {R:List (List Int)} {i:Nat} {l:Addr},ILs H ls R->ls[i]?=some l->∃ r,R[i]?=some r/\H l=some (.lst (r.map V.int))
 | _,_,_,_,.nil,e=>by simp at e
 | _,_,0,_,.cons h _,e=>by simp at e;subst e;exact⟨_,rfl,h⟩
 | _,_,i+1,x,.cons _ r,e=>by
   obtain⟨t,h1,h2⟩:=ILs.getL (i:=i) (l:=x) r (by simpa using e);exact⟨t,by simpa using h1,h2⟩
structure Ws(rows:List (List Int))(nu:List Int):Prop where
 few:rows.length<=20
 crowd:nu.length<=30
 inj:nu.Nodup
 rng:∀ n∈nu,1<=n/\n<=999
 sub:∀ r∈rows,r.Nodup/\∀ n∈r,n∈nu
theorem Ws.len(h:Ws rows nu)(hr:r∈rows):r.length<=30 :=
 ztk ((h.sub r hr).1.length_le_of_subset (fun x hx=>(h.sub r hr).2 x hx)) h.crowd
inductive za6(K:Frag)(vs:List V)(H:Hp)(Q:VK)(_:XK):Prop where
 | mk(b:Addr)(ns:List Int)(most crowd:Nat)(_:vs=[.ref b,.int most,.int crowd])(_:SqL K H b (ns.map V.int))(_:most<=20)(_:crowd<=30)(_:∀ l ls rows nu H',H' l=some (.lst (ls.map V.ref))->ILs H' ls rows->Ws rows nu->rows.length<=most->nu.length<=crowd->Same H H'->H l=none->(∀ x∈ls,H x=none)->Q (.ref l) H')
inductive zec(vs:List V)(H:Hp)(Q:VK)(_:XK):Prop where
 | mk(s k j f:Int)(_:vs=[.int s,.int k,.int j,.int f])(_:∀ bb,Q (.bl bb) H)
structure Ya(rows:List (List Int))(gs:List V):Prop where
 len:gs.length=rows.length
 one:∀ x∈gs,oneV x
 may:∀ (k:Nat) (n:Int),gs[k]?=some (.int n)->∃ r,rows[k]?=some r/\n∈r
 inj:∀ (j k:Nat) (n:Int),gs[j]?=some (.int n)->gs[k]?=some (.int n)->j=k
def Qc(rows:List (List Int))(gs:List V)(p:Nat):Prop:=∃ S:Nat->Prop,S p/\∀ q,S q->q<rows.length/\∀ r,rows[q]?=some r->∀ n∈r,∃ q',q' < p/\gs[q']?=some (.int n)/\S q'
def Wl(rows:List (List Int))(gs:List V):Prop:=∀ p,gs[p]?=some .non->Qc rows gs p
inductive zed(K:Frag)(vs:List V)(H:Hp)(Q:VK)(_:XK):Prop where
 | mk(l:Addr)(ls:List Addr)(rows:List (List Int))(nu:List Int)(_:vs=[.ref l])(_:H l=some (.lst (ls.map V.ref)))(_:ILs H ls rows)(_:Ws rows nu)(_:∀ l' gs H',H' l'=some (.lst gs)->Ya rows gs->Wl rows gs->Same H H'->H l'=none->Q (.ref l') H')
inductive Kk(K:Frag)(vs:List V)(H:Hp)(Q:VK)(_:XK):Prop where
 | mk(l lg:Addr)(ls:List Addr)(rows:List (List Int))(gs:List V)(_:vs=[.ref l,.ref lg])(_:H l=some (.lst (ls.map V.ref)))(_:ILs H ls rows)(_:rows.length<=100)(_:H lg=some (.lst gs))(_:Ya rows gs)(_:∀ H',Same H H'->Q (.bl true) H')
inductive J2(K:Frag)(vs:List V)(H:Hp)(Q:VK)(_:XK):Prop where
 | mk(l m:Addr)(ls ms:List Addr)(rows:List (List Int))(_:vs=[.ref l,.ref m])(_:H l=some (.lst (ls.map V.ref)))(_:H m=some (.lst (ms.map V.ref)))(_:ILs H ls rows)(_:ILs H ms rows)(_:rows.length<=100)(_:(∀ r∈rows,r.length<=1000))(_:Q (.bl true) H)
theorem Sl{n:Int}{r:List Int}:inV (.int n) (r.map V.int)=decide (n∈r):=by
 induction r with
 | nil=>rfl
 | cons x r ih =>
   unfold inV at ih ⊢;rw[ztm,zvd,ih];have e:eqV (.int x) (.int n)=decide (n=x):=by
    show (x == n)=_;by_cases h:n=x
    ·subst h;simp
    ·rw[ztd h];exact zty.mpr (Ne.symm h)
   rw[e];by_cases h:n=x
   ·subst h;simp
   ·by_cases h2:n∈r<;>simp[h,h2]
theorem Om(r:List Int):(r.map V.int).all U4=true:=by
 rw[List.all_map];exact zut.mpr fun _ _=>rfl
theorem C0{r:List Int}:∀ x∈r.map V.int,oneV x:=fun x hx=>by
 obtain⟨n,_,rfl⟩:=zte.mp hx;exact .inr ⟨n,rfl⟩
end G
namespace G
open PySem PySem.Spec PyProof.Rows L2
def newS(st:List (Nat×Option Int))(k:Nat):List V:=(st.filter fun s=>decide (s.1=k)).map fun s=>oV s.2
theorem Fu:∀ (st:List (Nat×Option Int)) (xs:List V) (k:Nat),(st.map (·.1)).Nodup->k<xs.length->(Yh st xs)[k]?=some ((newS st k++[xs.getD k .non]).getD 0 .non)
 | [],xs,k,_,hk=>by
   rw[Yh,zs5 hk];show _=some (xs.getD k .non);rw[ztq,zs5 hk];rfl
 | (p,w) :: r,xs,k,nd,hk=>by
   rw[ztm,zt0] at nd;rw[Yh,Fu r _ k nd.2 (by rw[zu0];exact hk)];by_cases h:p=k
   ·subst h;have e:newS r p=[]:=by
     unfold newS;rw[List.map_eq_nil_iff,List.filter_eq_nil_iff];intro s hs z;exact nd.1 (zte.mpr ⟨s,hs,of_decide_eq_true z⟩)
    have e2:newS ((p,w) :: r) p=oV w :: newS r p:=by
     unfold newS;rw[zt8,if_pos (zta rfl),ztm]
    rw[e2,e];show some ((xs.set p (oV w)).getD p .non)=some (oV w);rw[ztq,zuh hk];rfl
   ·have e2:newS ((p,w) :: r) k=newS r k:=by
     unfold newS;rw[zt8,if_neg (by rw[ztd h];decide)]
    rw[e2];have e3:(xs.set p (oV w)).getD k .non=xs.getD k .non:=by
     rw[ztq,ztq,zug h]
    rw[e3]
section
variable{rows:List (List Int)}{gs:List V}
def adjN(rows:List (List Int))(gs:List V)(q:Nat)(n:Int)(q':Nat):Prop:=(∃ r,rows[q]?=some r/\n∈r)/\gs[q']?=some (.int n)
def Pp(rows:List (List Int))(gs:List V)(q:Nat)(n:Int):Prop:=(∃ r,rows[q]?=some r/\n∈r)/\∀ j:Nat,gs[j]?≠some (V.int n)
def Xl(rows:List (List Int))(gs:List V)(q:Nat):Prop:=∃ n,Pp rows gs q n
inductive Walk(rows:List (List Int))(gs:List V)(p:Nat):Nat->Nat->Prop where
 | nil:Walk rows gs p p 0
 | snoc {q q' k:Nat} {n:Int} (h:Walk rows gs p q k) (a:adjN rows gs q n q'):Walk rows gs p q' (k+1)
theorem Walk.cons(a:adjN rows gs p n p')(h:Walk rows gs p' q k):Walk rows gs p q (k+1):=by
 induction h with
 | nil=>exact .snoc .nil a
 | snoc _ a' ih=>exact .snoc ih a'
inductive Ch(rows:List (List Int))(gs:List V):Nat->List (Nat×Option Int)->Nat->Option Int->Prop where
 | one (q:Nat) (w:Option Int):Ch rows gs q [(q,w)] q w
 | step {q q' e:Nat} {n:Int} {st:List (Nat×Option Int)} {w:Option Int} (a:adjN rows gs q n q') (h:Ch rows gs q' st e w):Ch rows gs q ((q,some n) :: st) e w
theorem Ch.pos{q e:Nat}{st:List (Nat×Option Int)}{w:Option Int}(h:Ch rows gs q st e w):0<st.length:=by cases h<;>simp
theorem Ch.walk{q e:Nat}{st:List (Nat×Option Int)}{w:Option Int}(h:Ch rows gs q st e w):Walk rows gs q e (st.length-1):=by
 induction h with
 | one q w=>exact .nil
 | step a h ih =>
   have:=h.pos;have e:=Walk.cons a ih;rw[ztt,Nat.add_sub_cancel];rw[Nat.sub_add_cancel this] at e;exact e
theorem Ch.drop{q e:Nat}{st:List (Nat×Option Int)}{w:Option Int}(h:Ch rows gs q st e w):∀ x∈st.map (·.1),∃ st',Ch rows gs x st' e w/\st'.length<=st.length:=by
 induction h with
 | one q w=>intro x hx;simp at hx;subst hx;exact⟨_,.one _ _,ztc _⟩
 | @step q q' e n st w a h ih =>
   intro x hx;rw[ztm] at hx;rcases ztf.mp hx with z|z
   ·subst z;exact⟨_,.step a h,ztc _⟩
   ·obtain⟨st',h1,h2⟩:=ih x z;exact⟨st',h1,by rw[ztt];omega⟩
theorem Ch.hd{q e:Nat}{st:List (Nat×Option Int)}{w:Option Int}(h:Ch rows gs q st e w):∃ x r,st=(q,x) :: r:=by cases h<;>exact⟨_,_,rfl⟩
theorem Ch.last{q e:Nat}{st:List (Nat×Option Int)}{w:Option Int}(h:Ch rows gs q st e w):e∈st.map (·.1):=by
 induction h with
 | one q w=>simp
 | step a h ih=>rw[ztm];exact ztx _ ih
theorem Ch.nodup{q e:Nat}{st:List (Nat×Option Int)}{w:Option Int}(h:Ch rows gs q st e w)(hm:∀ k,Walk rows gs q e k->st.length<=k+1):(st.map (·.1)).Nodup:=by
 induction h with
 | one q w=>simp
 | @step q q' e n st w a h ih =>
   rw[ztm,zt0];refine⟨fun hq=>?_,ih fun k hk=>?_⟩
   ·obtain⟨st',h1,h2⟩:=h.drop q hq;have:=hm _ h1.walk;have:=h1.pos;rw[ztt] at *;omega
   ·have:=hm _ (Walk.cons a hk);rw[ztt] at this;omega
theorem Ch.mem{q e:Nat}{st:List (Nat×Option Int)}{w:Option Int}(h:Ch rows gs q st e w):∀ (k:Nat) (n:Int),(k,some n)∈st->(adjN rows gs k n k\/True)/\(((∃ r,rows[k]?=some r/\n∈r)/\∃ k',gs[k']?=some (V.int n)/\k'∈st.tail.map (·.1))\/(w=some n/\k=e)):=by
 induction h with
 | one q w =>
   intro k n hk;simp at hk;exact⟨.inr trivial,.inr ⟨hk.2.symm,hk.1⟩⟩
 | @step q q' e n' st w a h ih =>
   intro k n hk;refine⟨.inr trivial,?_⟩;rcases ztf.mp hk with z|z
   ·cases z;refine .inl ⟨a.1,q',a.2,?_⟩;obtain⟨x,r,e⟩:=h.hd;rw[e];simp
   ·rcases(ih k n z).2 with ⟨h1,k',h2,h3⟩|h1
    ·refine .inl ⟨h1,k',h2,?_⟩;show k'∈st.map (·.1);obtain⟨x,r,e⟩:=h.hd;rw[e] at h3 ⊢;exact ztx _ h3
    ·exact .inr h1
theorem Ch.inj{q e:Nat}{st:List (Nat×Option Int)}{w:Option Int}(FP:Ya rows gs)(h:Ch rows gs q st e w)(hw:∀ n,w=some n->∀ j:Nat,gs[j]?≠some (V.int n))(nd:(st.map (·.1)).Nodup):∀ (j k:Nat) (n:Int),(j,some n)∈st->(k,some n)∈st->j=k:=by
 induction h with
 | one q w=>intro j k n h1 h2;simp at h1 h2;rw[h1.1,h2.1]
 | @step q q' e n' st w a h ih =>
   intro j k n h1 h2;rw[ztm,zt0] at nd;have key:∀ k,(k,some n')∈st->False:=fun k hk=>by
    rcases(h.mem k n' hk).2 with ⟨_,k',h2,h3⟩|⟨h1,_⟩
    ·have e:k'=q':=FP.inj k' q' n' h2 a.2;subst e;obtain⟨x,r,e⟩:=h.hd;have nd2:=nd.2;rw[e] at nd2 h3;rw[ztm,zt0] at nd2;exact nd2.1 h3
    ·exact hw n' h1 q' a.2
   rcases ztf.mp h1 with z1|z1<;>rcases ztf.mp h2 with z2|z2
   ·cases z1;cases z2;rfl
   ·cases z1;exact(key k z2).elim
   ·cases z2;exact(key j z1).elim
   ·exact ih hw nd.2 j k n z1 z2
theorem zee{st:List (Nat×Option Int)}{k:Nat}(nd:(st.map (·.1)).Nodup):(k∉st.map (·.1)/\newS st k=[])\/∃ w,(k,w)∈st/\newS st k=[oV w]:=by
 induction st with
 | nil=>exact .inl ⟨by simp,rfl⟩
 | cons s r ih =>
   obtain⟨p,w⟩:=s;rw[ztm,zt0] at nd;by_cases h:p=k
   ·subst h;refine .inr ⟨w,ztz,?_⟩;rcases ih nd.2 with ⟨_,e⟩|⟨w',h1,_⟩
    ·have e2:newS ((p,w) :: r) p=oV w :: newS r p:=by
      unfold newS;rw[zt8,if_pos (zta rfl),ztm]
     rw[e2,e]
    ·exact absurd (zte.mpr ⟨_,h1,rfl⟩) nd.1
   ·have e2:newS ((p,w) :: r) k=newS r k:=by
     unfold newS;rw[zt8,if_neg (by rw[ztd h];decide)]
    rw[e2];rcases ih nd.2 with ⟨h1,e⟩|⟨w',h1,e⟩
    ·exact .inl ⟨fun z=>by rcases ztf.mp z with q|q;exact h q.symm;exact h1 q,e⟩
    ·exact .inr ⟨w',ztx _ h1,e⟩
theorem Wt{st:List (Nat×Option Int)}{xs:List V}{k:Nat}(nd:(st.map (·.1)).Nodup)(hk:k<xs.length):(k∉st.map (·.1)/\(Yh st xs)[k]?=xs[k]?)\/∃ w,(k,w)∈st/\(Yh st xs)[k]?=some (oV w):=by
 rw[Fu st xs k nd hk];rcases zee (k:=k) nd with ⟨h,e⟩|⟨w,h,e⟩
 ·refine .inl ⟨h,?_⟩;rw[e];show some (xs.getD k .non)=_;rw[ztq,zs5 hk];rfl
 ·exact .inr ⟨w,h,by rw[e];rfl⟩
theorem Ch.lt{q e:Nat}{st:List (Nat×Option Int)}{w:Option Int}(FP:Ya rows gs)(h:Ch rows gs q st e w)(hq:q<rows.length):∀ s∈st,s.1<rows.length:=by
 induction h with
 | one q w=>intro s hs;simp at hs;subst hs;exact hq
 | @step q q' e n st w a h ih =>
   intro s hs;rcases ztf.mp hs with z|z
   ·subst z;exact hq
   ·refine ih ?_ s z;have:=(zs6.mp a.2).1;rw[FP.len] at this;exact this
theorem Ch.fill{q e:Nat}{st:List (Nat×Option Int)}{w:Option Int}(FP:Ya rows gs)(h:Ch rows gs q st e w)(hq:q<rows.length)(hw:∀ n,w=some n->Pp rows gs e n)(nd:(st.map (·.1)).Nodup):Ya rows (Yh st gs):=by
 have hlt:=h.lt FP hq;have hinj:=h.inj FP (fun n hn=>(hw n hn).2) nd;have src:∀ (k:Nat) (n:Int),(k,some n)∈st->(∃ r,rows[k]?=some r/\n∈r)/\∀ j:Nat,gs[j]?=some (V.int n)->j∈st.map (·.1):=fun k n hk=>by
  rcases(h.mem k n hk).2 with ⟨h1,k',h2,h3⟩|⟨h1,rfl⟩
  ·refine⟨h1,fun j hj=>?_⟩;rw[FP.inj j k' n hj h2];obtain⟨x,r,e⟩:=h.hd;rw[e] at h3 ⊢;exact ztx _ h3
  ·exact⟨(hw n h1).1,fun j hj=>absurd hj ((hw n h1).2 j)⟩
 have cs:∀ k,k<gs.length->(k∉st.map (·.1)/\(Yh st gs)[k]?=gs[k]?)\/∃ w,(k,w)∈st/\(Yh st gs)[k]?=some (oV w):=fun k hk=>Wt nd hk;have at_:∀ (k:Nat) (n:Int),(Yh st gs)[k]?=some (V.int n)->(k∉st.map (·.1)/\gs[k]?=some (V.int n))\/(k,some n)∈st:=fun k n hk=>by
  have hkl:k<gs.length:=by
   have:=(zs6.mp hk).1;rw[Xs] at this;exact this
  rcases cs k hkl with ⟨h1,e⟩|⟨w',h1,e⟩
  ·exact .inl ⟨h1,by rw[<- e];exact hk⟩
  ·rw[e] at hk;cases w' with
   | none=>cases hk
   | some m=>cases hk;exact .inr h1
 refine⟨by rw[Xs];exact FP.len,fun x hx=>?_,fun k n hk=>?_,fun j k n hj hk=>?_⟩
 ·obtain⟨k,hk,rfl⟩:=zt2 hx;have hkl:k<gs.length:=by rw[Xs] at hk;exact hk
  have e0:=zs5 hk;rcases cs k hkl with ⟨_,e⟩|⟨w',_,e⟩
  ·rw[e,zs5 hkl] at e0;rw[<- Option.some.inj e0];exact FP.one _ (ztw hkl)
  ·rw[e] at e0;rw[<- Option.some.inj e0];exact zhv w'
 ·rcases at_ k n hk with ⟨_,h1⟩|h1
  ·exact FP.may k n h1
  ·exact(src k n h1).1
 ·rcases at_ j n hj with ⟨a1,a2⟩|a1<;>rcases at_ k n hk with ⟨b1,b2⟩|b1
  ·exact FP.inj j k n a2 b2
  ·exact absurd ((src k n b1).2 j a2) a1
  ·exact absurd ((src j n a1).2 k b2) b1
  ·exact hinj j k n a1 b1
theorem Ch.out{p0 q e:Nat}{n0:Int}{w:Option Int}{st:List (Nat×Option Int)}{S:Nat->Prop}(FP:Ya rows gs)(hS:∀ q,S q->q<rows.length/\∀ r,rows[q]?=some r->∀ n∈r,∃ q',q' < p0/\gs[q']?=some (.int n)/\S q')(h:Ch rows gs q st e w):w=some n0->Pp rows gs e n0->¬ S q:=by
 induction h with
 | one q w =>
   intro hw hf hs;obtain⟨r,h1,h2⟩:=hf.1;obtain⟨q',_,h3,_⟩:=(hS _ hs).2 r h1 n0 h2;exact hf.2 q' h3
 | @step q q' e n st w a h ih =>
   intro hw hf hs;obtain⟨r,h1,h2⟩:=a.1;obtain⟨q'',_,h3,h4⟩:=(hS q hs).2 r h1 n h2;have:q''=q':=FP.inj q'' q' n h3 a.2;subst this;exact ih hw hf h4
theorem Qc.behind{p0 q e:Nat}{n0:Int}{st:List (Nat×Option Int)}(FP:Ya rows gs)(S0:Qc rows gs p0)(h:Ch rows gs q st e (some n0))(hf:Pp rows gs e n0)(hq:q<rows.length)(nd:(st.map (·.1)).Nodup):Qc rows (Yh st gs) p0:=by
 obtain⟨S,hp,hS⟩:=S0;have outAll:∀ x∈st.map (·.1),¬ S x:=fun x hx=>by
  obtain⟨st',h1,_⟩:=h.drop x hx;exact h1.out FP hS rfl hf
 refine⟨S,hp,fun q1 h1=>⟨(hS q1 h1).1,fun r hr n hn=>?_⟩⟩;obtain⟨q',h2,h3,h4⟩:=(hS q1 h1).2 r hr n hn;refine⟨q',h2,?_,h4⟩;have hkl:q' < gs.length:=(zs6.mp h3).1;rcases Wt nd hkl with ⟨_,e⟩|⟨w,h5,_⟩
 ·rw[e];exact h3
 ·exact absurd h4 (outAll q' (zte.mpr ⟨_,h5,rfl⟩))
structure Y2(rows:List (List Int))(gs:List V)(p:Nat)(st:List (Nat×Option Int))(e:Nat)(w:Option Int):Prop where
 ch:Ch rows gs p st e w
 free:∀ n,w=some n->Pp rows gs e n/\∀ q k,Walk rows gs p q k->Xl rows gs q->st.length<=k+1
 none:w=none->(∀ q k,Walk rows gs p q k->¬ Xl rows gs q)/\(∀ q k,Walk rows gs p q k->q<=e)/\∀ k,Walk rows gs p e k->st.length<=k+1
theorem Y2.nodup{p e:Nat}{st:List (Nat×Option Int)}{w:Option Int}(c:Y2 rows gs p st e w):(st.map (·.1)).Nodup:=by
 refine c.ch.nodup fun k hk=>?_;cases h:w with
 | none=>exact(c.none h).2.2 k hk
 | some n=>exact(c.free n h).2 e k hk ⟨n,(c.free n h).1⟩
theorem Y2.fill{p e:Nat}{st:List (Nat×Option Int)}{w:Option Int}(FP:Ya rows gs)(c:Y2 rows gs p st e w)(hp:p<rows.length):Ya rows (Yh st gs):=c.ch.fill FP hp (fun n hn=>(c.free n hn).1) c.nodup
theorem zef(FP:Ya rows gs)(hp:p<rows.length)(ha:∀ q n,gs[q]?=some (V.int n)->q<p)(hn:∀ q k,Walk rows gs p q k->¬ Xl rows gs q):Qc rows gs p:=by
 refine⟨fun q=>∃ k,Walk rows gs p q k,⟨0,.nil⟩,fun q ⟨k,hk⟩=>⟨?_,fun r hr n hnr=>?_⟩⟩
 ·cases hk with
  | nil=>exact hp
  | snoc _ a =>
    have:=(zs6.mp a.2).1;rw[FP.len] at this;exact this
 ·by_cases hx:∃ j:Nat,gs[j]?=some (V.int n)
  ·obtain⟨j,hj⟩:=hx;exact⟨j,ha j n hj,hj,k+1,.snoc hk ⟨⟨r,hr,hnr⟩,hj⟩⟩
  ·exact absurd ⟨n,⟨r,hr,hnr⟩,fun j hj=>hx ⟨j,hj⟩⟩ (hn q k hk)
end
section
variable{rows:List (List Int)}{gs:List V}{p:Nat}
structure Bfs(rows:List (List Int))(gs:List V)(p:Nat)(line:List Nat)(dep:Nat->Nat):Prop where
 nodup:line.Nodup
 memp:p∈line
 d0:dep p=0
 walk:∀ q∈line,Walk rows gs p q (dep q)
 sorted:∀ (i j q q':Nat),i<=j->line[i]?=some q->line[j]?=some q'->dep q<=dep q'
def Done(rows:List (List Int))(gs:List V)(line:List Nat)(dep:Nat->Nat)(dn:Nat):Prop:=∀ (i q:Nat),i<dn->line[i]?=some q->∀ n q',adjN rows gs q n q'->q'∈line/\dep q'<=dep q+1
theorem Fv(rows:List (List Int))(gs:List V)(p:Nat):Bfs rows gs p [p] (fun _=>0):=by
 refine⟨by simp,by simp,rfl,fun q hq=>?_,fun i j q q' _ _ _=>ztc _⟩;simp at hq;subst hq;exact .nil
variable{line:List Nat}{dep:Nat->Nat}{dn:Nat}
theorem Bfs.reach(B:Bfs rows gs p line dep)(D:Done rows gs line dep dn)(h:Walk rows gs p q k):(q∈line/\dep q<=k)\/∃ j q',dn<=j/\line[j]?=some q'/\dep q' < k:=by
 induction h with
 | nil=>exact .inl ⟨B.memp,by rw[B.d0];exact ztc _⟩
 | @snoc q q' k n h a ih =>
   rcases ih with ⟨h1,h2⟩|⟨j,x,h1,h2,h3⟩
   ·obtain⟨i,hi,e⟩:=zt2 h1;have e':line[i]?=some q:=by rw[zs5 hi,e]
    by_cases hd:i<dn
    ·obtain⟨a1,a2⟩:=D i q hd e' n q' a;exact .inl ⟨a1,by omega⟩
    ·exact .inr ⟨i,q,by omega,e',by omega⟩
   ·exact .inr ⟨j,x,h1,h2,by omega⟩
theorem Bfs.full(B:Bfs rows gs p line dep)(D:Done rows gs line dep line.length)(h:Walk rows gs p q k):q∈line/\dep q<=k:=by
 rcases B.reach D h with z|⟨j,x,h1,h2,_⟩
 ·exact z
 ·have:=(zs6.mp h2).1;omega
theorem Bfs.early(B:Bfs rows gs p line dep)(D:Done rows gs line dep dn)(hh:line[dn]?=some here)(h:Walk rows gs p q k)(hk:k<dep here):∃ i,i<dn/\line[i]?=some q:=by
 rcases B.reach D h with ⟨h1,h2⟩|⟨j,x,h1,h2,h3⟩
 ·obtain⟨i,hi,e⟩:=zt2 h1;have e':line[i]?=some q:=by rw[zs5 hi,e]
  refine⟨i,?_,e'⟩;by_cases hd:i<dn
  ·exact hd
  ·have:=B.sorted dn i here q ⋯ hh e';omega
 ·have:=B.sorted dn j here x h1 hh h2;omega
theorem Bfs.fewest(B:Bfs rows gs p line dep)(D:Done rows gs line dep dn)(hh:line[dn]?=some here)(hno:∀ (i q:Nat),i<dn->line[i]?=some q->¬ Xl rows gs q)(h:Walk rows gs p q k)(hf:Xl rows gs q):dep here+1<=k+1:=by
 by_cases hk:k<dep here
 ·obtain⟨i,hi,e⟩:=B.early D hh h hk;exact absurd hf (hno i q hi e)
 ·omega
def Xx(dep:Nat->Nat)(q d:Nat):Nat->Nat:=fun x=>if x=q then d else dep x
theorem Bfs.app(B:Bfs rows gs p line dep)(hh:line[dn]?=some here)(near:∀ x∈line,dep x<=dep here+1)(a:adjN rows gs here n q')(hn:q'∉line) :
  Bfs rows gs p (line++[q']) (Xx dep q' (dep here+1))/\(∀ x∈line,Xx dep q' (dep here+1) x=dep x)/\∀ x∈line++[q'],Xx dep q' (dep here+1) x<=dep here+1:=by
 have old:∀ x∈line,Xx dep q' (dep here+1) x=dep x:=fun x hx=>by
  unfold Xx;rw[if_neg (fun (z:x=q')=>hn (by rw[<- z];exact hx))]
 have new:Xx dep q' (dep here+1) q'=dep here+1:=by unfold Xx;rw[if_pos rfl]
 have hhm:=ztb hh;have all:∀ x∈line++[q'],Xx dep q' (dep here+1) x<=dep here+1:=fun x hx=>by
  rcases ztg.mp hx with z|z
  ·rw[old x z];exact near x z
  ·rw[zs9.mp z,new];exact ztc _
 refine⟨⟨Jj B.nodup hn,ztu _ B.memp,by rw[old p B.memp];exact B.d0,fun q hq=>?_,fun i j x y hij hx hy=>?_⟩,old,all⟩
 ·rcases ztg.mp hq with z|z
  ·rw[old q z];exact B.walk q z
  ·rw[zs9.mp z,new];exact .snoc (B.walk here hhm) a
 ·by_cases hj:j<line.length
  ·rw[zt7 hj] at hy;rw[zt7 ⋯] at hx;rw[old x (ztb hx),old y (ztb hy)];exact B.sorted i j x y hij hx hy
  ·rw[zt4 ⋯] at hy;have:y=q':=by
    cases e:j-line.length with
    | zero=>rw[e] at hy;simpa using hy.symm
    | succ m=>rw[e] at hy;simp at hy
   subst this;rw[new];exact all x (ztb hx)
theorem Done.app(D:Done rows gs line dep dn)(hd:dn<=line.length)(hl:∃ r,line'=line++r)(he:∀ x∈line,dep' x=dep x):Done rows gs line' dep' dn:=fun i q hi e n q' a=>by
 obtain⟨r,rfl⟩:=hl;rw[zt7 ⋯] at e;obtain⟨h1,h2⟩:=D i q hi e n q' a;exact⟨ztu _ h1,by rw[he q' h1,he q (ztb e)];exact h2⟩
def Tu(rows:List (List Int))(gs:List V)(p:Nat)(line:List Nat)(dep:Nat->Nat)(fr:Nat->Option (Nat×Int)):Prop:=fr p=none/\∀ q∈line,q≠p->∃ par n,fr q=some (par,n)/\par∈line/\adjN rows gs par n q/\dep q=dep par+1
theorem Tu.back(d0:dep p=0)(F:Tu rows gs p line dep fr):∀ (d q e:Nat) (w:Option Int) (st:List (Nat×Option Int)),dep q=d->q∈line->Ch rows gs q st e w->∃ pre,Ch rows gs p (pre++st) e w/\pre.length=d:=fun d=>by
 induction d with
 | zero =>
   intro q e w st hd hq h;by_cases hp:q=p
   ·subst hp;exact⟨[],h,rfl⟩
   ·obtain⟨par,n,_,_,_,h4⟩:=F.2 q hq hp;omega
 | succ d ih =>
   intro q e w st hd hq h;by_cases hp:q=p
   ·subst hp;rw[d0] at hd;cases hd
   ·obtain⟨par,n,h1,h2,h3,h4⟩:=F.2 q hq hp;obtain⟨pre,h5,h6⟩:=ih par e w _ ⋯ h2 (.step h3 h);exact⟨pre++[(par,some n)],by rw[zuo];exact h5,by rw[zs8,h6];rfl⟩
theorem Aw{here:Nat}{n:Int}{st:List (Nat×Option Int)}(B:Bfs rows gs p line dep)(D:Done rows gs line dep dn)(hh:line[dn]?=some here)(hno:∀ (i q:Nat),i<dn->line[i]?=some q->¬ Xl rows gs q)(hf:Pp rows gs here n)(c:Ch rows gs p st here (some n))(hl:st.length=dep here+1):Y2 rows gs p st here (some n) :=
 ⟨c,fun m e=>by cases e;exact⟨hf,fun q k hk hq=>by rw[hl];exact B.fewest D hh hno hk hq⟩,(fun z=>nomatch z)⟩
theorem Ax{e:Nat}{st:List (Nat×Option Int)}(B:Bfs rows gs p line dep)(D:Done rows gs line dep line.length)(hno:∀ q∈line,¬ Xl rows gs q)(he:∀ q∈line,q<=e)(c:Ch rows gs p st e none)(hl:st.length=dep e+1):Y2 rows gs p st e none :=
 ⟨c,(fun m z=>nomatch z),fun _=>⟨fun q k hk=>hno q (B.full D hk).1,fun q k hk=>he q (B.full D hk).1,fun k hk=>by rw[hl];have:=(B.full D hk).2;omega⟩⟩
end
end G
namespace L2
open PySem PySem.Spec PyProof.Rows
inductive zhx(x:V)(vs:List V)(H:Hp)(Q:VK):Prop where
 | mk(l:Addr)(xs:List V)(y:V)(j:Nat)(_:x=.ref l)(_:vs=[y])(_:H l=some (.lst xs))(_:U4 y=true)(_:xs.all U4=true)(_:(∃ z,xs[j]?=some z/\eqV z y=true))(_:(∀ m z,m<j->xs[m]?=some z->eqV z y=false))(_:Q (.int (j:Nat)) H)
theorem J3:MtM X "list.index" zhx:=by
 intro pins s σ H x vs v us Q I rx rv h;obtain⟨l,xs,y,j,rfl,rfl,hH,fy,fs,⟨zj,hzj,hej⟩,hno,q⟩:=h;cases rx;obtain⟨u,rfl,ru⟩:=rv.one;obtain⟨z,its,n,r,hl,e⟩:=I.lstM hH;have hjx:j<xs.length:=(zs6.mp hzj).1;have hj:j<its.toArray.size:=by rw[ztj];omega
 have hline:=O7;have ev:∀ (m:Nat) (hm:m<its.toArray.size) (w:V),xs[m]?=some w->eqU y (its.toArray[m]'hm)=eqV w y:=fun m hm w hw=>by
  obtain⟨uu,hu,ruu⟩:=r.get hw;have:its.toArray[m]'hm=uu:=by
   have h1:its[m]?=some (its.toArray[m]'hm):=by simp
   rw[h1] at hu;exact Option.some.inj hu
  rw[this];refine Ao ruu ?_;exact zut.mp fs w (ztb hw)
 refine call_meets PySem.F.slot_list_index ⟨_,e,rfl⟩ PySem.F.entry_list_index (PySem.F.args_list_index_2 _ _) (SeqAt.list_indexAt l its.toArray n none #[] u (eqU y) j hj ⋯ (by rw[ev j hj zj hzj];exact hej) (fun m hm hmj=>?_)) ⟨e,fun w hw=>Rq ru fy r fs w (by simpa using hw),?_⟩
 ·have hmx:m<xs.length:=by rw[ztj] at hm;omega
  have hw:xs[m]?=some (xs[m]'hmx):=zs5 hmx;rw[ev m hm _ hw];exact hno m _ hmj hw
 ·exact⟨.int (j:Nat),H,I.tok _,⟨_,rfl⟩,q⟩
end L2
namespace G
open PySem PySem.Spec PyProof.Rows L2
inductive Fw(K:Frag)(vs:List V)(H:Hp)(Q:VK)(_:XK):Prop where
 | mk(l lg lt:Addr)(ls:List Addr)(rows:List (List Int))(gs ts:List V)(p e:Nat)(st:List (Nat×Option Int))(w:Option Int)(_:vs=[.ref l,.ref lg,.int p,.ref lt])(_:H l=some (.lst (ls.map V.ref)))(_:ILs H ls rows)(_:rows.length<=100)(_:H lg=some (.lst gs))(_:Ya rows gs)(_:p<rows.length)(_:H lt=some (.lst ts))(_:TupL H ts (st.map Wf))(_:st.length<=100)(_:Ch rows gs p st e w)(_:(∀ n,w=some n->Pp rows gs e n))(_:Q (.bl true) H)
theorem za7{H:Hp}{ts:List V}{st:List (Nat×Option Int)}{i:Nat}{s:Nat×Option Int}(h:TupL H ts (st.map Wf))(e:st[i]?=some s):∃ t,ts[i]?=some (.ref t)/\H t=some (.tup (Wf s)):=by
 have e':(st.map Wf)[i]?=some (Wf s):=by rw[zs7,e];rfl
 exact h.getR e'
theorem Qd(ho:oneV z):eqV z (.int n)=true↔z=.int n:=by
 rcases ho with rfl|⟨i,rfl⟩
 ·constructor
  ·intro h;cases h
  ·intro h;cases h
 ·show (i == n)=true↔_;constructor
  ·intro h;rw[beq_iff_eq.mp h]
  ·intro h;cases h;simp
theorem Ru(ho:∀ x∈gs,oneV x):inV (.int n) gs=true↔∃ j:Nat,gs[j]?=some (V.int n):=by
 unfold inV;rw[List.any_eq_true];constructor
 ·rintro⟨z,hz,e⟩;obtain⟨j,hj,rfl⟩:=zt2 hz;exact⟨j,by rw[zs5 hj,(Qd (ho _ hz)).mp e]⟩
 ·rintro⟨j,hj⟩;have:=ztb hj;exact⟨_,this,(Qd (ho _ this)).mpr rfl⟩
theorem za8{K:Frag}{H:Hp}:∀ (r:List Int),Rr K H (r.map V.int) (r.map Dt.int)
 | []=>.nil
 | x :: r=>.cons (.int x) (za8 r)
theorem zf2(r:List Int):PyData.canLayAll0 (U5 (r.map Dt.int))=true/\PyData.depthAll (U5 (r.map Dt.int))<=1:=by
 induction r with
 | nil=>exact⟨rfl,by decide⟩
 | cons x r ih =>
   obtain⟨h1,h2⟩:=ih;refine⟨by rw[ztm,U5,PyData.canLayAll0,h1];rfl,?_⟩;rw[ztm,U5,PyData.depthAll];have:PyData.depth (toPy (Dt.int x))<=1:=by simp[toPy,PyData.depth]
   omega
theorem Mb(r:List Int):shD (.lst (r.map Dt.int)):=by
 obtain⟨a1,a2⟩:=zf2 r;unfold shD SeqAt.shaped;rw[toPy,PyData.canLay0,a1,Bool.true_and];refine zta ?_;rw[PyData.depth];omega
theorem Jl:shD (.lst []):=Mb []
theorem Jm(f:α->Dt)(xs:List α):eqD (.lst (xs.map f)) (.lst [])=xs.isEmpty:=by
 cases xs with
 | nil=>simp[eqD,M8]
 | cons x xs=>simp[eqD,M8]
structure zk4(rows:List (List Int))(gs:List V)(i:Nat):Prop where
 len:gs.length=i
 one:∀ x∈gs,oneV x
 may:∀ (k:Nat) (n:Int),gs[k]?=some (.int n)->∃ r,rows[k]?=some r/\n∈r
 inj:∀ (j k:Nat) (n:Int),gs[j]?=some (.int n)->gs[k]?=some (.int n)->j=k
theorem Ya.drop(F:Ya rows gs)(p:Nat):Ya rows (gs.set p .non):=by
 have cs:∀ (k:Nat) (n:Int),(gs.set p .non)[k]?=some (.int n)->k≠p/\gs[k]?=some (.int n):=fun k n h=>by
  by_cases e:k=p
  ·subst e;by_cases hk:k<gs.length
   ·rw[zuh hk] at h;cases h
   ·rw[zup (by rw[zu0];omega)] at h;cases h
  ·rw[zug (Ne.symm e)] at h;exact⟨e,h⟩
 refine⟨by rw[zu0];exact F.len,fun x hx=>?_,fun k n h=>F.may k n (cs k n h).2,fun j k n h1 h2=>F.inj j k n (cs j n h1).2 (cs k n h2).2⟩;rcases List.mem_or_eq_of_mem_set hx with z|z
 ·exact F.one x z
 ·exact .inl z
theorem Ya.without(F:Ya rows gs)(hx:gs[p]?=some x)(f:Int->Bool)(hf:∀ n,f n=false->x=.int n):Ya (rows.map fun r=>r.filter f) (gs.set p .non):=by
 have D:=F.drop p;refine⟨by rw[zs4];exact D.len,D.one,fun k n h=>?_,D.inj⟩;obtain⟨r,h1,h2⟩:=D.may k n h;refine⟨r.filter f,by rw[zs7,h1];rfl,zt1.mpr ⟨h2,?_⟩⟩;cases e:f n with
 | true=>rfl
 | false =>
   have hx':=hf n e;subst hx';have hk:k≠p:=fun z=>by
    subst z;rw[zuh (zs6.mp hx).1] at h;cases h
   rw[zug (Ne.symm hk)] at h;exact absurd (F.inj k p n h hx) hk
theorem Ws.filter(M:Ws rows nu)(f:Int->Bool):Ws (rows.map fun r=>r.filter f) nu:=by
 refine⟨by rw[zs4];exact M.few,M.crowd,M.inj,M.rng,fun r hr=>?_⟩;obtain⟨r',h1,rfl⟩:=zte.mp hr;exact⟨List.Nodup.sublist List.filter_sublist (M.sub r' h1).1,fun n hn=>(M.sub r' h1).2 n (zt1.mp hn).1⟩
theorem J4{K:Frag}{js:List Nat}{te:TE}{l:Addr}{ls:List Addr}{rows:List (List Int)}{σ:L2.St}{H:Hp}{Q:VK}(f:List Int->List Int)(hl:H l=some (.lst (ls.map V.ref)))(il:ILs H ls rows)(hz:rows.length<=100)
  (hs:∀ (x:Addr) (r:List Int) (H':Hp) (R:VK),r∈rows->Same H H'->H' x=some (.lst (r.map V.int))->(∀ p,H' p=none->R (.ref p) (upd H' p (.lst ((f r).map V.int))))->te (cs js σ (.ref x)) H' R)
  (hd:∀ H' hs p,Same H H'->ILs H' hs (rows.map f)->(∀ x∈hs,H x=none)->H' p=none->Q (.ref p) (upd H' p (.lst (hs.map V.ref)))):Fl (Itl K l) js tYes te σ H Q:=by
 have hlen:=il.length;refine Wi (K:=K) (a:=l) (xs:=ls.map V.ref) (fun i ys H'=>Same H H'/\∃ hs,ys=hs.map V.ref/\ILs H' hs ((rows.take i).map f)/\hs.length=i/\∀ x∈hs,H x=none) ⟨Same.refl _,[],rfl,.nil,rfl,by simp⟩ (fun i ys H' _ ⟨s,_⟩=>SqL.of (s _ _ hl)) (szN (by rw[zs4];omega)) (fun i ys H' ⟨_,hs,e,_,hl,_⟩=>by rw[e,zs4];omega) ?_ ?_
 ·rintro i x ys H' hx ⟨s,hs',rfl,ih,hl',hf⟩;rw[zs7] at hx;cases q:ls[i]? with
  | none=>rw[q] at hx;cases hx
  | some y =>
    rw[q] at hx;have e:V.ref y=x:=Option.some.inj hx;subst e;obtain⟨r,hr,hy⟩:=il.getL q;unfold tYes;dsimp only;rw[if_pos rfl];refine hs y r H' _ (ztb hr) s (s _ _ hy) fun p hp=>⟨s.trans (Zo hp),hs'++[p],by rw[zti];rfl,?_,by rw[zs8,hl'];rfl,fun z hz'=>?_⟩
    ·rw[zuf,hr,zti];exact(ih.same (Zo hp)).snoc Ze
    ·rcases ztg.mp hz' with w|w
     ·exact hf z w
     ·rw[zs9.mp w];exact s.free hp
 ·rintro ys H' ⟨s,hs',rfl,ih,hl',hf⟩ p hp;rw[zs4,hlen,zto] at ih;exact hd H' hs' p s ih hf hp
theorem J5(h1:Gr t σ H b)(h:∀ H1,Same H H1->if b=true then A D σ H1 else B D σ H1):Ac t A B D σ H:=h1 _ fun H1 s1=>h H1 s1
def Y4(line:List Nat)(dep:Nat->Nat):List (Key×V):=line.map fun (q:Nat)=>(inl ((q:Nat):Int),V.int ((dep q+1:Nat):Int))
theorem Mc{line:List Nat}{dep:Nat->Nat}{q:Nat}(h:q∈line):valV (Y4 line dep) (inl (q:Int):Key)=some (.int ((dep q+1:Nat):Int)):=by
 unfold Y4
 induction line with
 | nil=>simp at h
 | cons x xs ih =>
   rw[ztm];by_cases e:x=q
   ·subst e;exact Xa rfl
   ·rw[Yy (fun z=>e (by have:=inl.inj z;omega))];exact ih ((ztf.mp h).resolve_left (fun z=>e z.symm))
theorem Fx{line:List Nat}{dep:Nat->Nat}{q:Nat}(h:q∉line):valV (Y4 line dep) (inl (q:Int):Key)=none:=by
 unfold Y4
 induction line with
 | nil=>rfl
 | cons x xs ih =>
   have hx:x≠q:=fun z=>h (by rw[z];exact ztz);rw[ztm,Yy (fun z=>hx (by have:=inl.inj z;omega))];exact ih fun z=>h (ztx _ z)
theorem zck{line:List Nat}{dep:Nat->Nat}{q d:Nat}(h:q∉line):putK (Y4 line dep) (inl (q:Int)) (.int ((d+1:Nat):Int))=Y4 (line++[q]) (Xx dep q d):=by
 rw[Cf _ (Fx h)];unfold Y4;rw[zti]
 congr 1
 ·refine zun fun x hx=>?_;unfold Xx;rw[if_neg (fun z=>h (by rw[<- z];exact hx))]
 ·unfold Xx;simp
theorem zcl(line:List Nat)(dep:Nat->Nat):(Y4 line dep).length=line.length:=by unfold Y4;rw[zs4]
inductive za9(K:Frag)(vs:List V)(H:Hp)(Q:VK)(_:XK):Prop where
 | mk(l lg:Addr)(ls:List Addr)(rows:List (List Int))(gs:List V)(p:Nat)(_:vs=[.ref l,.ref lg,.int p])(_:H l=some (.lst (ls.map V.ref)))(_:ILs H ls rows)(_:rows.length<=100)(_:H lg=some (.lst gs))(_:Ya rows gs)(_:p<rows.length)(_:∀ ld line dep H',H' ld=some (.dK (Y4 line dep))->Bfs rows gs p line dep->Done rows gs line dep line.length->(∀ q∈line,q<rows.length)->Same H H'->H ld=none->Q (.ref ld) H')
def Yc(xs:List Nat):List V:=xs.map fun k=>V.int (k:Nat)
theorem E5{K:Frag}{H:Hp}:∀ (r:List Nat),Rr K H (Yc r) ((r.map fun (k:Nat)=>((k:Nat):Int)).map Dt.int)
 | []=>.nil
 | x :: r=>.cons (.int _) (E5 r)
end G
namespace L2
open PySem PySem.Spec PyProof.Rows
theorem Pq:∀ {ns:List Int} {its:List Value} {i:Nat} {v:Value},Vals (ns.map V.int) its->its[i]?=some v->∃ t,v=.int (ns.getD i 0) t
 | [],_,_,_,.nil,e=>by simp at e
 | n :: ns,_,0,v,.cons r t,e=>by
   obtain⟨tk,rfl⟩:=r;exact⟨tk,(Option.some.inj e).symm⟩
 | n :: ns,_,i+1,v,.cons r t,e=>Pq (i:=i) t e
theorem zcm{X:Cx}{K:Frag}(hK:X.K=K)(hc:X.calm=true):Vy X (.builtin "max") (fun xs H Q=>∃ (l:Addr) (ns:List Int),xs=[.ref l]/\SqL K H l (ns.map V.int)/\0<ns.length/\∀ M,M∈ns->(∀ a∈ns,a<=M)->Q (.int M) H):=by
 subst hK;intro pins s σ H xs us Q I r h;obtain⟨l,ns,rfl,hl,hpos,q⟩:=h;obtain⟨u,rfl,ru⟩:=To r;cases ru;obtain⟨its,r',pl,hz⟩:=I.list hl;have hlen:its.length=ns.length:=by have:=r'.length;rw[zs4] at this;exact this.symm
 have hil:=pl.isList;have hlt:l<s.heap.objs.size:=by obtain⟨_,e,_⟩:=hil;exact Heap.lt_size e
 refine call_max_walk (wpAny_pyIter_list hil ?_);refine⟨s.heap.objs.size,[s.heap.objs.size,l],[s.heap.objs.size],its.toArray.size,_,_,_,rfl,Walks.list (A:=X.A.in1) (I.ok.hd hc) _ l (zts hlt) its.toArray,
  ⟨⟨_,Heap.get?_push_size _ rfl,rfl,rfl⟩,hil.push _⟩,fun b hb=>?_,by rw[ztj];omega,CmpOf.ints_gt (fun i=>ns.getD i 0) (fun i v hv=>Pq r' (by simpa using hv)),fun v h' tk hP hk=>?_⟩
 ·show b<(s.heap.push _).objs.size;rw[Heap.size_push];rcases ztf.mp hb with rfl|hb
  ·exact zvc _
  ·rcases ztf.mp hb with rfl|hb
   ·exact zuv hlt
   ·cases hb
 ·obtain⟨h1,h2⟩:=argBest_gt (fun i=>ns.getD i 0) (its.toArray.size-1);obtain⟨t,rfl⟩:=Pq r' (show its[argBest (fun i j=>decide ((fun i=>ns.getD i 0) i>(fun i=>ns.getD i 0) j)) (its.toArray.size-1)]?=some v by simpa using hP);have hsz:its.toArray.size=ns.length:=by rw[ztj,hlen]
  rw[hsz] at h1 h2 ⊢;generalize argBest (fun i j=>decide ((fun i=>ns.getD i 0) i>(fun i=>ns.getD i 0) j)) (ns.length-1)=b at h1 h2 ⊢;have hb:b<ns.length:=by omega
  have eg:∀ (k:Nat) (hk:k<ns.length),ns.getD k 0=ns[k]'hk:=fun k hk=>by rw[ztq,zs5 hk];rfl
  refine⟨.int (ns.getD b 0),H,I.kept fun c o e=>?_,⟨_,rfl⟩,q _ (by rw[eg b hb];exact ztw hb) fun x hx=>?_⟩
  ·refine hk c o (fun hm=>?_) (Heap.get?_push_of_some _ e);rw[zs9.mp hm] at e;exact zum _ (Heap.lt_size e)
  ·obtain⟨k,hk',rfl⟩:=zt2 hx;have:=h2 k ⋯;show ns[k]<=_;rw[<- eg k hk'];exact this
end L2
namespace G
open PySem PySem.Spec PyProof.Rows L2
inductive E6(K:Frag)(vs:List V)(H:Hp)(Q:VK)(_:XK):Prop where
 | mk(l lg:Addr)(ls:List Addr)(rows:List (List Int))(nu:List Int)(gs:List V)(p:Nat)(_:vs=[.ref l,.ref lg,.int p])(_:H l=some (.lst (ls.map V.ref)))(_:ILs H ls rows)(_:Ws rows nu)(_:H lg=some (.lst gs))(_:Ya rows gs)(_:p<rows.length)(_:gs[p]?=some .non)(_:∀ lt ts st e w H',H' lt=some (.lst ts)->TupL H' ts (st.map Wf)->Y2 rows gs p st e w->Same H H'->H lt=none->Q (.ref lt) H')
theorem Y2.len{rows:List (List Int)}{gs:List V}{p e:Nat}{st:List (Nat×Option Int)}{w:Option Int}(FP:Ya rows gs)(hp:p<rows.length)(c:Y2 rows gs p st e w):st.length<=rows.length:=by
 have hlt:=c.ch.lt FP hp;have:=c.nodup.length_le_of_subset (l₂:=List.range rows.length) fun x hx=>by
  obtain⟨s,hs,rfl⟩:=zte.mp hx;exact zt5.mpr (hlt s hs)
 rw[zs4,ztr] at this;exact this
theorem Ch.lastStep{rows:List (List Int)}{gs:List V}{q e:Nat}{st:List (Nat×Option Int)}{w:Option Int}(h:Ch rows gs q st e w):st.getLast?=some (e,w):=by
 induction h with
 | one q w=>rfl
 | @step q q' e n st w a h ih =>
   obtain⟨x,r,e'⟩:=h.hd;rw[e'] at ih ⊢;rw[List.getLast?_cons_cons];exact ih
end G
namespace L2
open PySem PySem.Spec PyProof.Rows
section
variable{X:Cx}{pins:List (Addr×Obj)}{σ:List (Option V)}{H H':Hp}{s:Shared}{h':Heap}
theorem Inv.turnedL{t':Nat}{fp:List Addr}(I:Inv X pins σ H s)(hf:∀ b∈fp,FpOk X pins H b)(k:∀ b o,b∉fp->s.heap.get? b=some o->h'.get? b=some o):Inv X pins σ H { s with heap:=h',toks:=t' }:=by
 have nit:∀ b u,H b=some u->b∉fp:=fun b u e z=>by rw[(hf b z).1] at e;cases e
 refine I.step (g':=s.gens) (d':=s.drawn) (ch:=fp) (fun b hb=>?_) (fun b o _ _ hc e _=>k b o hc e) (fun b o _ _ hc e _=>⟨o.slots,k b o hc e⟩) (fun _ _ _ _ n=>n)
  (fun b o hc e=>⟨o,k b o hc e⟩) (fun _ _ e=>e) (fun _ _ _ e=>e) (fun b ps e=>⟨#[],by rw[e];simp⟩) (fun m hm=>?_) (fun b u e=>?_) I.bare
 ·obtain⟨f0,f1,f2,f3,f4,f5⟩:=hf b hb;exact⟨f3,f1,f4,f5⟩
 ·obtain⟨o,es,ep,ho,r⟩:=hm;exact⟨o,es,ep,k _ o (fun z=>(hf _ z).2.1 rfl) ho,r⟩
 ·refine(I.hok b u e).stay (fun c v hc q=>k c v ?_ q) (fun _ q=>q) fun _ _ q=>q;rcases hc with z|z
  ·rw[z];exact nit b u e
  ·exact nit c _ z
theorem Inv.turnLay{t':Nat}{fp:List Addr}{a:Addr}{o:HO}(I:Inv X pins σ H s)(hf:∀ b∈fp,FpOk X pins H b)(k:∀ b o,b∉fp->s.heap.get? b=some o->h'.get? b=some o)(hp:s.heap.objs.size<=a)(new:Yw X.prog X.w (upd H a o) h' a o):Inv X pins σ (upd H a o) { s with heap:=h',toks:=t' }:=by
 have nit:∀ b u,H b=some u->b∉fp:=fun b u e z=>by rw[(hf b z).1] at e;cases e
 have hn:H a=none:=I.hok.fresh hp;have ne:∀ b u,s.heap.get? b=some u->b≠a:=fun b u e=>zts (ztn (Heap.lt_size e) hp);refine I.step (g':=s.gens) (d':=s.drawn) (ch:=fp) (fun b hb=>?_) (fun b o _ _ hc e _=>k b o hc e) (fun b o _ _ hc e _=>⟨o.slots,k b o hc e⟩) (fun b u _ e n=>by rw[Zh (ne b u e)];exact n)
  (fun b o hc e=>⟨o,k b o hc e⟩) (fun b _ e=>by rw[Zh (Zg e hn)];exact e) (fun b _ _ e=>by rw[Zh (Zg e hn)];exact e) (fun b ps e=>⟨#[],by rw[Zh (Zg e hn),e];simp⟩) (fun m hm=>?_) (fun b u e=>?_) I.bare
 ·obtain⟨f0,f1,f2,f3,f4,f5⟩:=hf b hb;exact⟨f3,f1,f4,f5⟩
 ·obtain⟨o,es,ep,ho,r⟩:=hm;exact⟨o,es,ep,k _ o (fun z=>(hf _ z).2.1 rfl) ho,r⟩
 ·by_cases hb:b=a
  ·subst hb;rw[Ze] at e;cases e;exact new
  ·rw[Zh hb] at e;refine(I.hok b u e).stay (fun c v hc q=>k c v ?_ q) (fun c q=>by rw[Zh (Zg q hn)];exact q) fun c _ q=>by rw[Zh (Zg q hn)];exact q
   rcases hc with z|z
   ·rw[z];exact nit b u e
   ·exact nit c _ z
end
def Ite(K:Frag)(a:Addr):It :=
 ⟨fun i H=>∃ xs x,SqL K H a xs/\xs[i]?=some x,fun i H x H'=>∃ p y,H p=none/\(∀ xs,SqL K H a xs->xs[i]?=some y)/\x=.ref p/\H'=upd H p (.tup [.int (i:Nat),y]),fun i H=>∃ xs,SqL K H a xs/\xs.length<=i⟩
theorem zcn{P:Program}{w:World}{K:Frag}{elts:List Expr}{k:Nat}{tp:Pos}(a e it:Addr)(hne:e≠it):Gh P w K (.Tuple elts k tp) (Ite K a) [e,it] e (fun i h=>(∃ old,IsEnum h e it (i:Nat) old)/\h.IsListIter it a i) where
 mem:=by simp
 obj:=fun i h st b hb=>by
  obtain⟨⟨old,h1⟩,h2⟩:=st;have e:b=e\/b=it:=by simpa using hb
  rcases e with rfl|rfl
  ·exact⟨_,h1,fun v z=>by cases z⟩
  ·obtain⟨o,e,c,d⟩:=h2;exact⟨o,e,fun v z=>by rw[d] at z;cases z⟩
 keep:=fun i h h' st k=>⟨let ⟨old,h1⟩:=st.1;⟨old,k e (by simp) _ h1⟩,st.2.at fun o q=>k it (by simp) o q⟩
 item:=by
  intro X hP hw hK hc i pins s σ H E I hf st hg;subst hP hw hK;obtain⟨xs,x,hq,hx⟩:=hg;obtain⟨its,rv,p,hz⟩:=I.list hq;obtain⟨u,hu,ru⟩:=rv.get hx;obtain⟨⟨old,h1⟩,h2⟩:=st;refine wpAny_pyNext_enum_item h1 h2 p.isList (x:=u) (by simpa using hu) hne fun h' o1 o2 o3 o4 o5=>?_;refine⟨_,rfl,wpAny_letOwnedTupleGo_enum o1 fun h'' e1 sb=>?_⟩;have hes:e≠s.heap.objs.size:=fun z=>by
   exact zum _ (z▸Heap.lt_size h1)
  have kk:∀ b o,b∉[e,it]->s.heap.get? b=some o->h''.get? b=some o:=fun b o hb q=>by
   have hb':b≠e/\b≠it:=by simpa using hb
   exact(sb.2 b hb'.1).trans (o5 b o hb'.1 hb'.2 q)
  have new:h''.get? s.heap.objs.size=some { cls:=Value.type "tuple",data:=Data.seq #[Value.int (i:Nat) s.toks,u] }:=(sb.2 _ (Ne.symm hes)).trans o3;have line:=O7;refine⟨.ref s.heap.objs.size,_,I.turnLay (t':=s.toks+1) (o:=.tup [.int (i:Nat),x]) hf kk (ztc _) ⟨?_,_,.cons ⟨s.toks,rfl⟩ (.cons ru .nil),⟨_,new,rfl,_,rfl⟩⟩,rfl,⟨_,x,I.hok.fresh (ztc _),fun ys hy=>by rw[I.list_inj hy hq];exact hx,rfl,rfl⟩,⟨⟨u,e1⟩,o2.at fun o q=>(sb.2 it (Ne.symm hne)).trans q⟩,fun b hb=>?_⟩
  ·show 2<=sizeLine;rw[sizeLine_eq];decide
  ·have hb':b=e\/b=it:=by simpa using hb
   have hlt:b<s.heap.objs.size:=by
    rcases hb' with rfl|rfl
    ·exact Heap.lt_size h1
    ·obtain⟨o,q,_⟩:=h2;exact Heap.lt_size q
   rw[Zh (zts hlt)];exact(hf b hb).1
 done:=by
  intro X hP hw hK hc i pins s σ H E I hf st hg;subst hP hw hK;obtain⟨xs,hq,hx⟩:=hg;obtain⟨its,rv,p,hz⟩:=I.list hq;obtain⟨⟨old,h1⟩,h2⟩:=st;have hl:=rv.length;exact wpAny_pyNext_enum_end (I.ok.hd hc) h1 h2 p.isList (by simp;omega) fun h' eb=>⟨rfl,I.turnedL (t':=s.toks) hf fun b o hb q=>eb b o (fun z=>hb (by simp[z])) q⟩
 self:=fun _ _ _ _ _ st h=>by
  obtain⟨⟨old,h1⟩,h2⟩:=st;exact wpAny_pyIter_enum h1 h
inductive zhy(K:Frag)(R:It->Hp->Prop)(vs:List V)(H1:Hp):Prop where
 | mk(a)(_:vs=[.ref a])(_:(∃ xs,SqL K H1 a xs))(_:R (Ite K a) H1)
def zjm(K:Frag)(ta:TA):TI:=fun σ H R=>ta σ H fun vs H1=>zhy K R vs H1
theorem zba{X:Cx}{K:Frag}{elts:List Expr}{k:Nat}{tp:Pos}{a:Expr}{ta:TA}{p pos:Pos}(hK:X.K=K)(hg:Gl X "enumerate")(hm:X.mg "enumerate"=none)(ha:PA X [a] ta)(hs:starEach [a] X.env=[(false,eval a X.env)]:=by rfl):PI X (.Tuple elts k tp) (.Call (.Name "enumerate" p) [a] [] pos) (zjm K ta):=by
 subst hK;intro pins s σ H R I h;refine Call_ (Pe I hg hm boot_enumerate (PyProof.Rows.callWith_type1 (thn (ha pos pins s σ H _ I h) fun us s1 ⟨vs,H1,I1,r1,q1⟩=>?_) hs rfl));obtain⟨a,e,⟨xs,hq⟩,q⟩:=q1;subst e;obtain⟨u,rfl,ru⟩:=To r1;cases ru;obtain⟨its,rv,pl,hz⟩:=I1.list hq;refine call_enumerate_list pl.isList fun h' e1 e2 e3 e4=>?_;refine wpAny_pyIter_enum e1 ?_;refine⟨_,[s1.heap.objs.size+1,s1.heap.objs.size],_,_,H1,rfl,I1.kept (t':=s1.toks) e4,zcn a _ _ (Nat.succ_ne_self _),⟨⟨_,e1⟩,e2⟩,fun b hb=>?_,q⟩;have e:b=s1.heap.objs.size+1\/b=s1.heap.objs.size:=by simpa using hb
 rcases e with rfl|rfl
 ·exact I1.fpOk (Nat.le_succ _) (I1.hok.fresh (Nat.le_succ _))
 ·exact I1.fpOk (ztc _) (I1.hok.fresh (ztc _))
theorem zeg{K:Frag}{a:Addr}{xs:List V}{g:TG}{tb:TS}{D:N5}{σ:St}{H:Hp}(Pv:Nat->St->Hp->Prop)(h0:Pv 0 σ H)(hl:∀ i σ H,i<=xs.length->Pv i σ H->SqL K H a xs)
  (hs:∀ i x p σ H,xs[i]?=some x->Pv i σ H->H p=none->g (.ref p) σ (upd H p (.tup [.int (i:Nat),x])) fun σ2 H2=>tb { D with nx:=Pv (i+1),ct:=Pv (i+1),bk:=D.nx } σ2 H2) (hd:∀ σ H,Pv xs.length σ H->D.nx σ H) :
  ∃ W:Nat->Nat->St->Hp->Prop,(∃ m,W 0 m σ H)/\∀ i m σ H,W i m σ H ->
    ((Ite K a).stop i H/\D.nx σ H)\/((Ite K a).go i H/\∃ N:St->Hp->Prop,(∀ σ' H',N σ' H'->∃ m',m' < m/\W (i+1) m' σ' H')/\∀ x H',(Ite K a).yld i H x H'->g x σ H' fun σ2 H2=>tb { D with nx:=N,ct:=N,bk:=D.nx } σ2 H2):=by
 refine⟨fun i m σ H=>m=xs.length-i/\i<=xs.length/\Pv i σ H,⟨xs.length,by simp,zt6 _,h0⟩,?_⟩;rintro i m σ H ⟨rfl,hi,p⟩;have q:=hl i σ H hi p;by_cases hlt:i<xs.length
 ·refine .inr ⟨⟨xs,xs[i],q,by simp[hlt]⟩,Pv (i+1),fun σ' H' p'=>⟨xs.length-(i+1),by omega,rfl,hlt,p'⟩,fun x H' y=>?_⟩;obtain⟨t,y,h1,h2,rfl,rfl⟩:=y;exact hs i y t σ _ (h2 xs q) p h1
 ·have e:i=xs.length:=by omega
  subst e;exact .inl ⟨⟨xs,q,ztc _⟩,hd σ H p⟩
def Itz(K:Frag)(a b:Addr):It :=
 ⟨fun i H=>∃ xs ys x y,SqL K H a xs/\SqL K H b ys/\xs[i]?=some x/\ys[i]?=some y,fun i H x H'=>∃ p y z,H p=none/\(∀ xs,SqL K H a xs->xs[i]?=some y)/\(∀ ys,SqL K H b ys->ys[i]?=some z)/\x=.ref p/\H'=upd H p (.tup [y,z]),
  fun i H=>∃ xs ys,SqL K H a xs/\SqL K H b ys/\(xs.length<=i\/ys.length<=i)⟩
theorem zeh{P:Program}{w:World}{K:Frag}{elts:List Expr}{k:Nat}{tp:Pos}(l1 l2 z TI TO i1 i2:Addr)(hz:ZipApart z TI TO i1 i2 l1 l2):Gh P w K (.Tuple elts k tp) (Itz K l1 l2) [z,TO,i1,i2,TI] z
  (fun i h=>IsZip h z TI TO Value.none/\IsPair h TI (Value.ref i1) (Value.ref i2)/\(∃ a b,IsPair h TO a b)/\h.IsListIter i1 l1 i/\h.IsListIter i2 l2 i) where
 mem:=by simp
 obj:=fun i h st b hb=>by
  obtain⟨h1,h2,⟨a,b',h3⟩,h4,h5⟩:=st;have e:b=z\/b=TO\/b=i1\/b=i2\/b=TI:=by simpa using hb
  rcases e with rfl|rfl|rfl|rfl|rfl
  ·exact⟨_,h1,fun v z=>by cases z⟩
  ·exact⟨_,h3,fun v z=>by cases z⟩
  ·obtain⟨o,e,c,d⟩:=h4;exact⟨o,e,fun v z=>by rw[d] at z;cases z⟩
  ·obtain⟨o,e,c,d⟩:=h5;exact⟨o,e,fun v z=>by rw[d] at z;cases z⟩
  ·exact⟨_,h2,fun v z=>by cases z⟩
 keep:=fun i h h' st k=>by
  obtain⟨h1,h2,⟨a,b',h3⟩,h4,h5⟩:=st;exact⟨k z (by simp) _ h1,k TI (by simp) _ h2,⟨a,b',k TO (by simp) _ h3⟩,h4.at fun o q=>k i1 (by simp) o q,h5.at fun o q=>k i2 (by simp) o q⟩
 item:=by
  intro X hP hw hK hc i pins s σ H E I hf st hg;subst hP hw hK;obtain⟨xs,ys,x,y,hq,hq2,hx,hy⟩:=hg;obtain⟨its,rv,p,_⟩:=I.list hq;obtain⟨its2,rv2,p2,_⟩:=I.list hq2;obtain⟨u,hu,ru⟩:=rv.get hx;obtain⟨u2,hu2,ru2⟩:=rv2.get hy;obtain⟨h1,h2,⟨a,b',h3⟩,h4,h5⟩:=id st;refine wpAny_pyNext_zip_item hz h1 h2 h3 h4 h5 p.isList p2.isList (x:=u) (y:=u2) (by simpa using hu) (by simpa using hu2) fun h' o1 o2 o3 o4 o5 o6 o7=>?_;refine⟨_,rfl,wpAny_letOwnedTupleGo_zip o1 fun h'' e1 sb=>?_⟩;have lt:∀ b o,s.heap.get? b=some o->b≠s.heap.objs.size:=fun b o q=>zts (Heap.lt_size q);have kk:∀ b o,b∉[z,TO,i1,i2,TI]->s.heap.get? b=some o->h''.get? b=some o:=fun b o hb q=>by
   have hb':b≠z/\b≠TO/\b≠i1/\b≠i2/\b≠TI:=by simpa using hb
   exact(sb.2 b hb'.1).trans (o7 b o hb'.1 hb'.2.1 hb'.2.2.1 hb'.2.2.2.1 q)
  have new:h''.get? s.heap.objs.size=some { cls:=Value.type "tuple",data:=Data.seq #[u,u2] }:=(sb.2 _ (Ne.symm (lt _ _ h1))).trans o5;refine⟨.ref s.heap.objs.size,_,I.turnLay (t':=s.toks) (o:=.tup [x,y]) hf kk (ztc _) ⟨?_,_,.cons ru (.cons ru2 .nil),⟨_,new,rfl,_,rfl⟩⟩,rfl,⟨_,x,y,I.hok.fresh (ztc _),fun zs hy'=>by rw[I.list_inj hy' hq];exact hx,fun zs hy'=>by rw[I.list_inj hy' hq2];exact hy,rfl,rfl⟩,
   ⟨e1,(sb.2 _ hz.TIz).trans (o7 _ _ hz.TIz hz.TITO hz.TIi1 hz.TIi2 h2),⟨_,_,(sb.2 _ hz.TOz).trans o2⟩,o3.at fun o q=>(sb.2 _ hz.i1z).trans q,o4.at fun o q=>(sb.2 _ hz.i2z).trans q⟩,fun b hb=>?_⟩
  ·show 2<=sizeLine;rw[sizeLine_eq];decide
  ·have hne:b≠s.heap.objs.size:=by
    have e:b=z\/b=TO\/b=i1\/b=i2\/b=TI:=by simpa using hb
    rcases e with rfl|rfl|rfl|rfl|rfl
    ·exact lt _ _ h1
    ·exact lt _ _ h3
    ·obtain⟨o,q,_⟩:=h4;exact lt _ _ q
    ·obtain⟨o,q,_⟩:=h5;exact lt _ _ q
    ·exact lt _ _ h2
   rw[Zh hne];exact(hf b hb).1
 done:=by
  intro X hP hw hK hc i pins s σ H E I hf st hg;subst hP hw hK;obtain⟨xs,ys,hq,hq2,hx⟩:=hg;obtain⟨its,rv,p,_⟩:=I.list hq;obtain⟨its2,rv2,p2,_⟩:=I.list hq2;obtain⟨h1,h2,⟨a,b',h3⟩,h4,h5⟩:=st;have hl:=rv.length;have hl2:=rv2.length;exact wpAny_pyNext_zip_end (I.ok.hd hc) hz h1 h2 h3 h4 h5 p.isList p2.isList (hx.imp (fun z=>by simp;omega) fun z=>by simp;omega) fun h' eb=>⟨rfl,I.turnedL (t':=s.toks) hf fun b o hb q=>by
   have hb':b≠z/\b≠TO/\b≠i1/\b≠i2/\b≠TI:=by simpa using hb
   exact eb b o hb'.1 hb'.2.1 hb'.2.2.1 hb'.2.2.2.1 q⟩
 self:=fun _ _ _ _ _ st h=>wpAny_pyIter_zip st.1 h
inductive zjn(K:Frag)(R:It->Hp->Prop)(vs:List V)(H1:Hp):Prop where
 | mk(a)(b)(_:vs=[.ref a,.ref b])(_:(∃ xs,SqL K H1 a xs))(_:(∃ ys,SqL K H1 b ys))(_:R (Itz K a b) H1)
def zkl(K:Frag)(ta:TA):TI:=fun σ H R=>ta σ H fun vs H1=>zjn K R vs H1
theorem zhz{X:Cx}{K:Frag}{elts:List Expr}{k:Nat}{tp:Pos}{a b:Expr}{ta:TA}{p pos:Pos}(hK:X.K=K)(hg:Gl X "zip")(hm:X.mg "zip"=none)(ha:PA X [a,b] ta)(hs:starEach [a,b] X.env=[(false,eval a X.env),(false,eval b X.env)]:=by rfl)(hs2:starEach [b] X.env=[(false,eval b X.env)]:=by rfl):PI X (.Tuple elts k tp) (.Call (.Name "zip" p) [a,b] [] pos) (zkl K ta):=by
 subst hK;intro pins s σ H R I h;refine Call_ (Pe I hg hm boot_zip (PyProof.Rows.callWith_type1 (thn (ha pos pins s σ H _ I h) fun us s1 ⟨vs,H1,I1,r1,q1⟩=>?_) (by rw[hs,hs2]) (by rw[hs2];rfl)));obtain⟨a,b,e,⟨xs,hq⟩,⟨ys,hq2⟩,q⟩:=q1;subst e;cases r1 with
 | cons r rr =>
   obtain⟨u,rfl,ru⟩:=To rr;cases r;cases ru;obtain⟨its,rv,pl,hz⟩:=I1.list hq;obtain⟨its2,rv2,pl2,hz2⟩:=I1.list hq2;have lt1:@LT.lt Nat _ a s1.heap.objs.size:=by obtain⟨_,e,_⟩:=pl.isList;exact Heap.lt_size e
   have lt2:@LT.lt Nat _ b s1.heap.objs.size:=by obtain⟨_,e,_⟩:=pl2.isList;exact Heap.lt_size e
   refine call_zip_2 pl.isList pl2.isList fun h' e1 e2 e3 e4 e5 e6 e7=>?_;refine wpAny_pyIter_zip e1 ?_;refine⟨_,[s1.heap.objs.size+4,s1.heap.objs.size+3,s1.heap.objs.size,s1.heap.objs.size+1,s1.heap.objs.size+2],_,_,H1,rfl,I1.kept (t':=s1.toks) e7,zeh a b _ _ _ _ _ ?_,⟨e1,e2,⟨_,_,e3⟩,e4,e5⟩,fun c hb=>?_,q⟩
   ·refine⟨?_,?_,?_,?_,?_,?_,?_,?_,?_,?_,?_,?_,?_,?_,?_,?_,?_,?_⟩<;>(show @Ne Nat _ _;omega)
   have e:c=s1.heap.objs.size+4\/c=s1.heap.objs.size+3\/c=s1.heap.objs.size\/c=s1.heap.objs.size+1\/c=s1.heap.objs.size+2:=by simpa using hb
   have hle:s1.heap.objs.size<=c:=by rcases e with rfl|rfl|rfl|rfl|rfl<;>omega
   exact I1.fpOk hle (I1.hok.fresh hle)
section
variable{X:Cx}{pins:List (Addr×Obj)}{σ:List (Option V)}{H H':Hp}{s:Shared}{h':Heap}
theorem Inv.freeze(I:Inv X pins σ H s)(e:H a=some (.dK kvs))(ho:s.heap.get? a=some o):Inv X pins σ (upd H a (.frz o (.dK kvs))) s:=by
 have na:∀ b u,H b=some u->u≠.dK kvs->b≠a:=fun b u q n z=>by subst z;rw[q] at e;exact n (Option.some.inj e)
 refine I.un (h':=s.heap) (t':=s.toks) ⟨fun b o q _ _ _=>q,fun b o q _ _ _=>⟨o.slots,q⟩,fun b o q n _=>?_,fun b o q _=>⟨o,q⟩,fun b ys q=>?_,fun b o v q=>?_,fun b ps q=>⟨#[],?_⟩⟩ fun b u q=>?_
 ·rw[Zh (fun z=>by subst z;rw[n] at e;cases e)];exact n
 ·rw[Zh (na b _ q fun z=>nomatch z)];exact q
 ·rw[Zh (na b _ q fun z=>nomatch z)];exact q
 ·rw[Zh (na b _ q fun z=>nomatch z),q];simp
 ·have stay:∀ {b u},Yw X.prog X.w H s.heap b u->Yw X.prog X.w (upd H a (.frz o (.dK kvs))) s.heap b u:=fun {b u} k=>k.stay (fun _ _ _ q=>q) (fun c q=>by rw[Zh (na c _ q fun z=>nomatch z)];exact q) fun c _ q=>by rw[Zh (na c _ q fun z=>nomatch z)];exact q
  by_cases hb:b=a
  ·subst hb;rw[Ze] at q;cases q;exact⟨ho,stay (I.hok b _ e)⟩
  ·rw[Zh hb] at q;exact stay (I.hok b u q)
end
def Itk(a:Addr)(o:Obj)(kvs:List (Key×V)):It :=
 ⟨fun i H=>H a=some (.frz o (.dK kvs))/\i<kvs.length,fun i H x H'=>H'=H/\∃ p,kvs[i]?=some p/\x=kV p.1,fun i H=>H a=some (.frz o (.dK kvs))/\kvs.length<=i⟩
theorem zei(I:Inv X pins σ H s)(e:H a=some (.frz o (.dK kvs))):∃ vs,KV kvs vs/\∃ es ep,o.data=.dict es ep/\s.heap.DictAt (Yi X.prog X.w) a vs ep:=by
 obtain⟨h1,hz,hm,vs,kv,o',es,ep,h2,h3,h4,h5⟩:=(show Yw X.prog X.w H s.heap a (.frz o (.dK kvs)) from I.hok a _ e);rw[h1] at h2;cases h2;exact⟨vs,kv,es,ep,h4,o,es,h1,h3,h4,h5⟩
theorem zco{P:Program}{w:World}{K:Frag}{tg:Expr}(a it:Addr)(o:Obj)(kvs:List (Key×V))(es:Array DictEntry)(ep:Nat)(ho:o.data=.dict es ep):Gh P w K tg (Itk a o kvs) [it] it (fun i h=>h.IsKeyIter it a i kvs.length ep) where
 mem:=by simp
 obj:=fun i h st b hb=>by
  have e:b=it:=by simpa using hb
  subst e;obtain⟨o,e,c,d⟩:=st;exact⟨o,e,fun v z=>by rw[d] at z;cases z⟩
 keep:=fun i h h' st k=>by
  obtain⟨o,e,c,d⟩:=st;exact⟨o,k it (by simp) o e,c,d⟩
 item:=by
  intro X hP hw hK hc i pins s σ H E I hf st hg;subst hP hw hK;obtain⟨hq,hi⟩:=hg;obtain⟨vs,kv,es',ep',h1,h2⟩:=zei I hq;rw[ho] at h1;cases h1;obtain⟨f0,f1,f2,f3,f4,f5⟩:=hf it (by simp);have hl:kvs.length=vs.length:=KV.length kv;have hv:i<vs.length:=by omega
  obtain⟨⟨k,v⟩,hkv⟩:∃ kv,vs[i]'hv=kv:=⟨_,rfl⟩;rw[hl] at st;refine wpAny_pyNext_dict_item st h2 (k:=k) (v:=v) (by rw[zs5 hv,hkv]) fun key h' hk st' sb=>?_;have I1:Inv X pins σ H { s with heap:=h' }:=I.turned (t':=s.toks) (fun b o hb e=>(sb.2 b hb).trans e) f0 f1 f3 f4 f5;obtain⟨o2,e2,c2,d2⟩:=id st';have ek:=congrArg (·[i]?) (KV.keys kv);simp only[zs7,zs5 hv,zs5 hi,hkv,zua] at ek;refine⟨key,rfl,zdc (s:={ s with heap:=h' }) e2 c2 d2 ⋯ ⟨kV (kvs[i]'hi).1,H,I1,?_,⟨rfl,_,zs5 hi,rfl⟩,by rw[hl];exact st',fun b hb=>(hf b hb).1⟩⟩;have e3:(kvs[i]'hi).1=k:=Option.some.inj ek;rw[e3];rcases Yv hk with ⟨j,t,rfl,rfl⟩|⟨z,t,rfl,rfl⟩
  ·exact⟨t,rfl⟩
  ·exact⟨t,rfl⟩
 done:=by
  intro X hP hw hK hc i pins s σ H E I hf st hg;subst hP hw hK;obtain⟨hq,hi⟩:=hg;obtain⟨vs,kv,es',ep',h1,h2⟩:=zei I hq;rw[ho] at h1;cases h1;obtain⟨f0,f1,f2,f3,f4,f5⟩:=hf it (by simp);have hl:kvs.length=vs.length:=KV.length kv;rw[hl] at st;exact wpAny_pyNext_dict_end (I.ok.hd hc) st h2 (zup ⋯) fun h' eb=>⟨rfl,I.turned (t':=s.toks) (fun b o hb e=>eb b o hb e) f0 f1 f3 f4 f5⟩
 self:=fun _ _ _ _ _ st h=>wpAny_pyIter_keyiter st h
inductive zh0(R:It->Hp->Prop)(x:V)(H1:Hp):Prop where
 | mk(a)(kvs)(_:x=.ref a)(_:H1 a=some (.dK kvs))(_:∀ o,R (Itk a o kvs) (upd H1 a (.frz o (.dK kvs))))
def zjo(tl:TE):TI:=fun σ H R=>tl σ H fun x H1=>zh0 R x H1
theorem zbb{X:Cx}{tg:Expr}{l:Expr}{tl:TE}(hl:PE X l tl):PI X tg l (zjo tl):=by
 intro pins s σ H R I h;refine thn (hl pins s σ H _ I h) fun v s1 ⟨x,H1,I1,r1,q1⟩=>?_;obtain⟨a,kvs,e,hq,q⟩:=q1;subst e;cases r1;obtain⟨hz,hm,vs,kv,o,es,ep,h2,h3,h4,h5⟩:=(show Yw X.prog X.w H1 s1.heap a (.dK kvs) from I1.hok a _ hq);have hl:kvs.length=vs.length:=KV.length kv;have I2:=I1.freeze hq h2;refine wpAny_pyIter_dict hm ⟨o,es,h2,h3,h4,h5⟩ ?_;refine⟨s1.heap.objs.size,[s1.heap.objs.size],_,_,_,rfl,I2.kept (t':=s1.toks) fun b o e=>Heap.get?_push_of_some _ e,zco a _ o kvs es ep h4,⟨_,Heap.get?_push_size _ rfl,rfl,by rw[hl];rfl⟩,fun b hb=>?_,q o⟩;have e:b=s1.heap.objs.size:=by simpa using hb
 subst e;exact I2.fpOk (ztc _) (I2.hok.fresh (ztc _))
theorem C2{a:Addr}{o:Obj}{kvs:List (Key×V)}{g:TG}{tb:TS}{D:N5}{σ:St}{H:Hp}(Pv:Nat->St->Hp->Prop)(h0:Pv 0 σ H)(hl:∀ i σ H,i<=kvs.length->Pv i σ H->H a=some (.frz o (.dK kvs)))
  (hs:∀ i k v σ H,kvs[i]?=some (k,v)->Pv i σ H->g (kV k) σ H fun σ2 H2=>tb { D with nx:=Pv (i+1),ct:=Pv (i+1),bk:=D.nx } σ2 H2) (hd:∀ σ H,Pv kvs.length σ H->D.nx σ H) :
  ∃ W:Nat->Nat->St->Hp->Prop,(∃ m,W 0 m σ H)/\∀ i m σ H,W i m σ H ->
    ((Itk a o kvs).stop i H/\D.nx σ H)\/((Itk a o kvs).go i H/\∃ N:St->Hp->Prop,(∀ σ' H',N σ' H'->∃ m',m' < m/\W (i+1) m' σ' H')/\∀ x H',(Itk a o kvs).yld i H x H'->g x σ H' fun σ2 H2=>tb { D with nx:=N,ct:=N,bk:=D.nx } σ2 H2):=by
 refine⟨fun i m σ H=>m=kvs.length-i/\i<=kvs.length/\Pv i σ H,⟨kvs.length,by simp,zt6 _,h0⟩,?_⟩;rintro i m σ H ⟨rfl,hi,p⟩;have q:=hl i σ H hi p;by_cases hlt:i<kvs.length
 ·refine .inr ⟨⟨q,hlt⟩,Pv (i+1),fun σ' H' p'=>⟨kvs.length-(i+1),by omega,rfl,hlt,p'⟩,fun x H' y=>?_⟩;obtain⟨e,⟨k,v⟩,y,rfl⟩:=y;subst e;exact hs i k v σ _ y p
 ·have e:i=kvs.length:=by omega
  subst e;exact .inl ⟨⟨q,ztc _⟩,hd σ H p⟩
theorem zcp(hc:X.calm=true):Vy X (.builtin "max") (fun xs H Q=>∃ (l:Addr) (kvs:List (Key×V)) (ns:List Int),xs=[.ref l]/\Rd H l (.dK kvs)/\kvs.map (·.1)=ns.map inl/\0<ns.length/\∀ M,M∈ns->(∀ a∈ns,a<=M)->Q (.int M) H):=by
 intro pins s σ H xs us Q I r h;obtain⟨l,kvs,ns,rfl,hl,hns,hpos,q⟩:=h;obtain⟨u,rfl,ru⟩:=To r;cases ru;obtain⟨hz,hm,vs,kv,o,es,ep,h2,h3,h4,h5⟩:=Ph I.hok hl;have hlen:vs.length=ns.length:=by
  have e1:=KV.length kv;have e2:=congrArg List.length hns;rw[zs4,zs4] at e2;omega
 have hlt:l<s.heap.objs.size:=Heap.lt_size h2;have da:s.heap.DictAt (Yi X.prog X.w) l vs ep:=⟨o,es,h2,h3,h4,h5⟩;have val:∀ (i:Nat) (v:Value),(∃ k y,vs[i]?=some (k,y)/\(Yi X.prog X.w).is k v=true)->∃ t,v=.int (ns.getD i 0) t:=fun i v ⟨k,y,hk,hv⟩=>by
  have e1:=congrArg (·[i]?) (KV.keys kv);have e2:=congrArg (·[i]?) hns;simp only[zs7,hk,zua] at e1 e2;rw[e1] at e2;have hi:i<ns.length:=by
   rw[<- hlen];exact(zs6.mp hk).1
  rw[zs5 hi] at e2;have e3:k=inl (ns[i]'hi):=Option.some.inj e2;have e4:ns.getD i 0=ns[i]'hi:=by rw[ztq,zs5 hi];rfl
  rw[e4];rcases Yv hv with ⟨j,t,rfl,rfl⟩|⟨z,t,rfl,rfl⟩
  ·cases e3;exact⟨t,rfl⟩
  ·cases e3
 refine call_max_walk (wpAny_pyIter_dict hm da ?_);refine⟨s.heap.objs.size,[s.heap.objs.size,l],[s.heap.objs.size],vs.length,_,_,_,rfl,Walks.dictKeys (knd:=Yi X.prog X.w) (A:=X.A.in1) (I.ok.hd hc) _ l (zts hlt) vs ep,⟨⟨_,Heap.get?_push_size _ rfl,rfl,rfl⟩,da.push _⟩,fun b hb=>?_,by omega,CmpOf.ints_gt (fun i=>ns.getD i 0) (fun i v hv=>val i v hv),fun v h' tk hP hk=>?_⟩
 ·show b<(s.heap.push _).objs.size;rw[Heap.size_push];rcases ztf.mp hb with rfl|hb
  ·exact zvc _
  ·rcases ztf.mp hb with rfl|hb
   ·exact zuv hlt
   ·cases hb
 ·obtain⟨h1,h2⟩:=argBest_gt (fun i=>ns.getD i 0) (vs.length-1);obtain⟨t,rfl⟩:=val _ v hP;rw[hlen] at h1 h2 ⊢;generalize argBest (fun i j=>decide ((fun i=>ns.getD i 0) i>(fun i=>ns.getD i 0) j)) (ns.length-1)=b at h1 h2 ⊢;have hb:b<ns.length:=by omega
  have eg:∀ (k:Nat) (hk:k<ns.length),ns.getD k 0=ns[k]'hk:=fun k hk=>by rw[ztq,zs5 hk];rfl
  refine⟨.int (ns.getD b 0),H,I.kept fun c o e=>?_,⟨_,rfl⟩,q _ (by rw[eg b hb];exact ztw hb) fun x hx=>?_⟩
  ·refine hk c o (fun hm=>?_) (Heap.get?_push_of_some _ e);rw[zs9.mp hm] at e;exact zum _ (Heap.lt_size e)
  ·obtain⟨k,hk',rfl⟩:=zt2 hx;have:=h2 k ⋯;show ns[k]<=_;rw[<- eg k hk'];exact this
theorem Tv(I:Nat->Shared->Prop)
  (turn:∀ (n:Nat) (s:Shared),I n s->wpAny (model prog w) A (pyNext it) (fun r s₁=>match r with
   | none=>R (.ok .next) s₁
   | some v=>wpAny (model prog w) A (letOwnedTupleGo target it v) (fun _ s₁'=>wpAny (model prog w) A (assign target env v) (fun _ s₂=>wpAny (model prog w) A (forIn ifs true fun c r=>if r=true then do let ok <- isTrue c env (eval c env);pure (ForInStep.yield ok) else pure (ForInStep.yield r)) (fun ok s₃=>if ok=true then wpAny (model prog w) A (eval elt env) (fun x s₄=>wpAny (model prog w) A (call (.builtin "list.append") [acc,x]) (fun _ s₅=>∃ m,m<n/\I m s₅) (notedBy (model prog w) A env fun e s'=>R (.error e) s') s₄) (notedBy (model prog w) A env fun e s'=>R (.error e) s') s₃ else ∃ m,m<n/\I m s₃) (notedBy (model prog w) A env fun e s'=>R (.error e) s') s₂) (notedBy (model prog w) A env fun e s'=>R (.error e) s') s₁') (notedBy (model prog w) A env fun e s'=>R (.error e) s') s₁) (notedBy (model prog w) A env fun e s'=>R (.error e) s') s)
  (n:Nat) (h:I n s):codeAny (model prog w) A (.compLoop (.ListComp elt [⟨target,iter,ifs,0⟩] scope pos) 0 it acc env) R s:=by
 refine codeAny_loop rfl I (fun n s hI=>?_) n h;refine wpAny_noted ?_;rw[compTurn_list];refine wpAny_bind (wpAny_standAt (wpAny_bind (wpAny_mono (turn n s hI) (fun r s₁ h₁=>?_) fun _ _ z=>z)));cases r with
 | none=>exact wpAny_pure h₁
 | some v =>
   refine wpAny_bind (wpAny_mono h₁ (fun _ s₁' h₂=>wpAny_bind (wpAny_mono h₂ (fun _ s₂ h₃=>wpAny_bind (wpAny_mono h₃ (fun ok s₃ h₄=>?_) fun _ _ z=>z)) fun _ _ z=>z)) fun _ _ z=>z);cases ok with
   | false =>
     simp only[zux,if_false] at h₄ ⊢;exact wpAny_pure ⟨rfl,h₄⟩
   | true =>
     simp only[if_true] at h₄ ⊢;refine wpAny_bind (wpAny_bind (wpAny_mono h₄ (fun x s₄ h₅=>wpAny_bind (wpAny_mono h₅ (fun _ s₅ h₆=>wpAny_pure (wpAny_pure ⟨rfl,h₆⟩)) fun _ _ z=>z)) fun _ _ z=>z))
def cs0(xo:List Str)(js:List Nat)(σ:St):St:=(xo.map fun _=>none)++js.map fun j=>(σ[j]?).getD none
def Sn(xo:List Str)(js:List Nat)(σ σ2:St):Prop:=∃ os:St,os.length=xo.length/\σ2=os++js.map fun j=>(σ[j]?).getD none
theorem Sn.weak(o:Sn xo js σ σ2)(I:Inv X pins σ2 H s):Inv X pins (cs0 xo js σ) H s:=by
 obtain⟨os,hl,rfl⟩:=o;refine I.weak (by unfold cs0;simp[hl]) fun i v e=>?_;unfold cs0 at e;by_cases hi:i<xo.length
 ·rw[zt7 (by rw[zs4];exact hi),zs7,zs5 hi] at e;cases e
 ·rw[zt4 (by rw[zs4];omega),zs4] at e;rw[zt4 ⋯,hl];exact e
def E7(J:It)(xo:List Str)(js:List Nat)(g:TG)(tt:TT)(te:TE)(σ:St)(H:Hp)(Q:VK):Prop:=∃ W:Nat->Nat->List V->Hp->Prop,(∃ m,W 0 m [] H)/\∀ i m ys H,W i m ys H ->
 (J.stop i H/\ys.length<=sizeLine/\∀ p,H p=none->Q (.ref p) (upd H p (.lst ys))) \/
 (J.go i H/\ys.length<sizeLine/\∃ N:List V->Hp->Prop,(∀ ys' H',N ys' H'->∃ m',m' < m/\W (i+1) m' ys' H')/\∀ x H',J.yld i H x H'->g x (cs0 xo js σ) H' fun σ2 H1=>Sn xo js σ σ2/\tt σ2 H1 fun b H2=>if b=true then te σ2 H2 fun y H3=>N (ys++[y]) H3 else N ys H2)
def zh1(wi:TI)(xo:List Str)(js:List Nat)(g:TG)(tt:TT)(te:TE):TE:=fun σ H Q=>wi σ H fun J H1=>E7 J xo js g tt te σ H1 Q
section
variable{X:Cx}{elt iter tg:Expr}{xo:List Str}{pos:Pos}{ifs:List Expr}{scope:Scope}{cl:List (Str×Addr)}{ys:List Str}{js:List Nat}{g:TG}
structure Md(X:Cx)(xo:List Str)(scope:Scope)(cl:List (Str×Addr))(ys:List Str)(js:List Nat):Prop where
 clos:closureFor scope X.env=pure cl
 kind:scope.kind=.function
 names:∀ y∈scope.names,y.2=.local->scope.names.lookup y.1=some .local
 nocell:∀ y∈scope.names,y.2≠.cell
 at_:js.map (X.N[·]?)=ys.map some
 free:Kt (fun y=>X.env.kindOf y=some .cell/\(relabel scope X.env).names.lookup y=some .cell/\cl.lookup y=X.env.cells.lookup y) ys
 only:Kt (fun p=>X.env.cells.lookup p.1=some p.2) cl
 vis:∀ y∈scope.names,y.2=.free->y.1∈ys
theorem Md.same(c:Md X xo scope cl ys js)(h:cl.lookup y=some a):X.env.cells.lookup y=some a:=c.only.get (PySem.mem_of_lookup h)
theorem zej(c:Md X xo scope cl ys js)(I:Inv X pins σ H s)(hf:∀ b∈fp,FpOk X pins H b)(hex:∀ b∈fp,b<s.heap.objs.size)(hC:s.heap.objs.size<=C) :
  (Yz X pn Nc scope cl s H fp C).Ok where
 mod:=I.ok.mod
 kind:=c.kind
 glob:=I.ok.glob
 blt:=I.ok.blt
 above:=hC
 inj:=fun y z a h1 h2=>I.ok.inj y z a (c.same h1) (c.same h2)
 has:=fun y h=>by
  obtain⟨k,m,q⟩:=Qa h;rcases q with rfl|rfl
  ·exact absurd rfl (c.nocell _ m)
  ·obtain⟨a1,a2,a3⟩:=c.free.get (c.vis _ m rfl);obtain⟨a,ha⟩:=I.ok.has y (.inl a1);exact⟨a,a3.trans ha⟩
 cab:=fun _ _ h=>by cases h
 hd:=I.ok.hd
 frames:=I.ok.frames
 stk:=.inl rfl
 exf:=fun b hb=>by
  obtain⟨f0,f1,f2,f3,f4,f5⟩:=hf b hb;exact⟨zts (ztn (hex b hb) hC),fun y a h=>f4 y a (c.same h)⟩
 bs:=I.bs
 bsz:=ztk I.ok.bsz I.sz
 noex:=fun b o q hb=>by
  obtain⟨f0,f1,f2,f3,f4,f5⟩:=hf b hb;rcases f3 with z|z
  ·exact I.ok.noex b o q z
  ·exact absurd (ztn (Heap.lt_size (I.ok.bs b o q).1) z) (zum _)
 exfs:=fun b hb m=>by
  obtain⟨f0,f1,f2,f3,f4,f5⟩:=hf b hb;exact(ztf.mp (I.stkSub b m)).elim f1 f2
 funs:=I.stack
 frf:=I.stkFree
theorem zcq(c:Md X xo scope cl ys js)(I:Inv X pins σ H s)(hf:∀ b∈fp,FpOk X pins H b)(hex:∀ b∈fp,b<s.heap.objs.size)(hC:s.heap.objs.size<=C)
  (hns:h1.Ns C m1) (old:∀ b o,s.heap.get? b=some o->h1.get? b=some o) :
  Inv (Yz X (X.pn++pins) (xo++ys) scope cl s H fp C) [] (cs0 xo js σ) H { s with heap:=h1,toks:=t1 }:=by
 obtain⟨m,hn,hl⟩:=I.loc;have jl:js.length=ys.length:=by have:=congrArg List.length c.at_;simpa using this
 refine⟨zej c I hf hex hC,rfl,I.bare,Un.kept old,⟨m1,hns,fun i y v e1 e2 e3=>?_⟩,fun y a h=>?_,I.hok.fresh hC,fun y a h=>I.freeC y a (c.same h),fun p hp=>?_,I.hok.kept old,by simp[jl,Yz,cs0]⟩
 ·have e2:=e2.resolve_right (X4 _);unfold cs0 at e2;by_cases hi:i<xo.length
  ·rw[zt7 (by rw[zs4];exact hi),zs7,zs5 hi] at e2;cases e2
  ·rw[zt4 (by rw[zs4];omega),zs4] at e2;have e1:ys[i-xo.length]?=some y:=by
    have e1:(xo++ys)[i]?=some y:=e1;rw[zt4 ⋯] at e1;exact e1
   generalize i-xo.length=k at e1 e2;rw[zs7] at e2;cases hj:js[k]? with
   | none=>rw[hj] at e2;cases e2
   | some j =>
     rw[hj] at e2;have ej:X.N[j]?=some y:=by
      have q:=congrArg (·[k]?) c.at_;simp only[zs7,hj,e1,zua] at q;exact Option.some.inj q
     have ev:σ[j]?=some (some v):=by
      simp only[zua,Option.some.injEq] at e2;cases hσ:σ[j]? with
      | none=>rw[hσ] at e2;cases e2
      | some o=>rw[hσ] at e2;rw[show o=some v from e2]
     obtain⟨a1,a2,a3⟩:=c.free.get (ztb e1);obtain⟨u,r,l⟩:=hl j y v ej (.inl ev) (.inr (.inl a1));refine⟨u,r,.inr ⟨.inl a2,?_⟩⟩;rcases l with ⟨k1,_⟩|⟨_,b,e,z⟩
     ·rw[a1] at k1;cases k1
     ·obtain⟨o,ho,hd⟩:=z;exact⟨b,a3.trans e,o,old _ _ ho,hd⟩
 ·obtain⟨v,o,ho,hd⟩:=I.cell y a (c.same h);exact⟨v,o,old _ _ ho,hd⟩
 ·obtain⟨e,n,ne,nf,d⟩:=I.pin p (by simpa [Yz] using hp);refine⟨old _ _ e,n,zts (ztn (Heap.lt_size e) hC),fun m=>?_,d⟩;exact(ztf.mp (I.stkSub _ m)).elim ne nf
theorem J6{pins:List (Addr×Obj)}{σ:St}{H:Hp}{s:Shared}{tt:TT}{te:TE}{it:Addr}{fp:List Addr}{tn:Nat->Heap->Prop}{J:It}{W:Nat->Nat->List V->Hp->Prop}{m0:Nat}{Q:VK}{E:Value->Shared->Prop}{RR:Value->Addr->Result->Shared->Prop}
  (hcm:X.calm=true) (c:Md X xo scope cl ys js) (ht:∀ pn s₀ H₀ fp C,PTs (Yz X pn (xo++ys) scope cl s₀ H₀ fp C) ifs tt) (hgt:∀ pn s₀ H₀ fp C,PG (Yz X pn (xo++ys) scope cl s₀ H₀ fp C) tg g) (he:∀ pn s₀ H₀ fp C,PE (Yz X pn (xo++ys) scope cl s₀ H₀ fp C) elt te)
  (I:Inv X pins σ H s) (T:Gh X.prog X.w X.K tg J fp it tn) (st0:tn 0 s.heap) (hf:∀ b∈fp,FpOk X pins H b) (w0:W 0 m0 [] H)
  (turn:∀ i m ys H,W i m ys H->(J.stop i H/\ys.length<=sizeLine/\∀ p,H p=none->Q (.ref p) (upd H p (.lst ys))) \/
   (J.go i H/\ys.length<sizeLine/\∃ N:List V->Hp->Prop,(∀ ys' H',N ys' H'->∃ m',m' < m/\W (i+1) m' ys' H')/\∀ x H',J.yld i H x H'->g x (cs0 xo js σ) H' fun σ2 H1=>Sn xo js σ σ2/\tt σ2 H1 fun b H2=>if b=true then te σ2 H2 fun y H3=>N (ys++[y]) H3 else N ys H2))
  (hRR:∀ D C s' m,s'.heap.Ns C m->(∀ h',Heap.SameBut C s'.heap h'->∃ H',Inv X pins σ H' { s' with heap:=h' }/\Q (.ref D) H')->(∃ H',Inv X pins σ H' s'/\Q (.ref D) H'/\H' C=none)->s.heap.objs.size<=C->RR (.ref D) C (.ok .next) s') :
  wpAny (model X.prog X.w) X.A (newList []) (fun acc s₃=>wpAny (model X.prog X.w) X.A (newFunctionEnv scope X.env.globals cl [] X.env.qual none .none (some X.env)) (fun cenv s₄ =>
   codeAny (model X.prog X.w) X.A (.compStart (.ListComp elt [⟨tg,iter,ifs,0⟩] scope pos) 0 (.ref it) acc { cenv with scope:=relabel scope X.env }) (RR acc cenv.locals) s₄) E s₃) E s:=by
 refine wpAny_newObj_type (wpAny_newFunctionEnv c.nocell (by intro y hy;simp at hy) (fun h₁ hns₁ hsb₁=>?_) c.kind);dsimp only at hns₁ hsb₁ ⊢;generalize hH2:s.heap.push { cls:=.type "list",dict:=none,data:=.seq ([]:List Value).toArray }=G at hns₁ hsb₁ ⊢;generalize hD:s.heap.objs.size=D;have hC:G.objs.size=D+1:=by rw[<- hH2,Heap.size_push,hD]
 generalize hCe:G.objs.size=C at hns₁ hsb₁ ⊢;have hCD:C=D+1:=hCe.symm.trans hC;have hDC:D≠C:=by omega
 have below:∀ b o,s.heap.get? b=some o->b<D:=fun b o e=>by rw[<- hD];exact Heap.lt_size e
 have ltC:∀ b:Addr,b<D->b≠C:=fun b h=>zts (hCD▸zuv h);have ltD:∀ b:Addr,b<D->b≠D:=fun b h=>zts h;have old:∀ b o,s.heap.get? b=some o->h₁.get? b=some o:=fun b o e=>hsb₁.extBut b o (ltC b (below b o e)) (Heap.get?_push_of_some _ (hH2▸Heap.get?_push_of_some _ e));have hacc:h₁.PlainList D #[]:=⟨_,hsb₁.extBut _ _ hDC (Heap.get?_push_of_some _ (by rw[<- hH2,<- hD];exact Heap.get?_push_size _ rfl))⟩;have hex:∀ b∈fp,b<s.heap.objs.size:=fun b hb=>by
  obtain⟨o,e,_⟩:=T.obj _ _ st0 b hb;exact Heap.lt_size e
 have lt0:∀ b∈fp,b<D:=fun b hb=>by rw[<- hD];exact hex b hb
 have freshD:s.heap.get? D=none:=Heap.get?_none_of_le ⋯;have freshC:s.heap.get? C=none:=Heap.get?_none_of_le ⋯;have frE:∀ {H':Hp},(∀ b∈fp,H' b=none)->∀ {o:Obj} {b:Addr},b∈fp->FpOk (Yz X (X.pn++pins) (xo++ys) scope cl s H fp C) [(D,o)] H' b:=fun {H'} hn {o b} hb=>by
  obtain⟨f0,f1,f2,f3,f4,f5⟩:=hf b hb;refine⟨hn b hb,?_,?_,.inl hb,fun y a h=>f4 y a (c.same h),fun p hp=>?_⟩
  ·exact ltC b (lt0 b hb)
  ·exact fun m=>(ztf.mp (I.stkSub b m)).elim f1 f2
  ·rcases ztg.mp hp with z|z
   ·exact f5 p z
   ·rw[zs9.mp z];exact Ne.symm (ltD b (lt0 b hb))
 have pinD:∀ {σ':St} {H':Hp} {s':Shared} {o:Obj},Inv (Yz X (X.pn++pins) (xo++ys) scope cl s H fp C) [] σ' H' s'->s'.heap.get? D=some o->(∀ v,o.data≠.cell v)->H' D=none->Inv (Yz X (X.pn++pins) (xo++ys) scope cl s H fp C) [(D,o)] σ' H' s':=fun {σ' H' s' o} Ic e nc n =>
  Ic.pins_of fun p hp=>by
   rw[zs9.mp hp];refine⟨e,n,hDC,fun m=>?_,nc⟩;obtain⟨_,ob,hob,_⟩:=I.stack.mem m;exact absurd (below D ob hob) (zum _)
 have loop:∀ s₃:Shared,s₃={ s with heap:=h₁,toks:=s.toks+([]:List (Str×Value)).length } ->
   codeAny (model X.prog X.w) X.A (.compLoop (.ListComp elt [⟨tg,iter,ifs,0⟩] scope pos) 0 (.ref it) (.ref D) (compEnvC scope cl C X.env)) (RR (.ref D) C) s₃:=by
  rintro s₃ rfl;have I0:=zcq (t1:=s.toks+([]:List (Str×Value)).length) c I hf hex (by omega:s.heap.objs.size<=C) hns₁ old;refine Tv (fun n s'=>∃ i H' zs its,Inv (Yz X (X.pn++pins) (xo++ys) scope cl s H fp C) [] (cs0 xo js σ) H' s'/\tn i s'.heap/\(∀ b∈fp,H' b=none)/\s'.heap.PlainList D (its:List Value).toArray/\Vals zs its/\H' D=none/\W i n zs H') ?_ m0
   ⟨0,H,[],[],I0,T.keep _ _ _ st0 fun b hb o e=>old b o e,fun b hb=>(hf b hb).1,hacc,.nil,I.hok.fresh ⋯,w0⟩
  rintro n s3 ⟨i,H3,zs,its,I3,st3,fr3,⟨n3,pl3⟩,rv3,fD3,w3⟩;have I3':=pinD I3 pl3 (by intro v z;cases z) fD3;rcases turn i n zs H3 w3 with ⟨stop,hsz,fin⟩|⟨go,hsz,Nx,hNx,step⟩
  ·refine wpAny_mono (T.done (Yz X (X.pn++pins) (xo++ys) scope cl s H fp C) rfl rfl rfl hcm i _ s3 _ H3 (fun _ _=>False) I3' (fun b hb=>frE fr3 hb) st3 stop) (fun r s4 ⟨hr,I4⟩=>?_) fun _ _ z=>z.elim;subst hr;have plD:s4.heap.get? D=some _:=(I4.pin (D,{ cls:=Value.type "list",data:=.seq its.toArray n3 }) (zth _ ztz)).1;obtain⟨m4,hn4,_⟩:=I4.loc;have okU:∀ h',(∀ b o,b≠C->s4.heap.get? b=some o->h'.get? b=some o)->Inv X pins σ (upd H3 D (.lst zs)) { s4 with heap:=h' }:=fun h' k1=>by
    have u4:Un (frs X.stack) fp H H3 s.heap s4.heap:=I4.base;have neC:∀ b o,s.heap.get? b=some o->b≠C:=fun b o e=>ltC b (below b o e);have neD:∀ b o,s.heap.get? b=some o->b≠D:=fun b o e=>ltD b (below b o e);have trD:∀ b u,H3 b=some u->b≠D:=fun b u e z=>by rw[z,fD3] at e;cases e
    have trC:∀ b u,H3 b=some u->b≠C:=fun b u e z=>by rw[z,show H3 C=none from I4.free] at e;cases e
    have un:Un (frs X.stack) fp H (upd H3 D (.lst zs)) s.heap h':=by
     refine⟨fun b o e n hb hx=>k1 b o (neC b o e) (u4.keep b o e n hb hx),fun b o e n hb hx=>?_,fun b o e n hx=>?_,fun b o e hx=>?_,fun b xs e=>?_,fun b ob u e=>?_,fun b ps e=>?_⟩
     ·obtain⟨sl,z⟩:=u4.slot b o e n hb hx;exact⟨sl,k1 b _ (neC b o e) z⟩
     ·rw[Zh (neD b o e)];exact u4.free b o e n hx
     ·obtain⟨o',z⟩:=u4.there b o e hx;exact⟨o',k1 b o' (neC b o e) z⟩
     ·have z:=u4.tups b xs e;rw[Zh (trD b _ z)];exact z
     ·have z:=u4.frzs b ob u e;rw[Zh (trD b _ z)];exact z
     ·obtain⟨more,z⟩:=u4.tbls b ps e;exact⟨more,by rw[Zh (trD b _ z)];exact z⟩
    refine I.call' (s':={ s4 with heap:=h' }) (ch:=fp) (show s4.os=s.os from I4.os) un (fun b u e=>?_) I4.bare fun b hb=>?_
    ·by_cases hb:b=D
     ·subst hb;rw[Ze] at e;cases e;exact⟨hsz,its,n3,rv3,k1 _ _ hDC plD⟩
     ·rw[Zh hb] at e;refine(I4.hok b u e).stay (fun d v hd q=>?_) (fun d q=>by rw[Zh (trD d _ q)];exact q) fun d xs q=>by rw[Zh (trD d _ q)];exact q
      rcases hd with z|z
      ·exact k1 d v (by rw[z];exact trC b u e) q
      ·exact k1 d v (trC d _ z) q
    ·obtain⟨f0,f1,f2,f3,f4,f5⟩:=hf b hb;exact⟨f3,f1,f4,f5⟩
   refine hRR D C s4 m4 hn4 (fun h' hs'=>⟨_,okU h' (fun b o hb e=>hs'.extBut b o hb e),fin D fD3⟩) ⟨_,okU s4.heap (fun _ _ _ e=>e),fin D fD3,?_⟩ ⋯
   ·rw[Zh (Ne.symm hDC)];exact I4.free
  ·refine wpAny_mono (T.item (Yz X (X.pn++pins) (xo++ys) scope cl s H fp C) rfl rfl rfl hcm i _ s3 _ H3 (fun _ _=>False) I3' (fun b hb=>frE fr3 hb) st3 go) (fun r s4 ⟨u,hr,h4⟩=>?_) fun _ _ z=>z.elim;subst hr;refine wpAny_mono h4 (fun _ s5 h5=>?_) fun _ _ z=>z.elim;obtain⟨xv,H5,I5,r5,y5,st5,fr5⟩:=h5;have I5':=I5.pinned (fun b hb=>frE fr5 hb) (T.obj _ _ st5);refine wpAny_mono (hgt _ _ _ _ _ _ s5 _ H5 xv u _ I5' r5 (step xv H5 y5)) (fun _ s6 ⟨σ6,H6,I6,own6,q6⟩=>?_) fun _ _ z=>z.elim;refine wpAny_mono (ht _ _ _ _ _ _ s6 _ H6 _ I6 q6) (fun ok s7 ⟨H7,I7,q7⟩=>?_) fun _ _ z=>z.elim;have keepF:∀ {σ8:St} {H8:Hp} {s8:Shared},Inv (Yz X (X.pn++pins) (xo++ys) scope cl s H fp C) ([(D,{ cls:=Value.type "list",data:=.seq its.toArray n3 })]++Pf fp s5.heap) σ8 H8 s8->tn (i+1) s8.heap/\(∀ b∈fp,H8 b=none)/\s8.heap.PlainList D its.toArray/\H8 D=none:=fun {σ8 H8 s8} I8=>by
    refine⟨T.keep _ _ _ st5 fun b hb o e=>(I8.pin (b,o) (zth _ (zth _ (Uq hb e)))).1,fun b hb=>?_,⟨n3,(I8.pin (D,_) (zth _ ztz)).1⟩,(I8.pin (D,_) (zth _ ztz)).2.1⟩;obtain⟨o,e,d⟩:=T.obj _ _ st5 b hb;exact(I8.pin (b,o) (zth _ (zth _ (Uq hb e)))).2.1
   have bare:∀ {σ8:St} {H8:Hp} {s8:Shared},Inv (Yz X (X.pn++pins) (xo++ys) scope cl s H fp C) ([(D,{ cls:=Value.type "list",data:=.seq its.toArray n3 })]++Pf fp s5.heap) σ8 H8 s8->Inv (Yz X (X.pn++pins) (xo++ys) scope cl s H fp C) [] σ8 H8 s8:=fun I8=>I8.pins_of fun _ z=>(nomatch z)
   cases ok with
   | false =>
     simp only[zux,if_false] at q7 ⊢;obtain⟨m',hm',w7⟩:=hNx _ _ q7;obtain⟨a1,a2,a3,a4⟩:=keepF I7;exact⟨m',hm',i+1,H7,zs,its,own6.weak (bare I7),a1,a2,a3,rv3,a4,w7⟩
   | true =>
     simp only[if_true] at q7 ⊢;refine wpAny_mono (he _ _ _ _ _ _ s7 _ H7 _ I7 q7) (fun y s8 ⟨yv,H8,I8,r8,q8⟩=>?_) fun _ _ z=>z.elim;obtain⟨m',hm',w8⟩:=hNx _ _ q8;obtain⟨a1,a2,a3,a4⟩:=keepF I8;have szI:its.toArray.size<=sizeLine:=by rw[ztj,<- rv3.length];omega
     refine wpAny_list_append_plain (hsz:=szI) a3 fun h9 pl9 sb9=>?_;have I8b:=own6.weak (bare I8);refine⟨m',hm',i+1,H8,zs++[yv],its++[y],?_,T.keep _ _ _ a1 fun b hb o e=>(sb9.2 b (ltD b (lt0 b hb))).trans e,a2,by rw[List.push_toArray] at pl9;exact pl9,rv3.append (.cons r8 .nil),a4,w8⟩;refine I8b.turned (t':=s8.toks) (it:=D) (fun b o hb e=>(sb9.2 b hb).trans e) a4 hDC (.inr (show s.heap.objs.size<=D by omega)) (fun y' a h=>?_) fun p hp=>?_
     ·obtain⟨v,o,ho,_⟩:=I.cell y' a (c.same h);exact ltD a (below a o ho)
     ·obtain⟨e,_⟩:=I.pin p (by simpa [Yz] using hp);exact ltD _ (below _ _ e)
 exact codeAny_compStart_list (loop _ rfl) (T.self _ 0 _ _ _ (T.keep _ _ _ st0 fun b hb o e=>old b o e) (loop _ rfl))
variable{wi:TI}{tt:TT}{te:TE}
theorem J7(hcm:X.calm=true)(c:Md X xo scope cl ys js)(hi:PI X tg iter wi)(ht:∀ pn s₀ H₀ fp C,PTs (Yz X pn (xo++ys) scope cl s₀ H₀ fp C) ifs tt)(hgt:∀ pn s₀ H₀ fp C,PG (Yz X pn (xo++ys) scope cl s₀ H₀ fp C) tg g)(he:∀ pn s₀ H₀ fp C,PE (Yz X pn (xo++ys) scope cl s₀ H₀ fp C) elt te)
  (hs:∀ x,foldedSetIterable iter X.env x=pure x:=by intro _;rfl):PE X (.ListComp elt [⟨tg,iter,ifs,0⟩] scope pos) (zh1 wi xo js g tt te):=by
 intro pins s σ H Q I h;rw[eval_ListComp];refine wpAny_comprehension_free (use:=none) rfl hs c.clos c.kind c.names (thn (hi pins s σ H _ I h) fun v s1 h1=>thn h1 fun itv s2 h2=>?_);obtain⟨it,fp,tn,J,H2,e,I2,T,st2,f2,W,⟨m0,w0⟩,turn⟩:=h2;subst e;exact J6 (RR:=fun acc C=>compPost (model X.prog X.w) X.A X.xe none (EP X pins σ Q) acc C) hcm c ht hgt he I2 T st2 f2 w0 turn fun D C s' m hn hS _ _=>⟨m,hn,fun h' hs'=>let ⟨H',I',q⟩:=hS h' hs';⟨.ref D,H',I',rfl,q⟩⟩
end
end L2
namespace G
open PySem PySem.Spec PyProof.Rows L2
theorem Ay{K:Frag}{a:Addr}{xs:List V}{xo:List Str}{js:List Nat}{g:TG}{tt:TT}{te:TE}{σ:L2.St}{H:Hp}{Q:VK}(p:Nat->Bool)(f:Nat->V)(hz:xs.length<=1000)(hx:SqL K H a xs)
  (step:∀ (i:Nat) (x:V) (t:Addr) (H':Hp) (N:List V->Hp->Prop) (ys:List V),xs[i]?=some x->Same H H'->H' t=none->(∀ H2,Same H H2->N (if p i=true then ys++[f i] else ys) H2) ->
   g (.ref t) (cs0 xo js σ) (upd H' t (.tup [.int (i:Nat),x])) fun σ2 H1=>Sn xo js σ σ2/\tt σ2 H1 fun b H2=>if b=true then te σ2 H2 fun y H3=>N (ys++[y]) H3 else N ys H2)
  (fin:∀ (H':Hp) (l:Addr),Same H H'->H' l=none->Q (.ref l) (upd H' l (.lst (((List.range xs.length).filter p).map f)))):E7 (Ite K a) xo js g tt te σ H Q:=by
 have line:1000<sizeLine:=by rw[sizeLine_eq];decide
 refine⟨fun i m ys H'=>m=xs.length-i/\i<=xs.length/\Same H H'/\ys=((List.range i).filter p).map f,⟨xs.length,by simp,zt6 _,fun _ _ q=>q,by simp⟩,?_⟩;rintro i m ys H' ⟨rfl,hi,hs,rfl⟩;have hq:=hs.seq hx;have hlen:(((List.range i).filter p).map f).length<=i:=by
  rw[zs4];exact ztk (zub _ _) (by rw[ztr];exact ztc _)
 by_cases hlt:i<xs.length
 ·refine .inr ⟨⟨xs,xs[i],hq,by simp[hlt]⟩,by omega,fun ys' H2=>Same H H2/\ys'=((List.range (i+1)).filter p).map f,fun ys' H2 ⟨h1,h2⟩=>⟨xs.length-(i+1),by omega,rfl,hlt,h1,h2⟩,fun x H2 y=>?_⟩;obtain⟨t,y,h1,h2,rfl,rfl⟩:=y;refine step i y t H' (fun ys' H2=>Same H H2/\ys'=((List.range (i+1)).filter p).map f) _ (h2 xs hq) hs h1 fun H2 s2=>⟨s2,?_⟩
  rw[zu5,zul,zti];cases hp:p i with
  | true=>rw[if_pos rfl,zt8,if_pos hp];rfl
  | false=>rw[if_neg ⋯,zt8,if_neg (by rw[hp];decide)];simp
 ·have e:i=xs.length:=by omega
  subst e;exact .inl ⟨⟨xs,hq,ztc _⟩,by omega,fun l hl=>fin H' l hs hl⟩
theorem Lh:∀ (a b:List (Nat×Option Int)) (xs:List V),Yh (a++b) xs=Yh b (Yh a xs)
 | [],_,_=>rfl
 | (p,w) :: r,b,xs=>by rw[List.cons_append,Yh,Yh,Lh r b]
structure Jn(kvs:List (Key×V))(gs:List V):Prop where
 has:∀ (n:Int) (j:Nat),gs[j]?=some (.int n)->valV kvs (inl n:Key)=some (.int (j:Nat))
 not:∀ n:Int,(∀ j:Nat,gs[j]?≠some (.int n))->valV kvs (inl n:Key)=none
theorem Jn.iff(t:Jn kvs gs)(n:Int):(∃ j:Nat,gs[j]?=some (.int n)/\valV kvs (inl n:Key)=some (.int (j:Nat)))\/((∀ j:Nat,gs[j]?≠some (.int n))/\valV kvs (inl n:Key)=none):=by
 by_cases h:∃ j:Nat,gs[j]?=some (.int n)
 ·obtain⟨j,hj⟩:=h;exact .inl ⟨j,hj,t.has n j hj⟩
 ·have h':∀ j:Nat,gs[j]?≠some (.int n):=fun j hj=>h ⟨j,hj⟩;exact .inr ⟨h',t.not n h'⟩
inductive E8(K:Frag)(vs:List V)(H:Hp)(Q:VK)(_:XK):Prop where
 | mk(b:Addr)(gs:List V)(_:vs=[.ref b])(_:H b=some (.lst gs))(_:(∀ x∈gs,oneV x))(_:(∀ (j k:Nat) (n:Int),gs[j]?=some (.int n)->gs[k]?=some (.int n)->j=k))(_:gs.length<=100)(_:∀ d kvs H',H' d=some (.dK kvs)->Jn kvs gs->Same H H'->H d=none->Q (.ref d) H')
structure Xy(H:Hp)(into:List (Key×V))(line:List Nat)(fr:Nat->Option (Nat×Int)):Prop where
 keys:into.map (·.1)=line.map fun q:Nat=>(inl (q:Int):Key)
 none:∀ q∈line,fr q=Option.none->valV into (inl (q:Int):Key)=some .non
 some:∀ q∈line,∀ par n,fr q=Option.some (par,n)->∃ t,valV into (inl (q:Int):Key)=Option.some (.ref t)/\H t=Option.some (.tup [.int (par:Nat),.int n])
theorem Xy.same(e:Same H H')(h:Xy H into line fr):Xy H' into line fr :=
 ⟨h.keys,h.none,fun q hq par n hf=>let ⟨t,a,b⟩:=h.some q hq par n hf;⟨t,a,e _ _ b⟩⟩
theorem Xy.len(h:Xy H into line fr):into.length=line.length:=by
 have:=congrArg List.length h.keys;rw[zs4,zs4] at this;exact this
theorem zek{into:List (Key×V)}{k:Key}:(valV into k).isSome=true↔k∈into.map Prod.fst:=by
 unfold valV;rw[Option.isSome_map,List.find?_isSome];constructor
 ·rintro⟨p,hp,e⟩;exact zte.mpr ⟨p,hp,of_decide_eq_true e⟩
 ·intro h;obtain⟨p,hp,rfl⟩:=zte.mp h;exact⟨p,hp,zta rfl⟩
theorem Xy.has{H:Hp}{into:List (Key×V)}{line:List Nat}{fr:Nat->Option (Nat×Int)}(h:Xy H into line fr)(q:Nat):(valV into (inl (q:Int):Key)).isSome=true↔q∈line:=by
 rw[zek,h.keys];constructor
 ·intro z;obtain⟨q',h1,h2⟩:=zte.mp z;have:(q':Int)=q:=inl.inj h2;have:q'=q:=by omega
  rw[<- this];exact h1
 ·intro hq;exact zte.mpr ⟨q,hq,rfl⟩
inductive Az(K:Frag)(vs:List V)(H:Hp)(Q:VK)(_:XK):Prop where
 | mk(l d:Addr)(ls:List Addr)(rows:List (List Int))(kvs:List (Key×V))(gs:List V)(p:Nat)(_:vs=[.ref l,.ref d,.int p])(_:H l=some (.lst (ls.map V.ref)))(_:ILs H ls rows)(_:rows.length<=100)(_:H d=some (.dK kvs))(_:Jn kvs gs)(_:Ya rows gs)(_:p<rows.length)(_:∀ t into line dep fr H',H' t=some (.dK into)->Xy H' into line fr->Bfs rows gs p line dep->Done rows gs line dep line.length->Tu rows gs p line dep fr->(∀ q∈line,q<rows.length)->Same H H'->H t=none->Q (.ref t) H')
inductive Fy(K:Frag)(vs:List V)(H:Hp)(Q:VK)(_:XK):Prop where
 | mk(l d:Addr)(r:List Int)(kvs:List (Key×V))(_:vs=[.ref l,.ref d])(_:H l=some (.lst (r.map V.int)))(_:H d=some (.dK kvs))(_:∀ w:Option Int,(∀ n,w=some n->n∈r/\valV kvs (inl n:Key)=none)->(w=none->∀ n∈r,(valV kvs (inl n:Key)).isSome=true)->Q (oV w) H)
inductive C3(K:Frag)(vs:List V)(H:Hp)(Q:VK)(_:XK):Prop where
 | mk(t:Addr)(q p:Nat)(w:Option Int)(rows:List (List Int))(gs:List V)(into:List (Key×V))(line:List Nat)(dep:Nat->Nat)(fr:Nat->Option (Nat×Int))(_:vs=[.ref t,.int q,oV w])(_:Rd H t (.dK into))(_:Xy H into line fr)(_:Tu rows gs p line dep fr)(_:dep p=0)(_:p∈line)(_:q∈line)(_:dep q<=100)(_:∀ lt ts st H',H' lt=some (.lst ts)->TupL H' ts (st.map Wf)->Ch rows gs p st q w->st.length=dep q+1->Same H H'->H lt=none->Q (.ref lt) H')
section
variable{rows:List (List Int)}{gs:List V}{p:Nat}{line:List Nat}{dep:Nat->Nat}{fr:Nat->Option (Nat×Int)}{H H':Hp}{into:List (Key×V)}
def Kl(fr:Nat->Option (Nat×Int))(q:Nat)(x:Nat×Int):Nat->Option (Nat×Int):=fun y=>if y=q then some x else fr y
theorem Ng:Kl fr q x q=some x:=by unfold Kl;rw[if_pos rfl]
theorem Me(h:y≠q):Kl fr q x y=fr y:=by unfold Kl;rw[if_neg h]
theorem Tu.app(F:Tu rows gs p line dep fr)(hn:q'∉line)(hp:p∈line)(hh:here∈line)(a:adjN rows gs here n q'):Tu rows gs p (line++[q']) (Xx dep q' (dep here+1)) (Kl fr q' (here,n)):=by
 have ne:∀ x∈line,x≠q':=fun x hx z=>hn (by rw[<- z];exact hx);have old:∀ x∈line,Xx dep q' (dep here+1) x=dep x:=fun x hx=>by unfold Xx;rw[if_neg (ne x hx)]
 have new:Xx dep q' (dep here+1) q'=dep here+1:=by unfold Xx;rw[if_pos rfl]
 refine⟨by rw[Me (ne p hp)];exact F.1,fun q hq hqp=>?_⟩;rcases ztg.mp hq with z|z
 ·obtain⟨par,m,h1,h2,h3,h4⟩:=F.2 q z hqp;exact⟨par,m,by rw[Me (ne q z)];exact h1,ztu _ h2,h3,by rw[old q z,old par h2];exact h4⟩
 ·rw[zs9.mp z];exact⟨here,n,Ng,ztu _ hh,a,by rw[new,old here hh]⟩
theorem Xy.mono(e:∀ t xs,H t=Option.some (.tup xs)->H' t=Option.some (.tup xs))(h:Xy H into line fr):Xy H' into line fr :=
 ⟨h.keys,h.none,fun q hq par n hf=>let ⟨t,a,b⟩:=h.some q hq par n hf;⟨t,a,e _ _ b⟩⟩
theorem Xy.app(I:Xy H into line fr)(hn:q'∉line)(ht:H t=Option.some (.tup [.int (here:Nat),.int n])):Xy H (putK into (inl (q':Int)) (.ref t)) (line++[q']) (Kl fr q' (here,n)):=by
 have ne:∀ x∈line,x≠q':=fun x hx z=>hn (by rw[<- z];exact hx);have hv:valV into (inl (q':Int):Key)=Option.none:=by
  cases e:valV into (inl (q':Int):Key) with
  | none=>rfl
  | some y=>exact absurd ((I.has q').mp (by rw[e];rfl)) hn
 have val:∀ x∈line,valV (putK into (inl (q':Int)) (.ref t)) (inl (x:Int):Key)=valV into (inl (x:Int):Key):=fun x hx=>by
  rw[U3,if_neg (fun z=>ne x hx (by have:=inl.inj z;omega))]
 have valn:valV (putK into (inl (q':Int)) (.ref t)) (inl (q':Int):Key)=Option.some (.ref t):=by rw[U3,if_pos rfl]
 refine⟨?_,fun q hq hf=>?_,fun q hq par m hf=>?_⟩
 ·rw[Cf _ hv,zti,zti,I.keys];rfl
 ·rcases ztg.mp hq with z|z
  ·rw[Me (ne q z)] at hf;rw[val q z];exact I.none q z hf
  ·rw[zs9.mp z,Ng] at hf;cases hf
 ·rcases ztg.mp hq with z|z
  ·rw[Me (ne q z)] at hf;rw[val q z];exact I.some q z par m hf
  ·rw[zs9.mp z,Ng] at hf;cases hf;rw[zs9.mp z];exact⟨t,valn,ht⟩
theorem A0(H:Hp)(p:Nat):Xy H [((inl (p:Int):Key),V.non)] [p] (fun _=>none) :=
 ⟨rfl,fun q hq _=>by rw[zs9.mp hq];exact Xa rfl,fun q _ par n hf=>nomatch hf⟩
theorem A4:Tu rows gs p [p] (fun _=>0) (fun _=>none):=⟨rfl,fun q hq hne=>absurd (zs9.mp hq) hne⟩
end
section
variable{rows:List (List Int)}{gs:List V}
theorem Ch.somes{q e:Nat}{st:List (Nat×Option Int)}{w:Option Int}(h:Ch rows gs q st e w):w≠none->∀ s∈st,s.2≠none:=by
 induction h with
 | one q w=>intro hw s hs;simp at hs;subst hs;exact hw
 | step a h ih =>
   intro hw s hs;rcases ztf.mp hs with rfl|z
   ·exact fun z=>nomatch z
   ·exact ih hw s z
theorem Ch.near{q e:Nat}{st:List (Nat×Option Int)}{w:Option Int}(h:Ch rows gs q st e w):∀ s∈st,s.1=q\/∃ m,gs[s.1]?=some (V.int m):=by
 induction h with
 | one q w=>intro s hs;simp at hs;subst hs;exact .inl rfl
 | @step q q' e n st w a h ih =>
   intro s hs;rcases ztf.mp hs with rfl|z
   ·exact .inl rfl
   ·rcases ih s z with z|z
    ·exact .inr ⟨n,by rw[z];exact a.2⟩
    ·exact .inr z
theorem Ch.single{q e:Nat}{st:List (Nat×Option Int)}{w:Option Int}(h:Ch rows gs q st e w)(hl:st.length<=1):st=[(q,w)]/\e=q:=by
 cases h with
 | one=>exact⟨rfl,rfl⟩
 | step a h=>have:=h.pos;rw[ztt] at hl;omega
structure Th(rows:List (List Int))(gs:List V)(i:Nat):Prop where
 fill:Ya rows gs
 ahead:∀ q n,gs[q]?=some (V.int n)->q<i
 stuck:∀ p,p<i->gs[p]?=some .non->Qc rows gs p
theorem Th.non(F:Th rows gs i)(hk:i<=k)(hr:k<rows.length):gs[k]?=some .non:=by
 have hl:k<gs.length:=by rw[F.fill.len];exact hr
 have e:=zs5 hl;rcases F.fill.one _ (ztw hl) with z|⟨n,z⟩
 ·rw[e,z]
 ·rw[z] at e;have:=F.ahead k n e;omega
theorem Th.step{i e:Nat}{st:List (Nat×Option Int)}{w:Option Int}(F:Th rows gs i)(hi:i<rows.length)(c:Y2 rows gs i st e w):Th rows (Yh st gs) (i+1):=by
 have hnon:=F.non (ztc i) hi;cases w with
 | none =>
   obtain⟨h1,h2,h3⟩:=c.none rfl;have hei:e=i:=by
    have hge:=h2 i 0 .nil;rcases(show e=i\/∃ m,gs[e]?=some (V.int m) by
     obtain⟨s,hs,rfl⟩:=zte.mp c.ch.last;exact c.ch.near s hs) with z|⟨m,z⟩
    ·exact z
    ·have:=F.ahead e m z;omega
   have hst:st=[(i,none)]:=(c.ch.single (by have:=h3 0 (hei▸.nil);omega)).1;have hl:i<gs.length:=by rw[F.fill.len];exact hi
   have same:Yh st gs=gs:=by
    rw[hst];show gs.set i .non=gs;refine List.ext_getElem? fun k=>?_;by_cases hk:i=k
    ·subst hk;rw[zuh hl,hnon]
    ·rw[zug hk]
   rw[same];refine⟨F.fill,fun q n hq=>zuv (F.ahead q n hq),fun p hp hpn=>?_⟩;by_cases hpi:p=i
   ·subst hpi;exact zef F.fill hi F.ahead h1
   ·exact F.stuck p ⋯ hpn
 | some n0 =>
   obtain⟨hf,_⟩:=c.free n0 rfl;have nd:=c.nodup;have FP':=c.fill F.fill hi;have at_:∀ k,k<gs.length->(k∉st.map (·.1)/\(Yh st gs)[k]?=gs[k]?)\/∃ w,(k,w)∈st/\(Yh st gs)[k]?=some (oV w):=fun k hk=>Wt nd hk;have lt:∀ {k:Nat} {v:V},(Yh st gs)[k]?=some v->k<gs.length:=fun {k v} hk=>by
    have:=(zs6.mp hk).1;rw[Xs] at this;exact this
   refine⟨FP',fun q n hq=>?_,fun p hp hpn=>?_⟩
   ·rcases at_ q (lt hq) with ⟨_,h2⟩|⟨w',h1,_⟩
    ·rw[h2] at hq;exact zuv (F.ahead q n hq)
    ·rcases c.ch.near _ h1 with z|⟨m,z⟩
     ·have:q=i:=z;omega
     ·exact zuv (F.ahead q m z)
   ·rcases at_ p (lt hpn) with ⟨h1,h2⟩|⟨w',h1,h2⟩
    ·rw[h2] at hpn;have hpi:p≠i:=fun z=>by
      obtain⟨x,r,e⟩:=c.ch.hd;exact h1 (by rw[z,e];simp)
     exact(F.stuck p ⋯ hpn).behind F.fill c.ch hf hi nd
    ·have:=c.ch.somes (by simp) _ h1;rw[h2] at hpn;cases w' with
     | none=>exact absurd rfl this
     | some m=>cases hpn
theorem Gp(rows:List (List Int)):Th rows (rows.map fun _=>V.non) 0:=by
 have h0:∀ (k:Nat) (n:Int),(rows.map fun _=>V.non)[k]?≠some (V.int n):=fun k n h=>by
  rw[zs7] at h;cases e:rows[k]? with
  | none=>rw[e] at h;cases h
  | some r=>rw[e] at h;cases h
 exact⟨⟨by rw[zs4],fun x hx=>by obtain⟨_,_,rfl⟩:=zte.mp hx;exact .inl rfl,fun k n h=>absurd h (h0 k n),fun j k n h=>absurd h (h0 j n)⟩,fun q n h=>absurd h (h0 q n),fun p hp=>absurd hp (zu2 _)⟩
theorem Th.last(F:Th rows gs rows.length):Wl rows gs:=fun p hp=>F.stuck p (by have:=(zs6.mp hp).1;rw[F.fill.len] at this;exact this) hp
end
end G
namespace L2
open PySem PySem.Spec PyProof.Rows
section
variable{prog:Program}{w:World}{A:Around}{R:Result->Shared->Prop}{I:Addr}{fp wr:List Addr}{n:Nat}{P:Nat->Value->Prop}{St:Nat->Heap->Prop}
theorem zel(a d:Value):checkBuiltinCall "min" { pos:=[a],kw:=[("default",d)] }=pure ():=by rfl
theorem zcr(W:Walks prog w A.in1 I fp wr n P St)(bt:Nat->Nat->Bool)(C:CmpOf prog w A.in1 CmpOp.Lt P bt)(S:Addr)(hS:S∉fp)(kw:List (Str×Value)):∀ (k j:Nat) (s:Shared) (vb:Value) (c:Nat),n-(j+1)=k->j+1<=n->St (j+1) s.heap->P (argBest bt j) vb ->
  s.heap.get? S=some { cls:=Value.type "list",data:=Data.seq #[vb,vb] c } ->
  (∀ (v:Value) (h':Heap) (tk:Nat),P (argBest bt (n-1)) v->(∀ (b:Addr) (o:Obj),¬b∈wr->b≠S->s.heap.get? b=some o->h'.get? b=some o)->R (Except.ok (Flow.ret v)) { heap:=h',gens:=s.gens,drawn:=s.drawn,toks:=tk,os:=s.os }) ->
  codeAny (model prog w) A (Code.builtin "min.loop" { pos:=[Value.ref I,Value.none,Value.ref S],kw:=kw }) R s:=by
 have hSw:S∉wr:=fun z=>hS (W.sub S z);have line:16<sizeLine:=by rw[sizeLine_eq];decide
 intro k
 induction k with
 | zero =>
   intro j s vb c hk hj st hp hs hR;have e:j+1=n:=by omega
   refine codeAny_builtin F.entry_min_loop ?_;rw[Around.under_plainId F.plain_min_loop];refine wpAny_bind (wpAny_seqItems hs rfl ?_);refine wpAny_bind (wpAny_tryCatch (W.done s _ _ (e▸st) fun h' tk hk'=>?_));have hs':h'.get? S=some { cls:=Value.type "list",data:=Data.seq #[vb,vb] c }:=hk' S _ hSw hs;refine wpAny_bind (wpAny_updateSeq hs' rfl ?_ (by show 2<=_;omega) (by show 0<=_;omega));refine wpAny_bind (wpAny_letGo ?_);refine wpAny_pure ?_;have e2:n-1=j:=by omega
   refine hR vb _ tk (by rw[e2];exact hp) fun b o hb hbs q=>?_;rw[Heap.get?_update_other _ _ (Ne.symm hbs)];exact hk' b o hb q
 | succ k ih =>
   intro j s vb c hk hj st hp hs hR;have hlt:j+1<n:=by omega
   refine codeAny_builtin F.entry_min_loop ?_;rw[Around.under_plainId F.plain_min_loop];refine wpAny_bind (wpAny_seqItems hs rfl ?_);refine wpAny_bind (wpAny_tryCatch (W.item (j+1) s _ _ hlt st fun v h' tk hv st' hk'=>?_));have hs':h'.get? S=some { cls:=Value.type "list",data:=Data.seq #[vb,vb] c }:=hk' S _ hSw hs;refine wpAny_bind (wpAny_pure ?_);refine wpAny_bind (wpAny_tryCatch (wpAny_holding (wpAny_bind (C (j+1) (argBest bt j) v vb _ _ _ hv hp (wpAny_bind (wpAny_holding (wpAny_truthy_bool (wpAny_bind (wpAny_letGo (wpAny_pure ?_))))))))));have hb:argBest bt (j+1)=if bt (j+1) (argBest bt j)=true then j+1 else argBest bt j:=rfl
   cases hbt:bt (j+1) (argBest bt j) with
   | false =>
     rw[hbt] at hb;simp only[zux,if_false] at hb ⊢;refine wpAny_bind (wpAny_letGo (wpAny_pure ⟨plainId_quiet F.plain_min_loop _,?_⟩));refine ih (j+1) _ vb c ⋯ hlt st' (by rw[hb];exact hp) hs' fun v2 h2 tk2 hp2 hk2=>?_;exact hR v2 h2 tk2 hp2 fun b o hb hbs q=>hk2 b o hb hbs (hk' b o hb q)
   | true =>
     rw[hbt] at hb;simp only[if_true] at hb ⊢;refine wpAny_bind (wpAny_updateSeq hs' rfl ?_ (by show 2<=_;omega) (by show 2<=_;omega));refine wpAny_bind (wpAny_letGo (wpAny_pure ⟨plainId_quiet F.plain_min_loop _,?_⟩));have hs2:(h'.update S (Obj.mapSeq fun _=>#[v,v])).get? S=some { cls:=Value.type "list",data:=Data.seq #[v,v] c }:=Heap.get?_update_self _ hs' rfl;refine ih (j+1) _ v c ⋯ hlt (W.frame _ _ _ st' fun b hb o q=>(Heap.get?_update_other _ _ (fun z=>hS (by rw[z];exact hb))).trans q) (by rw[hb];exact hv) hs2 fun v2 h2 tk2 hp2 hk2=>?_;exact hR v2 h2 tk2 hp2 fun b o hb hbs q=>hk2 b o hb hbs ((Heap.get?_update_other _ _ (Ne.symm hbs)).trans (hk' b o hb q))
end
inductive zh2(K:Frag)(Q:VK)(vs:List V)(ks:List V)(H2:Hp):Prop where
 | mk(l:Addr)(ns:List Int)(y:V)(_:vs=[.ref l])(_:ks=[y])(_:SqL K H2 l (ns.map V.int))(_:(ns=[]->Q y H2))(_:∀ M,M∈ns->(∀ a∈ns,M<=a)->Q (.int M) H2)
def zjp(K:Frag)(ta tk:TA):TE:=fun σ H Q=>ta σ H fun vs H1=>tk σ H1 fun ks H2=>zh2 K Q vs ks H2
theorem zf3{X:Cx}{K:Frag}{e de:Expr}{ta tk:TA}{p kp pos:Pos}(hK:X.K=K)(hcm:X.calm=true)(hg:Gl X "min")(hm:X.mg "min"=none)(ha:PA X [e] ta)(hk:PK X [⟨some "default",de,kp⟩] tk)
  (hs:starEach [e] X.env=[(false,eval e X.env)]:=by rfl):PE X (.Call (.Name "min" p) [e] [⟨some "default",de,kp⟩] pos) (zjp K ta tk):=by
 subst hK;intro pins s σ H Q I h;refine wpAny_Call_Name_kw (Pe I hg hm PyProof.Rows.boot_min ?_);refine PyProof.Rows.callWith_builtin_kwB (by rw[hs];rfl) rfl (PyProof.Rows.evalArgs_kw2 rfl (thn (ha pos pins s σ H _ I h) fun us s1 ⟨vs,H1,I1,r1,q1⟩=>thn (hk pos pins s1 σ H1 _ I1 q1) fun ws s2 ⟨ks,H2,I2,r2,q2⟩=>?_) hs);obtain⟨l,ns,y,rfl,rfl,hl,qe,qm⟩:=q2;obtain⟨u,rfl,ru⟩:=To r1;obtain⟨d,rfl,rd⟩:=To r2;cases ru;obtain⟨its,r',pl,hz⟩:=I2.list hl;have hlen:its.length=ns.length:=by have:=r'.length;rw[zs4] at this;exact this.symm
 have hil:=pl.isList;have hlt:l<s2.heap.objs.size:=by obtain⟨_,e,_⟩:=hil;exact Heap.lt_size e
 refine wpAny_call (codeAny_call_builtin F.plain_min F.entry_min (wpAny_of_eq (zel _ _) ?_));refine wpAny_bind (wpAny_of_eq rfl ?_);refine wpAny_bind (wpAny_pure ?_);refine wpAny_bind (wpAny_pyIter_list hil ?_);refine wpAny_bind (wpAny_newObj_type (wpAny_pure ⟨plainId_quiet F.plain_min_loop _,?_⟩));generalize hh3:s2.heap.push { cls:=.type "list_iterator",data:=.fields #[Value.ref l,Value.int 0 0] }=h3;have hJ:h3.get? s2.heap.objs.size=some { cls:=.type "list_iterator",data:=.fields #[Value.ref l,Value.int 0 0] }:=by rw[<- hh3];exact Heap.get?_push_size _ rfl
 have k3:∀ b o,s2.heap.get? b=some o->h3.get? b=some o:=fun b o e=>by rw[<- hh3];exact Heap.get?_push_of_some _ e
 have sz3:h3.objs.size=s2.heap.objs.size+1:=by rw[<- hh3,Heap.size_push]
 have hi3:h3.IsList l its.toArray:=by rw[<- hh3];exact hil.push _
 show codeAny (model X.prog X.w) X.A (Code.builtin "min.loop" { pos:=[Value.ref s2.heap.objs.size,Value.none,Value.ref h3.objs.size],kw:=[("default",d)] }) _ { s2 with heap:=h3.push { cls:=.type "list",data:=.seq #[] } };generalize hh4:h3.push { cls:=.type "list",dict:=none,data:=.seq #[] }=h4;have hS:h4.get? h3.objs.size=some { cls:=.type "list",data:=.seq #[] 0 }:=by rw[<- hh4];exact Heap.get?_push_size _ rfl
 have k4:∀ b o,h3.get? b=some o->h4.get? b=some o:=fun b o e=>by rw[<- hh4];exact Heap.get?_push_of_some _ e
 have hJ4:=k4 _ _ hJ;have hi4:h4.IsList l its.toArray:=by rw[<- hh4];exact hi3.push _
 have W:=Walks.list (prog:=X.prog) (w:=X.w) (A:=X.A.in1) (I.ok.hd hcm) s2.heap.objs.size l (zts hlt) its.toArray;have hSf:h3.objs.size∉[s2.heap.objs.size,l]:=fun z=>by
  have z':h3.objs.size=s2.heap.objs.size\/h3.objs.size=l:=by simpa using z
  have hl2:@LT.lt Nat _ l s2.heap.objs.size:=hlt;rcases z' with z|z
  ·have:(h3.objs.size:Nat)=s2.heap.objs.size:=z;omega
  ·have:(h3.objs.size:Nat)=l:=z;omega
 have st0:h4.IsListIter s2.heap.objs.size l 0/\h4.IsList l its.toArray:=⟨⟨_,hJ4,rfl,rfl⟩,hi4⟩;have keepA:∀ {h':Heap} {tk:Nat},(∀ b o,b∉[s2.heap.objs.size]->b≠h3.objs.size->h4.get? b=some o->h'.get? b=some o)->Inv X pins σ H2 { s2 with heap:=h',toks:=tk }:=fun {h' tk} k=>I2.kept fun b o e=>by
  have hb:@LT.lt Nat _ b s2.heap.objs.size:=Heap.lt_size e;refine k b o (fun z=>?_) (fun z=>?_) (k4 b o (k3 b o e))
  ·exact zts hb (zs9.mp z)
  ·rw[sz3] at z;exact zts (zuv hb) z
 have line:16<sizeLine:=by rw[sizeLine_eq];decide
 have hsz:its.toArray.size=ns.length:=by rw[ztj,hlen]
 refine codeAny_builtin F.entry_min_loop ?_;rw[Around.under_plainId F.plain_min_loop];refine wpAny_bind (wpAny_seqItems hS rfl ?_);cases hn:ns with
 | nil =>
   have hn0:its.toArray.size=0:=by rw[hsz,hn];rfl
   refine wpAny_bind (wpAny_tryCatch (W.done _ _ _ (hn0▸st0) fun h' tk hk'=>?_));refine wpAny_bind (wpAny_rule ?_);exact wpAny_pure ⟨y,H2,keepA (tk:=tk) (fun b o h1 _ e=>hk' b o h1 e),rd,qe hn⟩
 | cons n0 nr =>
   have hpos:0<its.toArray.size:=by rw[hsz,hn];simp
   refine wpAny_bind (wpAny_tryCatch (W.item 0 _ _ _ hpos st0 fun v h' tk hv st' hk'=>?_));have hS':h'.get? h3.objs.size=some { cls:=Value.type "list",data:=Data.seq #[] 0 }:=hk' _ _ (fun z=>hSf (ztf.mpr (.inl (zs9.mp z)))) hS;refine wpAny_bind (wpAny_pure ?_);refine wpAny_bind (wpAny_updateSeq hS' rfl ?_ (by show 0<=_;omega) (by show 2<=_;omega));refine wpAny_pure ⟨plainId_quiet F.plain_min_loop _,?_⟩;obtain⟨c,hS2⟩:∃ c,(h'.update h3.objs.size (Obj.mapSeq fun _=>#[v,v])).get? h3.objs.size=some { cls:=Value.type "list",data:=Data.seq #[v,v] c }:=⟨_,Heap.get?_update_self _ hS' rfl⟩;refine zcr W (fun i j=>decide ((fun i=>ns.getD i 0) i<(fun i=>ns.getD i 0) j)) (CmpOf.ints_lt (fun i=>ns.getD i 0) (fun i v hv=>Pq r' (by simpa using hv))) h3.objs.size hSf _ _ 0 _ v c rfl hpos (W.frame _ _ _ st' fun b hb o q=>(Heap.get?_update_other _ _ (fun z=>hSf (by rw[z];exact hb))).trans q) hv hS2 fun v2 h2 tk2 hP hk2=>?_;obtain⟨h1,h2'⟩:=argBest_lt (fun i=>ns.getD i 0) (its.toArray.size-1);obtain⟨t,rfl⟩:=Pq r' (show its[argBest (fun i j=>decide ((fun i=>ns.getD i 0) i<(fun i=>ns.getD i 0) j)) (its.toArray.size-1)]?=some v2 by simpa using hP);rw[hsz] at h1 h2' ⊢;generalize argBest (fun i j=>decide ((fun i=>ns.getD i 0) i<(fun i=>ns.getD i 0) j)) (ns.length-1)=b at h1 h2' ⊢;have hnp:0<ns.length:=by rw[hn];simp
   have hb:b<ns.length:=by omega
   have eg:∀ (k:Nat) (hk:k<ns.length),ns.getD k 0=ns[k]'hk:=fun k hk=>by rw[ztq,zs5 hk];rfl
   refine⟨.int (ns.getD b 0),H2,keepA (tk:=tk2) (fun c o h1 h2 e=>hk2 c o h1 h2 ((Heap.get?_update_other _ _ (Ne.symm h2)).trans (hk' c o h1 e))),⟨_,rfl⟩,qm _ (by rw[eg b hb];exact ztw hb) fun x hx=>?_⟩;obtain⟨k,hk',rfl⟩:=zt2 hx;have:=h2' k ⋯;rw[<- eg k hk'];exact this
end L2
namespace G
open PySem PySem.Spec PyProof.Rows L2
def Li(rows:List (List Int))(gs:List V)(line:List Nat)(dep:Nat->Nat)(c:Nat):Prop :=
 (c=0/\∀ q∈line,¬ Xl rows gs q)\/(0<c/\(∃ q∈line,Xl rows gs q/\c=dep q+1)/\∀ q∈line,Xl rows gs q->c<=dep q+1)
inductive C4(K:Frag)(vs:List V)(H:Hp)(Q:VK)(_:XK):Prop where
 | mk(l lg lk:Addr)(ls:List Addr)(rows:List (List Int))(gs:List V)(line:List Nat)(dep:Nat->Nat)(_:vs=[.ref l,.ref lg,.ref lk])(_:H l=some (.lst (ls.map V.ref)))(_:ILs H ls rows)(_:rows.length<=100)(_:(∀ r∈rows,r.length<=1000))(_:H lg=some (.lst gs))(_:(∀ x∈gs,oneV x))(_:H lk=some (.dK (Y4 line dep)))(_:line.Nodup)(_:(∀ q∈line,q<rows.length))(_:∀ c H',Li rows gs line dep c->Same H H'->Q (.int ((c:Nat):Int)) H')
theorem A5(line:List Nat)(dep:Nat->Nat):((Y4 line dep).map fun kv=>kV kv.1)=Yc line:=by
 unfold Y4 Yc;rw[zud];rfl
theorem zem{ts:List V}{H:Hp}{st:List (Nat×Option Int)}{s:Nat×Option Int}(tl:TupL H ts (st.map Wf))(h:st.getLast?=some s):∃ t,atI ts (-1)=some (.ref t)/\H t=some (.tup (Wf s)):=by
 have hne:st≠[]:=fun z=>by rw[z] at h;cases h
 have hl:ts.length=st.length:=by rw[tl.length,zs4]
 have hpos:0<st.length:=List.length_pos_iff.mpr hne;rw[List.getLast?_eq_getElem?] at h;obtain⟨t,h1,h2⟩:=za7 tl h;refine⟨t,?_,h2⟩;unfold atI ixN;rw[if_neg ⋯,if_pos ⋯];show ts[((-1:Int)+ts.length).toNat]?=_;rw[show ((-1:Int)+ts.length).toNat=st.length-1 by omega];exact h1
theorem Li.chain{rows:List (List Int)}{gs:List V}{p e c:Nat}{line:List Nat}{dep:Nat->Nat}{st:List (Nat×Option Int)}{w:Option Int}(B:Bfs rows gs p line dep)(D:Done rows gs line dep line.length)(C:Y2 rows gs p st e w)(F:Li rows gs line dep c):(c=0/\w=none)\/(0<c/\w≠none/\st.length=c):=by
 cases w with
 | none =>
   refine .inl ⟨?_,rfl⟩;rcases F with ⟨h,_⟩|⟨_,⟨q,hq,hf,_⟩,_⟩
   ·exact h
   ·exact absurd hf ((C.none rfl).1 q _ (B.walk q hq))
 | some n =>
   obtain⟨hf,hm⟩:=C.free n rfl;have cw:=C.ch.walk;have cp:=C.ch.pos;obtain⟨el,ed⟩:=B.full D cw;rcases F with ⟨_,h⟩|⟨h0,⟨q,hq,hqf,hc⟩,hmin⟩
   ·exact absurd ⟨n,hf⟩ (h e el)
   ·refine .inr ⟨h0,(fun z=>nomatch z),?_⟩;have h1:=hm q _ (B.walk q hq) hqf;have h2:=hmin e el ⟨n,hf⟩;omega
section
variable{rows:List (List Int)}{gs:List V}
theorem Ch.pred{q e:Nat}{st:List (Nat×Option Int)}{w:Option Int}(h:Ch rows gs q st e w):∀ q'∈st.map (·.1),q'=q\/∃ q0 n,(q0,some n)∈st/\gs[q']?=some (V.int n):=by
 induction h with
 | one q w=>intro q' hq;simp at hq;exact .inl hq
 | @step q q1 e n st w a h ih =>
   intro q' hq;rw[ztm] at hq;rcases ztf.mp hq with z|z
   ·exact .inl z
   ·rcases ih q' z with z|⟨q0,m,h1,h2⟩
    ·exact .inr ⟨q,n,ztz,by rw[z];exact a.2⟩
    ·exact .inr ⟨q0,m,ztx _ h1,h2⟩
theorem Ch.reach{q e:Nat}{st:List (Nat×Option Int)}{w:Option Int}(h:Ch rows gs q st e w):∀ q'∈st.map (·.1),∃ k,Walk rows gs q q' k:=by
 induction h with
 | one q w=>intro q' hq;simp at hq;rw[hq];exact⟨0,.nil⟩
 | @step q q1 e n st w a h ih =>
   intro q' hq;rw[ztm] at hq;rcases ztf.mp hq with z|z
   ·rw[z];exact⟨0,.nil⟩
   ·obtain⟨k,hk⟩:=ih q' z;exact⟨k+1,.cons a hk⟩
theorem Ch.noneLast{q e:Nat}{st:List (Nat×Option Int)}{w:Option Int}(h:Ch rows gs q st e w):∀ k,(k,none)∈st->k=e/\w=none:=by
 induction h with
 | one q w=>intro k hk;simp at hk;exact⟨hk.1,hk.2.symm⟩
 | @step q q1 e n st w a h ih =>
   intro k hk;rcases ztf.mp hk with z|z
   ·cases z
   ·exact ih k z
theorem Ch.along{R:Nat->Prop}(hs:∀ q n q',adjN rows gs q n q'->R q->R q'){q e:Nat}{st:List (Nat×Option Int)}{w:Option Int}(h:Ch rows gs q st e w):R q->R e:=by
 induction h with
 | one q w=>exact fun z=>z
 | step a h ih=>exact fun z=>ih (hs _ _ _ a z)
theorem Ch.lastMem{q e:Nat}{st:List (Nat×Option Int)}{w:Option Int}(h:Ch rows gs q st e w):(e,w)∈st:=by
 induction h with
 | one q w=>simp
 | step a h ih=>exact ztx _ ih
theorem zen{st:List (Nat×Option Int)}(nd:(st.map (·.1)).Nodup){k:Nat}{w w':Option Int}(h:(k,w)∈st)(h':(k,w')∈st):w=w':=by
 induction st with
 | nil=>cases h
 | cons s r ih =>
   rw[ztm,zt0] at nd;rcases ztf.mp h with z|z<;>rcases ztf.mp h' with z'|z'
   ·rw[<- z] at z';exact(Prod.mk.inj z').2.symm
   ·exact absurd (zte.mpr ⟨_,z',by rw[<- z]⟩) nd.1
   ·exact absurd (zte.mpr ⟨_,z,by rw[<- z']⟩) nd.1
   ·exact ih nd.2 z z'
theorem zf4{st:List (Nat×Option Int)}{xs:List V}(nd:(st.map (·.1)).Nodup){k:Nat}{w:Option Int}(h:(k,w)∈st)(hk:k<xs.length):(Yh st xs)[k]?=some (oV w):=by
 rcases Wt nd hk with ⟨h1,_⟩|⟨w',h1,h2⟩
 ·exact absurd (zte.mpr ⟨_,h,rfl⟩) h1
 ·rw[h2,zen nd h1 h]
theorem Ch.moved{p e:Nat}{st:List (Nat×Option Int)}{w:Option Int}(FP:Ya rows gs)(h:Ch rows gs p st e w)(hp:p<rows.length)(hn:gs[p]?=some .non)(nd:(st.map (·.1)).Nodup){q':Nat}{n:Int}(hq:gs[q']?=some (V.int n)) :
  (q'∉st.map (·.1)/\(Yh st gs)[q']?=some (V.int n))\/∃ q0,(q0,some n)∈st/\(Yh st gs)[q0]?=some (V.int n):=by
 have hl:q' < gs.length:=(zs6.mp hq).1;by_cases hm:q'∈st.map (·.1)
 ·rcases h.pred q' hm with z|⟨q0,m,h1,h2⟩
  ·rw[z,hn] at hq;cases hq
  ·rw[hq] at h2;cases h2;refine .inr ⟨q0,h1,?_⟩;have:=h.lt FP hp _ h1;exact zf4 nd h1 (by rw[FP.len];exact this)
 ·rcases Wt nd hl with ⟨_,h2⟩|⟨w',h1,_⟩
  ·exact .inl ⟨hm,by rw[h2];exact hq⟩
  ·exact absurd (zte.mpr ⟨_,h1,rfl⟩) hm
end
section
variable{rows:List (List Int)}{gs:List V}{p e:Nat}{x:Int}{st:List (Nat×Option Int)}{w:Option Int}
def without(rows:List (List Int))(x:Int):List (List Int):=rows.map fun r=>r.filter fun n=>decide (n≠x)
theorem So{q:Nat}{r':List Int}(h:(without rows x)[q]?=some r'):∃ r,rows[q]?=some r/\∀ n∈r',n∈r/\n≠x:=by
 unfold without at h;rw[zs7] at h;cases e:rows[q]? with
 | none=>rw[e] at h;cases h
 | some r =>
   rw[e] at h;cases h;exact⟨r,rfl,fun n hn=>⟨(zt1.mp hn).1,of_decide_eq_true (zt1.mp hn).2⟩⟩
theorem V3(FP:Ya rows gs)(hx:gs[p]?=some (.int x)):Ya (without rows x) (gs.set p .non):=FP.without hx _ fun n hn=>by
 have:=of_decide_eq_false hn;rw[Classical.not_not.mp this]
theorem zeo(hx:gs[p]?=some (.int x)):(gs.set p V.non)[p]?=some .non:=by rw[zuh (zs6.mp hx).1]
theorem zbc(hx:gs[p]?=some (.int x))(h:(gs.set p V.non)[q]?=some (.int n)):gs[q]?=some (.int n)/\q≠p:=by
 by_cases e:p=q
 ·subst e;rw[zeo hx] at h;cases h
 ·rw[zug e] at h;exact⟨h,Ne.symm e⟩
theorem Mf{q:Nat}{n:Int}(hx:gs[p]?=some (.int x))(h:gs[q]?=some (.int n))(hn:n≠x):(gs.set p V.non)[q]?=some (.int n):=by
 rw[zug (fun z=>by subst z;rw[hx] at h;cases h;exact hn rfl)];exact h
theorem C5(FP:Ya rows gs)(SP:Wl rows gs)(hx:gs[p]?=some (.int x))(C:Y2 (without rows x) (gs.set p .non) p st e w):Wl (without rows x) (Yh st (gs.set p .non)):=by
 have FP0:=V3 FP hx;have hRl:(without rows x).length=rows.length:=by unfold without;rw[zs4]
 have hp:p<rows.length:=by have:=(zs6.mp hx).1;rw[FP.len] at this;exact this
 have hp0:p<(without rows x).length:=by rw[hRl];exact hp
 have nd:=C.nodup;have hpm:p∈st.map (·.1):=by obtain⟨y,r,e'⟩:=C.ch.hd;rw[e'];simp
 have moved:=fun {q':Nat} {n:Int} (hq:(gs.set p V.non)[q']?=some (V.int n))=>C.ch.moved FP0 hp0 (zeo hx) nd hq;have closedT:w=none->∀ q,(∃ k,Walk (without rows x) (gs.set p .non) p q k)->q<(without rows x).length/\∀ r,(without rows x)[q]?=some r->∀ n∈r,∃ q2,q2<e/\(Yh st (gs.set p .non))[q2]?=some (.int n)/\∃ k,Walk (without rows x) (gs.set p .non) p q2 k:=by
  rintro hw q ⟨k,hk⟩;obtain⟨c1,c2,c3⟩:=C.none hw;refine⟨?_,fun r hr n hn=>?_⟩
  ·cases hk with
   | nil=>exact hp0
   | snoc _ a =>
     have:=(zs6.mp a.2).1;rw[FP0.len] at this;exact this
  ·by_cases hf:∃ j:Nat,(gs.set p V.non)[j]?=some (V.int n)
   ·obtain⟨q1,hq1⟩:=hf;have w1:Walk (without rows x) (gs.set p .non) p q1 (k+1):=.snoc hk ⟨⟨r,hr,hn⟩,hq1⟩;rcases moved hq1 with ⟨m1,m2⟩|⟨q0,m1,m2⟩
    ·refine⟨q1,?_,m2,_,w1⟩;have:=c2 q1 _ w1;have hne:q1≠e:=fun z=>m1 (by rw[z];exact C.ch.last);omega
    ·obtain⟨k0,hk0⟩:=C.ch.reach q0 (zte.mpr ⟨_,m1,rfl⟩);refine⟨q0,?_,m2,k0,hk0⟩;have:=c2 q0 _ hk0;have hne:q0≠e:=fun z=>by
      have hl:=C.ch.lastMem;rw[z] at m1;rw[hw] at hl;have:=zen nd m1 hl;cases this
     omega
   ·exact absurd ⟨n,⟨r,hr,hn⟩,fun j hj=>hf ⟨j,hj⟩⟩ (c1 q k hk)
 intro p0 hpn;have hl0:p0<(gs.set p V.non).length:=by have:=(zs6.mp hpn).1;rw[Xs] at this;exact this
 rcases Wt nd hl0 with ⟨a1,a2⟩|⟨w',a1,a2⟩
 ·rw[a2] at hpn;have hpp:p≠p0:=fun z=>a1 (by rw[<- z];exact hpm);rw[zug hpp] at hpn;obtain⟨S0,hS,cl⟩:=SP p0 hpn;have inS:∀ q k,Walk rows gs p0 q k->S0 q:=fun q k hk=>by
   induction hk with
   | nil=>exact hS
   | @snoc q q' k n h a ih =>
     obtain⟨r,h1,h2⟩:=a.1;obtain⟨q'',_,h3,h4⟩:=(cl q ih).2 r h1 n h2;rw[<- FP.inj q'' q' n h3 a.2];exact h4
  have closed0:∀ q,(∃ k,Walk rows gs p0 q k)->q<rows.length/\∀ r,rows[q]?=some r->∀ n∈r,∃ q',q' < p0/\gs[q']?=some (.int n)/\∃ k,Walk rows gs p0 q' k:=by
   rintro q ⟨k,hk⟩;refine⟨(cl q (inS q k hk)).1,fun r hr n hn=>?_⟩;obtain⟨q',h1,h2,_⟩:=(cl q (inS q k hk)).2 r hr n hn;exact⟨q',h1,h2,k+1,.snoc hk ⟨⟨r,hr,hn⟩,h2⟩⟩
  have lt0:∀ q,(∃ k,Walk rows gs p0 q k)->q=p0\/q<p0:=by
   rintro q ⟨k,hk⟩;cases hk with
   | nil=>exact .inl rfl
   | @snoc q1 _ k n h a =>
     obtain⟨r,h1,h2⟩:=a.1;obtain⟨q',h3,h4,_⟩:=(closed0 q1 ⟨k,h⟩).2 r h1 n h2;rw[<- FP.inj q' q n h4 a.2];exact .inr h3
  have along:∀ {q:Nat} {st':List (Nat×Option Int)} {w':Option Int},Ch (without rows x) (gs.set p .non) q st' e w'->(∃ k,Walk rows gs p0 q k)->∃ k,Walk rows gs p0 e k:=fun {q st' w'} hc =>
   hc.along (R:=fun q=>∃ k,Walk rows gs p0 q k) fun q n q' a ⟨k,hk⟩=>by
    obtain⟨r',h1,h2⟩:=a.1;obtain⟨r,h3,h4⟩:=So h1;exact⟨k+1,.snoc hk ⟨⟨r,h3,(h4 n h2).1⟩,(zbc hx a.2).1⟩⟩
  by_cases hpath:∃ q∈st.map (·.1),∃ k,Walk rows gs p0 q k
  ·obtain⟨q1,hq1,hk1⟩:=hpath;obtain⟨st',c1,_⟩:=C.ch.drop q1 hq1;have hRe:=along c1 hk1;cases hw:w with
   | some n0 =>
     obtain⟨⟨r',f1,f2⟩,f3⟩:=(C.free n0 hw).1;obtain⟨r,g1,g2⟩:=So f1;obtain⟨q',_,h2,_⟩:=(closed0 e hRe).2 r g1 n0 (g2 n0 f2).1;exact absurd (Mf hx h2 (g2 n0 f2).2) (f3 q')
   | none =>
     have clT:=closedT hw;obtain⟨_,cmax,_⟩:=C.none hw;have hep:e<p0:=by
      have hfe:∃ m,gs[e]?=some (V.int m):=by
       obtain⟨s,hs,hse⟩:=zte.mp C.ch.last;rcases C.ch.near s hs with z|⟨m,z⟩
       ·rw[<- hse,z];exact⟨x,hx⟩
       ·rw[hse] at z;exact⟨m,(zbc hx z).1⟩
      obtain⟨m,hm⟩:=hfe;rcases lt0 e hRe with z|z
      ·rw[z,hpn] at hm;cases hm
      ·exact z
     refine⟨fun q=>(∃ k,Walk rows gs p0 q k)\/∃ k,Walk (without rows x) (gs.set p .non) p q k,.inl ⟨0,.nil⟩,fun q hq=>?_⟩;rcases hq with hq|hq
     ·refine⟨by rw[hRl];exact(closed0 q hq).1,fun r' hr' n hn=>?_⟩;obtain⟨r,g1,g2⟩:=So hr';obtain⟨q',h1,h2,h3⟩:=(closed0 q hq).2 r g1 n (g2 n hn).1;rcases moved (Mf hx h2 (g2 n hn).2) with ⟨_,m2⟩|⟨q0,m1,m2⟩
      ·exact⟨q',h1,m2,.inl h3⟩
      ·obtain⟨k0,hk0⟩:=C.ch.reach q0 (zte.mpr ⟨_,m1,rfl⟩);have:=cmax q0 k0 hk0;exact⟨q0,by omega,m2,.inr ⟨k0,hk0⟩⟩
     ·obtain⟨t1,t2⟩:=clT q hq;refine⟨t1,fun r hr n hn=>?_⟩;obtain⟨q2,h1,h2,h3⟩:=t2 r hr n hn;exact⟨q2,by omega,h2,.inr h3⟩
  ·refine⟨fun q=>∃ k,Walk rows gs p0 q k,⟨0,.nil⟩,fun q hq=>⟨by rw[hRl];exact(closed0 q hq).1,fun r' hr' n hn=>?_⟩⟩;obtain⟨r,g1,g2⟩:=So hr';obtain⟨q',h1,h2,h3⟩:=(closed0 q hq).2 r g1 n (g2 n hn).1;rcases moved (Mf hx h2 (g2 n hn).2) with ⟨_,m2⟩|⟨q0,m1,m2⟩
   ·exact⟨q',h1,m2,h3⟩
   ·rcases Wt nd (show q' < (gs.set p V.non).length from(zs6.mp (Mf hx h2 (g2 n hn).2)).1) with ⟨_,b2⟩|⟨w2,b1,_⟩
    ·exact⟨q',h1,by rw[b2];exact Mf hx h2 (g2 n hn).2,h3⟩
    ·exact absurd ⟨q',zte.mpr ⟨_,b1,rfl⟩,h3⟩ hpath
 ·rw[a2] at hpn;cases w' with
  | some n=>cases hpn
  | none =>
    obtain⟨b1,b2⟩:=C.ch.noneLast p0 a1;subst b1;exact⟨_,⟨0+(C.ch.reach p0 (zte.mpr ⟨_,a1,rfl⟩)).choose,by rw[Nat.zero_add];exact(C.ch.reach p0 (zte.mpr ⟨_,a1,rfl⟩)).choose_spec⟩,closedT b2⟩
end
end G
namespace L2
open PySem PySem.Spec PyProof.Rows
inductive zf5(x:V)(vs:List V)(H:Hp)(Q:VK):Prop where
 | mk(d e:Addr)(kvs more:List (Key×V))(_:x=.ref d)(_:vs=[.ref e])(_:d≠e)(_:H d=some (.dK kvs))(_:H e=some (.dK more))(_:kvs.length+more.length<=sizeLine)(_:Q .non (upd H d (.dK (Vo kvs more))))
theorem zcs:MtM X "dict.update" zf5:=by
 intro pins s σ H x vs v us Q I rx rv h;obtain⟨d,e,kvs,more,rfl,rfl,ne,hd,he,hz,q⟩:=h;cases rx;obtain⟨u,rfl,ru⟩:=rv.one;cases (show u=Value.ref e from ru);obtain⟨z1,lo1,vs1,r1,dd1⟩:=Ci I.hok hd;obtain⟨z2,lo2,vs2,r2,dd2⟩:=Ci I.hok he;refine call_meetsIn PySem.F.slot_dict_update dd1.typeIs PySem.F.entry_dict_update (PySem.F.args_dict_update_2 _ _) (meets_dict_update (Yi X.prog X.w) d e ne lo2) ⟨vs1,vs2,dd1,dd2,by rw[<- r1.length,<- r2.length];exact hz,fun h' dd1' dd2' hs=>?_⟩;have hex:∃ q,h'.get? d=some q:=let ⟨q,_,_,hq,_⟩:=dd1';⟨q,hq⟩;refine⟨.non,_,Oj (t':=s.toks) I (by rw[hd];exact True.intro) hs hex (Em ?_ lo1 (r2.merge r1) dd1'),rfl,q⟩;exact ztk (Sy more kvs) hz
section
variable{prog:Program}{w:World}{A:Around}{E:Value->Shared->Prop}{s:Shared}{T:String}{r d:Addr}{n:Nat}{P:Nat->Value->Prop}{OK:Heap->Prop}
open PySem.W in
theorem zep(K:KdlSrc prog w T r d n P OK)(hh:A.handled=none)(hok:OK s.heap)(hn:n<=sizeLine)
  (h:∀ h' tk (acc:Array Value),(∀ b o,s.heap.get? b=some o->h'.get? b=some o)->s.heap.objs.size<=h'.objs.size->ItemsOf P acc n->Q acc.toList { s with heap:=h',toks:=tk }) :
  wpAny (model prog w) A (collect (.ref r)) Q E s:=by
 unfold collect;have hlt:=K.there _ hok;refine wpAny_bind (wpAny_runValue (codeAny_builtin entry_proto_collect' ?_));show wpAny _ _ (do again (.builtin "list.__iadd__" ⟨[<- newList [],.ref r],[]⟩)) _ _ s;refine wpAny_bind (wpAny_newList (wpAny_pure ⟨Code.quiet_builtin _ ⋯,codeAny_builtin entry_list_iadd' ?_⟩));show wpAny _ _ (Builtin.List.listExtendWith (.ref s.heap.objs.size) (.ref r) (.ref s.heap.objs.size)) _ _ { s with heap:=s.heap.push (seqObj "list" #[] 0) };have hS:(s.heap.push (seqObj "list" #[] 0)).get? s.heap.objs.size=some { cls:=.type "list",data:=.seq #[] 0 }:=Heap.get?_push_size _ rfl;rw[Around.under_plainId (show plainId "list.__iadd__"=true by decide +kernel) _];refine kdl_extend (R:=fun r s'=>match r with
   | .ok (.ret v)=>wpAny (model prog w) A (match v with
         | Value.ref a=>do
           let o <- load a
           match o.data with
            | Data.seq xs _=>pure xs.toList
            | _=>unsupported "internal:collect"
         | _=>unsupported "internal:collect") Q E s'
   | .ok _=>False
   | .error e=>E e s') (s:={ s with heap:=s.heap.push (seqObj "list" #[] 0) }) K hh (K.keep _ _ hok fun b _ o e=>Heap.get?_push_of_some _ e) s.heap.objs.size (Nat.ne_of_gt hlt.1) (Nat.ne_of_gt hlt.2) _ 0 hS (fun h' tk acc c' hk hS' hacc=>?_) hn
 show wpAny (model prog w) A (do
   let o <- load s.heap.objs.size
   match o.data with
   | .seq xs _=>pure xs.toList
   | _=>unsupported "internal:collect") Q E _
 refine wpAny_bind (wpAny_load hS' ?_);exact wpAny_pure (h h' tk acc (fun b o e=>hk b o (zts (Heap.lt_size e)) (Heap.get?_push_of_some _ e)) (zvg (Heap.lt_size hS')) hacc)
theorem zbd:∀ {its:List Value} {ns:List Int},its.length=ns.length->(∀ (j:Nat) (v:Value),its[j]?=some v->∃ t,v=.int (ns.getD j 0) t)->IntsAre its ns
 | [],[],_,_=>.nil
 | v :: its,n :: ns,hl,h=>by
   obtain⟨t,e⟩:=h 0 v rfl;rw[e];exact .cons _ t (zbd (by simpa using hl) fun j u hu=>h (j+1) u hu)
 | [],_ :: _,hl,_=>by simp at hl
 | _ :: _,[],hl,_=>by simp at hl
theorem Qe(hc:X.calm=true):Vy X (.builtin "sorted") (fun xs H Q=>∃ (a:Addr) (kvs:List (Key×V)) (ns:List Int),xs=[.ref a]/\Rd H a (.dK kvs)/\kvs.map (·.1)=ns.map (inl:Int->Key)/\ns.length<64/\∀ (l:Addr) (ns':List Int),H l=none->ns'.Perm ns->ns'.Pairwise (·<=·)->Q (.ref l) (upd H l (.lst (ns'.map V.int)))):=by
 intro pins s σ H xs us Q I r h;obtain⟨a,kvs,ns,rfl,ha,hns,h64,q⟩:=h;obtain⟨u,rfl,ru⟩:=To r;cases (show u=Value.ref a from ru);obtain⟨hz,lo,vs,kv,o,es,ep,e1,e2⟩:=Ph I.hok ha;have hl:kvs.length=vs.length:=KV.length kv;have hnl:ns.length=kvs.length:=by have:=congrArg List.length hns;rw[zs4,zs4] at this;exact this.symm
 refine Calls.call_function_entry kind_sorted plain_sorted entry_sorted (args_sorted1 _) ?_;unfold Builtin.«sorted»;refine wpAny_bind (m:=checkCount "sorted" 1 1 _) (wpAny_pure ?_);refine wpAny_bind (zep (PySem.W.kdl_dict (knd:=Yi X.prog X.w) (kvs:=vs) (ep:=ep) lo) (I.ok.hd hc) ⟨o,es,e1,e2⟩ (by rw[<- hl];exact hz) fun h' tk acc hk hsz hacc=>?_);have hI:IntsAre acc.toList ns:=by
  refine zbd (by have:=hacc.1;simp only[Array.length_toList];omega) fun j v hv=>?_;obtain⟨k,y,hk1,hk2⟩:=hacc.2 j v (by rw[<- Array.getElem?_toList];exact hv);have ek:=congrArg (·[j]?) (KV.keys kv);have en:=congrArg (·[j]?) hns;simp only[zs7,hk1,zua] at ek en;cases hkv:kvs[j]? with
  | none=>rw[hkv] at ek;cases ek
  | some p =>
    rw[hkv] at ek en;cases hn:ns[j]? with
    | none=>rw[hn] at en;cases en
    | some m =>
      rw[hn] at en;have e3:p.1=k:=Option.some.inj ek;have e4:p.1=inl m:=Option.some.inj en;rw[<- e3,e4] at hk2;rw[ztq,hn];rcases Yv (show Jr (inl m:Key) v=true from hk2) with ⟨i,t,e5,e6⟩|⟨z,t,e5,_⟩
      ·cases e5;exact⟨t,e6⟩
      ·cases e5
 refine wpAny_bind (wpAny_newList ?_);have hoL:(h'.push (seqObj "list" acc.toList.toArray 0)).get? h'.objs.size=some (seqObj "list" acc.toList.toArray 0):=Heap.get?_push_size _ rfl;show wpAny _ _ _ _ _ { s with heap:=h'.push (seqObj "list" acc.toList.toArray 0),toks:=tk };refine wpAny_bind (wpAny_holding (wpAny_call_entry slot_list_sort ⟨_,hoL,rfl⟩ entry_list_sort (list_sort_tree hoL hI (by simp only[Array.length_toList];have:=hacc.1;omega) fun out ns' a1 a2 a3=>⟨_,rfl,?_⟩) (args_list_sort _)));have hge:s.heap.objs.size<=h'.objs.size:=hsz;have hf:H h'.objs.size=none:=I.hok.fresh hge;refine wpAny_pure ⟨_,rfl,.ref h'.objs.size,upd H h'.objs.size (.lst (ns'.map V.int)),I.laid (t':=tk) (fun b u eb=>?_) hge ?_,rfl,q _ ns' hf a2 a3⟩
 ·have e0:=hk b u eb;have hb:b<(h'.push (seqObj "list" acc.toList.toArray 0)).objs.size:=Heap.lt_size (Heap.get?_push_of_some _ e0);rw[sortedHeap_old (zts (Heap.lt_size e0)) hb];exact Heap.get?_push_of_some _ e0
 ·obtain⟨e9,h9⟩:=sortedHeap_at (out:=out) hoL;exact⟨by rw[zs4,a2.length_eq];exact zvg (Yn ⋯),out.toList,e9,M7 a1,h9⟩
end
end L2
namespace G
open PySem PySem.Spec PyProof.Rows L2
section
variable{α:Type}[DecidableEq α]{f:α->Key}
def J8(acc:List α)(x:α):List α:=if x∈acc then acc else acc++[x]
def Fz(pl ml:List α):List α:=ml.foldl J8 pl
theorem J9(hf:∀ a b,f a=f b->a=b)(h:kvs.map (·.1)=pl.map f)(x:α)(v:V):(putK kvs (f x) v).map (·.1)=(J8 pl x).map f:=by
 have ha:(kvs.any fun kv=>decide (kv.1=f x))=true↔x∈pl:=by
  rw[List.any_eq_true];constructor
  ·rintro⟨kv,h1,h2⟩;have:kv.1∈kvs.map (·.1):=zte.mpr ⟨_,h1,rfl⟩;rw[h] at this;obtain⟨y,h3,h4⟩:=zte.mp this;rw[<- hf _ _ (h4.trans (of_decide_eq_true h2))];exact h3
  ·intro hx;have:f x∈kvs.map (·.1):=by rw[h];exact zte.mpr ⟨_,hx,rfl⟩
   obtain⟨kv,h1,h2⟩:=zte.mp this;exact⟨kv,h1,zta h2⟩
 unfold putK J8;by_cases hx:x∈pl
 ·rw[if_pos (ha.mpr hx),if_pos hx,<- h,zud];refine zun fun kv _=>?_;show (if kv.1=f x then (kv.1,v) else kv).1=kv.1;split<;>rfl
 ·rw[if_neg (fun z=>hx (ha.mp z)),if_neg hx,zti,zti,h];rfl
theorem Ia(hf:∀ a b,f a=f b->a=b):∀ {more kvs:List (Key×V)} {pl ml:List α},kvs.map (·.1)=pl.map f->more.map (·.1)=ml.map f->(Vo kvs more).map (·.1)=(Fz pl ml).map f
 | [],kvs,pl,[],h,_=>h
 | p :: more,kvs,pl,x :: ml,h,h2=>by
   rw[ztm,ztm] at h2;injection h2 with e1 e2;have:=J9 hf h x p.2;rw[<- e1] at this;exact Ia hf (kvs:=putK kvs p.1 p.2) (pl:=J8 pl x) (ml:=ml) this e2
 | [],_,_,_ :: _,_,h2=>by simp at h2
 | _ :: _,_,_,[],_,h2=>by simp at h2
theorem Ib{pl:List α}{x y:α}:y∈J8 pl x↔y∈pl\/y=x:=by
 unfold J8;by_cases h:x∈pl
 ·rw[if_pos h];exact⟨.inl,fun z=>z.elim id fun e=>by rw[e];exact h⟩
 ·rw[if_neg h];simp
theorem Nh{pl:List α}{x:α}(h:pl.Nodup):(J8 pl x).Nodup:=by
 unfold J8;by_cases hx:x∈pl
 ·rw[if_pos hx];exact h
 ·rw[if_neg hx,List.nodup_append];exact⟨h,by simp,fun a ha b hb e=>hx (by rw[zs9.mp hb] at e;rw[<- e];exact ha)⟩
theorem F1:∀ {ml pl:List α} {y:α},y∈Fz pl ml↔y∈pl\/y∈ml
 | [],pl,y=>by unfold Fz;simp
 | x :: ml,pl,y=>by
   show y∈Fz (J8 pl x) ml↔_;rw[F1,Ib,ztf,or_assoc]
theorem Km:∀ {ml pl:List α},pl.Nodup->(Fz pl ml).Nodup
 | [],pl,h=>h
 | x :: ml,pl,h=>Km (ml:=ml) (Nh h)
end
theorem zjq:∀ a b:Int,(inl a:Key)=inl b->a=b:=fun a b h=>inl.inj h
theorem zkm:∀ a b:Nat,(inl (a:Int):Key)=inl (b:Int)->a=b:=fun a b h=>by have:=inl.inj h;omega
theorem Ie{α:Type}[DecidableEq α]{a b:List α}(ha:a.Nodup)(hb:b.Nodup)(h:∀ x,x∈a↔x∈b):a.length=b.length :=
 Nat.le_antisymm (ha.length_le_of_subset fun x hx=>(h x).mp hx) (hb.length_le_of_subset fun x hx=>(h x).mpr hx)
section
variable{rows:List (List Int)}{gs:List V}
def C6(rows:List (List Int))(gs:List V):Prop:=∀ p,gs[p]?=some .non->∀ q k,Walk rows gs p q k->¬ Xl rows gs q
structure Ig(rows:List (List Int))(gs:List V)(ps:List Nat)(rs:List Int):Prop where
 up:ps.Pairwise (· < ·)
 lt:∀ p∈ps,p<rows.length
 rup:rs.Pairwise (· < ·)
 all:∀ n,n∈rs↔∃ p∈ps,∃ r,rows[p]?=some r/\n∈r
 cnt:ps.length=rs.length+(Wq gs).length
 nil:Wq gs=[]->ps=[]
 gap:∀ p,gs[p]?=some .non->p∈ps
 has:∀ n∈rs,∃ p∈ps,gs[p]?=some (.int n)
theorem Tw:p∈Wq gs↔gs[p]?=some .non:=by
 unfold Wq;rw[zt1,zt5];constructor
 ·exact fun h=>of_decide_eq_true h.2
 ·exact fun h=>⟨(zs6.mp h).1,zta h⟩
theorem A6:(Wq gs).Nodup:=List.nodup_range.filter _
def C7(x:Option V):Option Int:=match x with|some (.int n)=>some n|_=>none
theorem Qf:C7 x=some n↔x=some (.int n):=by
 unfold C7;constructor
 ·intro h;split at h
  ·cases h;rfl
  ·cases h
 ·intro h;rw[h]
theorem zgp:∀ {ps:List Nat},(∀ p∈ps,∃ x,gs[p]?=some x/\oneV x)->ps.length=(ps.filterMap fun p=>C7 gs[p]?).length+(ps.filter fun p=>decide (gs[p]?=some .non)).length
 | [],_=>rfl
 | p :: ps,h=>by
   have ih:=zgp (ps:=ps) fun q hq=>h q (ztx _ hq);obtain⟨x,hx,ho⟩:=h p ztz;rcases ho with rfl|⟨n,rfl⟩
   ·rw[List.filterMap_cons_none (by rw[hx];rfl),zuj (by rw[hx];simp),ztt,ztt,ih];omega
   ·rw[List.filterMap_cons_some (b:=n) (by rw[hx];rfl),zuk (by rw[hx];simp),ztt,ztt,ih];omega
theorem Ta(FP:Ya rows gs):∀ {ps:List Nat},ps.Nodup->(ps.filterMap fun p=>C7 gs[p]?).Nodup
 | [],_=>zuy
 | p :: ps,h=>by
   rw[zt0] at h;rw[zu6];split
   ·exact Ta FP h.2
   ·rename_i n hn;rw[zt0];refine⟨fun hm=>?_,Ta FP h.2⟩;obtain⟨q,hq,e⟩:=zu3.mp hm;have:=FP.inj p q n (Qf.mp hn) (Qf.mp e);rw[this] at h;exact h.1 hq
theorem zeq(FP:Ya rows gs)(NA:C6 rows gs){pl:List Nat}{rl:List Int}(hpn:pl.Nodup)(hpm:∀ q,q∈pl↔∃ g k,gs[g]?=some .non/\Walk rows gs g q k)(hrn:rl.Nodup)(hrm:∀ n,n∈rl↔∃ p∈pl,∃ r,rows[p]?=some r/\n∈r)
  {pi rs:List Int} (h1:pi.Perm (pl.map fun q:Nat=>(q:Int))) (h2:pi.Pairwise (·<=·)) (h3:rs.Perm rl) (h4:rs.Pairwise (·<=·)):∃ ps:List Nat,pi=ps.map (fun q:Nat=>(q:Int))/\Ig rows gs ps rs:=by
 have hlt:∀ q∈pl,q<rows.length:=fun q hq=>by
  obtain⟨g,k,hg,hw⟩:=(hpm q).mp hq;cases hw with
  | nil=>rw[<- FP.len];exact(zs6.mp hg).1
  | snoc _ a=>rw[<- FP.len];exact(zs6.mp a.2).1
 have hpi:∀ x∈pi,0<=x:=fun x hx=>by
  obtain⟨q,_,e⟩:=zte.mp (h1.mem_iff.mp hx);rw[<- e];omega
 have epi:pi=(pi.map Int.toNat).map (fun q:Nat=>(q:Int)):=by
  rw[zud]
  conv=>lhs;rw[<- List.map_id pi]
  refine zun fun x hx=>?_;show x=((x.toNat:Nat):Int);rw[Int.toNat_of_nonneg (hpi x hx)]
 have hpp:(pi.map Int.toNat).Perm pl:=by
  have:=h1.map Int.toNat;rw[zud] at this;have e:pl.map (Int.toNat∘fun q:Nat=>(q:Int))=pl:=by
   conv=>rhs;rw[<- List.map_id pl]
   exact zun fun q _=>ztl q
  rw[e] at this;exact this
 have nps:(pi.map Int.toNat).Nodup:=hpp.nodup_iff.mpr hpn;have strictly:∀ {l:List Int},l.Pairwise (·<=·)->l.Nodup->l.Pairwise (· < ·):=fun {l} a b=>(List.Pairwise.and a b).imp fun ⟨x,y⟩=>by omega
 generalize hps:pi.map Int.toNat=ps at epi hpp nps;have npi:pi.Nodup:=h1.nodup_iff.mpr (List.pairwise_map.mpr (hpn.imp fun h z=>h ⋯));have mem:∀ q,q∈ps↔q∈pl:=fun q=>hpp.mem_iff;have rmem:∀ n,n∈rs↔n∈rl:=fun n=>h3.mem_iff;have nrs:rs.Nodup:=h3.nodup_iff.mpr hrn;have gap:∀ p,gs[p]?=some .non->p∈ps:=fun p hp=>(mem p).mpr ((hpm p).mpr ⟨p,0,hp,.nil⟩);have all:∀ n,n∈rs↔∃ p∈ps,∃ r,rows[p]?=some r/\n∈r:=fun n=>by
  rw[rmem,hrm];exact⟨fun ⟨p,a,b⟩=>⟨p,(mem p).mpr a,b⟩,fun ⟨p,a,b⟩=>⟨p,(mem p).mp a,b⟩⟩
 have has:∀ n∈rs,∃ p∈ps,gs[p]?=some (.int n):=fun n hn=>by
  obtain⟨p,hp,r,h5,h6⟩:=(all n).mp hn;obtain⟨g,k,hg,hw⟩:=(hpm p).mp ((mem p).mp hp);by_cases hx:∃ j:Nat,gs[j]?=some (V.int n)
  ·obtain⟨j,hj⟩:=hx;exact⟨j,(mem j).mpr ((hpm j).mpr ⟨g,k+1,hg,.snoc hw ⟨⟨r,h5,h6⟩,hj⟩⟩),hj⟩
  ·exact absurd ⟨n,⟨r,h5,h6⟩,fun j hj=>hx ⟨j,hj⟩⟩ (NA g hg p k hw)
 refine⟨ps,epi,?_,fun p hp=>hlt p ((mem p).mp hp),strictly h4 nrs,all,?_,fun hz=>?_,gap,has⟩
 ·have:=strictly h2 npi;rw[epi,List.pairwise_map] at this;exact this.imp fun h=>by omega
 ·have hone:∀ p∈ps,∃ x,gs[p]?=some x/\oneV x:=fun p hp=>by
   have hl:p<gs.length:=by rw[FP.len];exact hlt p ((mem p).mp hp)
   exact⟨_,zs5 hl,FP.one _ (ztw hl)⟩
  rw[zgp hone]
  congr 1
  ·refine Ie (Ta FP nps) nrs fun n=>?_;rw[zu3];constructor
   ·rintro⟨p,hp,e⟩;have e:=Qf.mp e;obtain⟨r,h5,h6⟩:=FP.may p n e;exact(all n).mpr ⟨p,hp,r,h5,h6⟩
   ·intro hn;obtain⟨p,hp,e⟩:=has n hn;exact⟨p,hp,Qf.mpr e⟩
  ·refine Ie (nps.filter _) A6 fun p=>?_;rw[zt1,Tw];exact⟨fun h=>of_decide_eq_true h.2,fun h=>⟨gap p h,zta h⟩⟩
 ·cases hc:ps with
  | nil=>rfl
  | cons p r =>
    have hp:p∈ps:=by rw[hc];simp
    obtain⟨g,_,hg,_⟩:=(hpm p).mp ((mem p).mp hp);have:=Tw.mpr hg;rw[hz] at this;cases this
end
inductive zbe(K:Frag)(vs:List V)(H:Hp)(Q:VK)(_:XK):Prop where
 | mk(l lg:Addr)(ls:List Addr)(rows:List (List Int))(nu:List Int)(gs:List V)(_:vs=[.ref l,.ref lg])(_:H l=some (.lst (ls.map V.ref)))(_:ILs H ls rows)(_:Ws rows nu)(_:H lg=some (.lst gs))(_:Ya rows gs)(_:C6 rows gs)(_:∀ t lp lr ps rs H',H' t=some (.tup [.ref lp,.ref lr])->H' lp=some (.lst (Yc ps))->H' lr=some (.lst (rs.map V.int))->Ig rows gs ps rs->Same H H'->H t=none->H lp=none->H lr=none->lp≠lr->Q (.ref t) H')
section
variable{rows:List (List Int)}{gs:List V}{p:Nat}{line:List Nat}{dep:Nat->Nat}{fr:Nat->Option (Nat×Int)}
def byV(x:Option (Nat×Int)):V:=match x with|none=>.non|some y=>.int (y.1:Nat)
structure zk5(by_:List (Key×V))(line:List Nat)(fr:Nat->Option (Nat×Int)):Prop where
 keys:by_.map (·.1)=line.map fun q:Nat=>(inl (q:Int):Key)
 val:∀ q∈line,valV by_ (inl (q:Int):Key)=some (byV (fr q))
structure zk6(rows:List (List Int))(gs:List V)(dep:Nat->Nat)(q:Nat)(x:Int)(tl:List (Nat×Option Int))(e:Nat)(n:Int):Prop where
 ch:Ch rows gs q ((q,some x) :: tl) e (some n)
 nd:(((q,some x) :: tl).map (·.1)).Nodup
 far:∀ s∈tl,dep q<dep s.1
end
inductive F2(K:Frag)(vs:List V)(H:Hp)(Q:VK)(_:XK):Prop where
 | mk(t l lp lr:Addr)(ls:List Addr)(rows:List (List Int))(nu:List Int)(gs:List V)(ps:List Nat)(rs:List Int)(_:vs=[.ref t,.ref l,.int ((Wq gs).length:Nat)])(_:H t=some (.tup [.ref lp,.ref lr]))(_:H l=some (.lst (ls.map V.ref)))(_:ILs H ls rows)(_:Ws rows nu)(_:H lp=some (.lst (Yc ps)))(_:H lr=some (.lst (rs.map V.int)))(_:Ig rows gs ps rs)(_:∀ H',Same H H'->Q (.bl true) H')
section
variable{rows:List (List Int)}{gs:List V}
def zh3(rows:List (List Int))(gs:List V)(p:Nat):Prop:=∀ q k,Walk rows gs p q k->¬ Xl rows gs q
structure zjr(rows:List (List Int))(f k:Nat)(gs:List V):Prop where
 fill:Ya rows gs
 seen:∀ j,j<k->(∃ n,gs[(f+j)%rows.length]?=some (.int n))\/zh3 rows gs ((f+j)%rows.length)
 later:∀ p,(∀ j,j<k->(f+j)%rows.length≠p)->p<rows.length->gs[p]?=some .non
theorem C8{a b c:List Int}(h1:a.Perm b)(h2:a.Pairwise (·<=·))(hb:b.Nodup)(hc:c.Pairwise (· < ·))(h:∀ n,n∈b↔n∈c):a=c:=by
 have nc:c.Nodup:=hc.imp fun h z=>by omega
 have p:b.Perm c:=(List.perm_ext_iff_of_nodup hb nc).mpr h;exact(h1.trans p).eq_of_pairwise (le:=fun a b=>a<=b) (fun a b _ _ x y=>by omega) h2 (hc.imp fun h=>by omega)
end
theorem zf6(xs:List V)(k:Nat):En xs none (some (k:Int))=xs.take k:=by
 unfold En;rw[HT.sIx_nat,HT.sIx_none];by_cases h:k<=xs.length
 ·rw[Nat.min_eq_left h];rfl
 ·rw[Nat.min_eq_right ⋯];show xs.take (xs.length-0)=_;rw[Nat.sub_zero,zto,List.take_of_length_le ⋯]
end G
namespace PySem
theorem F3(f:α->β):∀ (l:List α) (j:Nat),(l.map f).eraseIdx j=(l.eraseIdx j).map f
 | [],_=>rfl
 | _ :: _,0=>rfl
 | x :: l,j+1=>by
   show f x :: (l.map f).eraseIdx j=f x :: (l.eraseIdx j).map f;rw[F3 f l j]
section
variable{prog:Program}{w:World}{K:Type}[DecidableEq K]{knd:HeapKind prog w K}{A:Around}{E:Value->Shared->Prop}{s:Shared}
theorem Ni(hu:knd.room A)(hkey:knd.is s.heap k a)(hm:s.heap.DictOfH knd d xs)(hj:xs[j]?=some (k,p))(hsz:xs.length<=sizeLine)
  (hQ:∀ h',h'.DictOfH knd d (xs.eraseIdx j)->Heap.SameBut d s.heap h'->Q (some (entryOfKey knd (k,p))) { s with heap:=h',toks:=s.toks+knd.draws k }) :
  wpAny (model prog w) A (Builtin.Dict.takeOut d (.ref a)) Q E s:=by
 obtain⟨o,es,ep,ho,hc,hd,he,his,hn⟩:=hm;unfold Builtin.Dict.takeOut
 try with_reducible refine wpAny_holding ?_
 refine wpAny_bind (knd.pyHash hu hkey (wpAny_bind (wpAny_dictFind_heap (s:={ s with toks:=s.toks+knd.draws k }) hu hkey ho hd he his hn ?_ ?_)))
 ·intro hno;exact absurd hj (hno j p)
 ·intro j' p' hj';have ej:=idxH_unique hn hj' hj;subst ej;refine wpAny_bind (wpAny_dictEntries (s:={ s with toks:=s.toks+knd.draws k }) ho hd ?_);rw[entry_at he j',hj];refine wpAny_bind (wpAny_updateDictKeys (hz:=by have e:=size_of_entries he;omega) (s:={ s with toks:=s.toks+knd.draws k }) ho hd (wpAny_pure (hQ _ ⟨_,_,ep+1,Heap.get?_update_self _ ho (Obj.isFreed_of_dict (Obj.data_mapDictKeys hd _)),
   hc.mapDictKeys _,Obj.data_mapDictKeys hd _,?_,?_,?_⟩ (Heap.SameBut.update ..))))
  ·obtain⟨l⟩:=es;simp only at he;simp[he,F3]
  ·intro x hx;exact knd.keeps (his x (List.mem_of_mem_eraseIdx hx)) ho hd (Heap.SameBut.update ..)
  ·have:=hn.sublist (List.Sublist.map (·.1) (List.eraseIdx_sublist xs j'));exact this
theorem Kv(d a:Addr)(k:K) :
  MeetsIn prog w (Builtin.«dict.pop» ⟨[.ref d,.ref a],[]⟩) (fun A R s=>knd.room A.in1/\knd.is s.heap k a/\∃ xs j p,s.heap.DictOfH knd d xs/\xs.length<=sizeLine/\xs[j]?=some (k,p) /\
   ∀ h' t',h'.DictOfH knd d (xs.eraseIdx j)->Heap.SameBut d s.heap h'->R (.ok (.ret p.2)) { s with heap:=h',toks:=t' }) :=
 .of_wp fun A R s ⟨hu,hkey,xs,j,p,hm,hsz,hj,h⟩=>by
  obtain⟨o,es,ep,ho,hc,hd,he,his,hn⟩:=id hm;unfold Builtin.«dict.pop»;refine wpAny_bind ?_;unfold Builtin.Dict.keyAndDefault;refine wpAny_bind (wpAny_notOrdered_dict hm.typeIs ?_);show wpAny _ _ (pure (d,Value.ref a,none)) _ _ s;refine wpAny_pure ?_;have hp:(keyPart (Value.ref a)).isSome=false:=rfl;simp only[hp,zux,if_false];refine wpAny_bind (wpAny_dictEntries ho hd (wpAny_bind (wpAny_pure ?_)));have hne:es.isEmpty=false:=by
   have h1:=size_of_entries he;have h2:=(zs6.mp hj).1;rw[Array.isEmpty_eq_false_iff_exists_mem];exact⟨es[0]'⋯,Array.getElem_mem _⟩
  simp only[hne,zux,if_false];refine wpAny_bind (Ni hu hkey hm hj hsz fun h' hm' hs'=>?_);simp only[Option.isNone_some,zux,if_false];exact wpAny_bind (wpAny_letGo (wpAny_pure ⟨p.2,rfl,h h' _ hm' hs'⟩))
end
end PySem
namespace L2
open PySem PySem.Spec PyProof.Rows
theorem KT.drop:∀ {kvs:List (List Key×V)} {xs:List (List Key×Addr×Value)},KT H kvs xs->(xs.map (·.1)).Nodup->valV kvs k=some v->∃ j p,xs[j]?=some (k,p)/\RelV v p.2/\KT H (X5 kvs k) (xs.eraseIdx j):=fun {kvs xs} r=>by
 induction r with
 | nil=>intro _ hv;cases hv
 | @cons p q kvs xs h t ih=>
     intro nd hv
     rw[ztm,zt0] at nd;obtain⟨h1,h2,h3⟩:=h;by_cases e:p.1=k
     ·rw[Xa e] at hv;cases hv;refine⟨0,q.2,by rw[<- e,h1];rfl,h3,?_⟩;show KT H (X5 (p :: kvs) k) xs;have hd:X5 (p :: kvs) k=kvs:=by
       unfold X5;rw[zuk (by simp[e])];rw[List.filter_eq_self];intro kv hkv;refine zta fun z=>nd.1 ?_;have:∀ {l:List (List Key×V)} {m:List (List Key×Addr×Value)},KT H l m->kv∈l->kv.1∈m.map (·.1):=by
        intro l m q
        induction q with
        | nil=>intro hx;cases hx
        | @cons p' q' ps qs hq t ih =>
          intro hx;rcases ztf.mp hx with z|z
          ·rw[z,hq.1];exact ztz
          ·exact ztx _ (ih z)
       have h9:=this t hkv;rw[z,<- e,h1] at h9;exact h9
      rw[hd];exact t
     ·rw[Yy e] at hv;obtain⟨j,pp,h4,h5,h6⟩:=ih nd.2 hv;refine⟨j+1,pp,h4,h5,?_⟩;have hd:X5 (p :: kvs) k=p :: X5 kvs k:=by
       unfold X5;rw[zuj (by simp[e])]
      rw[hd];exact .cons ⟨h1,h2,h3⟩ h6
inductive zf7(ty:TE)(σ:L2.St)(Q:VK)(x:V)(H1:Hp):Prop where
 | mk(a)(_:x=.ref a)(_:IsD H1 a)(_:ty σ H1 fun y H2=>∃ (kvs:List (List Key×V)) (k:List Key) (b:Addr) (v:V),H2 a=some (.dT kvs)/\y=.ref b/\H2 b=some (.tup (k.map kV))/\valV kvs k=some v/\Q v (upd H2 a (.dT (X5 kvs k))))
def zh4(td ty:TE):TE:=fun σ H Q=>td σ H fun x H1=>zf7 ty σ Q x H1
theorem zer(hu:X.A.units+1<cLine)(ho:PE X o td)(he:PE X e ty)(m:M1 X o "pop" apos e cpos):PE X (.Call (.Attribute o "pop" apos) [e] [] cpos) (zh4 td ty):=by
 intro pins s σ H Q I h;refine wpAny_Call_method m.base m.few m.line PySem.F.plainAttrs_dict PySem.F.slot_dict_pop PySem.F.type_dict_pop (thn (ho pins s σ H _ I h) fun u s1 ⟨x,H1,I1,rx,a,ex,d,q1⟩=>?_);subst ex;obtain rfl:u=Value.ref a:=rx;obtain⟨t1,t2,_⟩:=Am I1 d;refine⟨t1,t2,?_⟩;rw[m.trees];refine Calls.callWith_builtin rfl (Calls.evalArgs_plain (Calls.spliced_cons (thn (he pins s1 σ H1 _ I1 q1) fun iv s2 ⟨y,H2,I2,ry,kvs,k,b,v,ea,ey,eb,l,q2⟩=>Calls.spliced_nil ?_)));subst ey;cases (show iv=Value.ref b from ry);obtain⟨z,hd,xs,rel,dd⟩:=zgj I2.hok ea;have hz:xs.length<=sizeLine:=by rw[<- Paired.length rel];exact z
 obtain⟨j,p,hj,rv,rel'⟩:=KT.drop rel (by obtain⟨_,_,_,_,_,_,_,_,hn⟩:=dd;exact hn) l;refine call_meetsIn PySem.F.slot_dict_pop dd.typeIs PySem.F.entry_dict_pop (PySem.F.args_dict_pop_2 _ _) (Kv (knd:=tupleKind (Yi X.prog X.w)) a b k) ⟨tupleKind_room_in1 hu,O8 I2.hok eb,xs,j,p,dd,hz,hj,fun h' t' dd' hs=>⟨v,_,?_,rv,q2⟩⟩;obtain⟨q,es,ep,hq,h2,h3,h4,_,h5⟩:=dd';refine Oj I2 (by rw[ea];exact True.intro) hs ⟨q,hq⟩ ⟨ztk (Cg kvs k) z,hd,_,rel'.keeps fun c ys ec=>?_,q,es,ep,hq,h2,h3,h4,h5⟩;rw[Zh (Xm ec ea (fun z=>nomatch z))];exact ec
end L2
namespace G
open PySem PySem.Spec PyProof.Rows L2
structure CA where
 season:Addr
 sheet:Addr
 roster:Addr
 ledger:Addr
 out:Addr
 known:Addr
 many:Addr
 unk:Addr
 manyM:Addr
 same:Addr
 noMatch:Addr
 noRound:Addr
 over:Addr
 seaOver:Addr
 away:Addr
 drawn:Addr
 notDrawn:Addr
 nothing:Addr
 manyD:Addr
theorem Rv:1000000<sizeLine:=by rw[sizeLine_eq];decide
abbrev RL:=List (Int×Int×Int)
inductive Vp(H:Hp):RL->List (Key×V)->Prop where
 | nil:Vp H [] []
 | cons {n g c:Int} {t:Addr} {R:RL} {kvs:List (Key×V)} (h:H t=some (.tup [.int g,.int c])) (r:Vp H R kvs):Vp H ((n,g,c) :: R) ((.inl n,.ref t) :: kvs)
theorem Vp.mono(k:∀ t xs,H t=some (.tup xs)->H' t=some (.tup xs)):∀ {R:RL} {kvs:List (Key×V)},Vp H R kvs->Vp H' R kvs
 | _,_,.nil=>.nil
 | _,_,.cons h r=>.cons (k _ _ h) (Vp.mono k r)
theorem Vp.length:∀ {R:RL} {kvs:List (Key×V)},Vp H R kvs->kvs.length=R.length
 | _,_,.nil=>rfl
 | _,_,.cons _ r=>by simp[Vp.length r]
theorem Vp.keys:∀ {R:RL} {kvs:List (Key×V)},Vp H R kvs->(kvs.map fun kv=>kV kv.1)=R.map fun x=>V.int x.1
 | _,_,.nil=>rfl
 | _,_,.cons _ r=>by rw[ztm,ztm,Vp.keys r];rfl
theorem Vp.snoc(h:H t=some (.tup [.int g,.int c])):∀ {R:RL} {kvs:List (Key×V)},Vp H R kvs->Vp H (R++[(n,g,c)]) (kvs++[(.inl n,.ref t)])
 | _,_,.nil=>.cons h .nil
 | _,_,.cons h' r=>.cons h' (Vp.snoc h r)
theorem Vp.val_none:∀ {R:RL} {kvs:List (Key×V)},Vp H R kvs->n∉R.map (·.1)->valV kvs (inl n:Key)=none
 | _,_,.nil,_=>rfl
 | _,_,.cons (n:=m) _ r,h=>by
   rw[ztm,ztf,not_or] at h;rw[Yy (fun e=>h.1 (inl.inj e).symm)];exact Vp.val_none r h.2
theorem Vp.val_some:∀ {R:RL} {kvs:List (Key×V)},Vp H R kvs->(R.map (·.1)).Nodup->(n,g,c)∈R->∃ t,valV kvs (inl n:Key)=some (.ref t)/\H t=some (.tup [.int g,.int c])
 | _,_,.nil,_,h=>by simp at h
 | _,_,.cons (n:=m) (g:=g') (c:=c') (t:=t) ht r,nd,h=>by
   rw[ztm,zt0] at nd;by_cases e:m=n
   ·subst e;rcases ztf.mp h with q|q
    ·cases q;exact⟨t,Xa rfl,ht⟩
    ·exact absurd (zte.mpr ⟨_,q,rfl⟩) nd.1
   ·rcases ztf.mp h with q|q
    ·cases q;exact absurd rfl e
    ·obtain⟨t',h1,h2⟩:=Vp.val_some r nd.2 q;exact⟨t',by rw[Yy (fun z=>e (inl.inj z))];exact h1,h2⟩
theorem Vp.isSome(e:Vp H R kvs)(nd:(R.map (·.1)).Nodup):(valV kvs (inl n:Key)).isSome=decide (n∈R.map (·.1)):=by
 by_cases h:n∈R.map (·.1)
 ·obtain⟨⟨m,g,c⟩,q,rfl⟩:=zte.mp h;obtain⟨t,h1,_⟩:=e.val_some nd q;rw[h1,zta h];rfl
 ·rw[e.val_none h,ztd h];rfl
theorem Vp.unsnoc:∀ {R:RL} {kvs:List (Key×V)},Vp H (R++[(n,g,c)]) kvs->n∉R.map (·.1)->Vp H R (X5 kvs (inl n)):=fun {R}=>by
 induction R with
 | nil=>
  intro kvs q _;have q:Vp H [(n,g,c)] kvs:=q;cases q with
  | cons h r=>
   cases r;unfold X5;rw[zuk (by simp)];exact .nil
 | cons p R ih=>
  obtain⟨m,g',c'⟩:=p;intro kvs q hn;have q:Vp H ((m,g',c') :: (R++[(n,g,c)])) kvs:=q;cases q with
  | cons h r=>
    rw[ztm,ztf,not_or] at hn;unfold X5;rw[zuj (by
     refine zta fun z=>hn.1 ?_;exact(inl.inj z).symm)]
    exact .cons h (ih r hn.2)
structure Xj(C:Addr)(H:Hp)(p d:Addr)(R:RL):Prop where
 ex:∃ dx kvs,H p=some (.ins C dx [("entries",.ref d)])/\H d=some (.dK kvs)/\Vp H R kvs
 nd:(R.map (·.1)).Nodup
theorem Vq:List.lookup ("entries":Str) ([("entries",V.ref d)]:List (Str×V))=some (.ref d):=by simp only[zt3,beq_self_eq_true]
theorem Xj.no{d:Addr}{m:Str}(h:¬ m="entries"):List.lookup m ([("entries",V.ref d)]:List (Str×V))=none:=by
 have e:(m == "entries")=false:=zty.mpr h;simp only[zt3,e,List.lookup_nil]
theorem Xj.keep(h:Xj C H p d R)(kp:∀ o,H p=some o->H' p=some o)(kd:∀ o,H d=some o->H' d=some o)(kt:∀ t xs,H t=some (.tup xs)->H' t=some (.tup xs)):Xj C H' p d R:=by
 obtain⟨⟨dx,kvs,h1,h2,h3⟩,nd⟩:=h;exact⟨⟨dx,kvs,kp _ h1,kd _ h2,h3.mono kt⟩,nd⟩
theorem Xj.same(h:Xj C H p d R)(e:Same H H'):Xj C H' p d R:=h.keep (fun _ q=>e _ _ q) (fun _ q=>e _ _ q) fun _ _ q=>e _ _ q
def badI(n g c:Int):Prop:=n<1\/999<n\/g<1\/9<g\/c<1\/99<c
instance {n g c:Int}:Decidable (badI n g c):=by unfold badI;infer_instance
def Dc(n g c:Int):Prop:=Yu n/\Yu g/\Yu c
inductive Mg(x:Addr)(vs:List V)(H:Hp)(Q:VK)(E:XK):Prop where
 | mk(v)(lo)(m)(_:vs=[.int v,.int lo,.int m])(_:Yu v)(_:Yu lo)(_:Yu m)(_:(if v<lo\/m<v then E (.ref x) none H else Q .non H))
inductive zbf(ca:CA)(vs:List V)(H:Hp)(Q:VK)(_:XK):Prop where
 | mk(p)(dx)(_:vs=[.ref p])(_:H p=some (.ins ca.roster dx []))(_:∀ d,H d=none->Q .non (upd (upd H d (.dK [])) p (.ins ca.roster dx [("entries",.ref d)])))
inductive Nj(ca:CA)(vs:List V)(H:Hp)(Q:VK)(E:XK):Prop where
 | mk(p)(d)(R)(n)(g)(c)(_:vs=[.ref p,.int n,.int g,.int c])(_:Xj ca.roster H p d R)(_:Dc n g c)(_:if badI n g c then E (.ref ca.out) none H else if n∈R.map (·.1) then E (.ref ca.known) none H else if 30<=R.length then E (.ref ca.many) none H else Q .non H)
inductive Qg(ca:CA)(vs:List V)(H:Hp)(Q:VK)(E:XK):Prop where
 | mk(p)(d)(R)(n)(_:vs=[.ref p,.int n])(_:Xj ca.roster H p d R)(_:Yu n)(_:if n∈R.map (·.1) then Q .non H else E (.ref ca.unk) none H)
inductive zes(ca:CA)(vs:List V)(H:Hp)(Q:VK)(E:XK):Prop where
 | mk(p)(d)(R)(n)(g)(c)(_:vs=[.ref p,.int n,.int g,.int c])(_:Xj ca.roster H p d R)(_:Dc n g c)(_:R.length<=1000)(_:if badI n g c then E (.ref ca.out) none H else if n∈R.map (·.1) then E (.ref ca.known) none H else if 30<=R.length then E (.ref ca.many) none H else ∀ H',Xj ca.roster H' p d (R++[(n,g,c)])->(∀ b o,H b=some o->b≠d->H' b=some o)->Q .non H')
inductive C9(ca:CA)(vs:List V)(H:Hp)(Q:VK)(_:XK):Prop where
 | mk(p)(d)(R)(n)(g)(c)(_:vs=[.ref p,.int n])(_:Xj ca.roster H p d (R++[(n,g,c)]))(_:∀ H',Xj ca.roster H' p d R->(∀ b o,H b=some o->b≠d->H' b=some o)->Q .non H')
inductive Ih(ca:CA)(vs:List V)(H:Hp)(Q:VK)(_:XK):Prop where
 | mk(p)(d)(R)(_:vs=[.ref p])(_:Xj ca.roster H p d R)(_:∀ l,H l=none->Q (.ref l) (upd H l (.lst (R.map fun x=>V.int x.1))))
inductive Ba(ca:CA)(vs:List V)(H:Hp)(Q:VK)(E:XK):Prop where
 | mk(p)(d)(R)(n)(_:vs=[.ref p,.int n])(_:Xj ca.roster H p d R)(_:Yu n)(_:(n∉R.map (·.1)->E (.ref ca.unk) none H))(_:∀ g c t,(n,g,c)∈R->H t=some (.tup [.int g,.int c])->Q (.ref t) H)
inductive Bb(ca:CA)(vs:List V)(H:Hp)(Q:VK)(E:XK):Prop where
 | mk(p)(d)(R)(n)(_:vs=[.ref p,.int n])(_:Xj ca.roster H p d R)(_:Yu n)(_:(n∉R.map (·.1)->∀ H',Same H H'->E (.ref ca.unk) none H'))(_:∀ g c t H',(n,g,c)∈R->H' t=some (.tup (pV (n,g,c)))->Same H H'->H t=none->Q (.ref t) H')
structure Z3 where
 ms:List (Int×Int×Int)
 may:List (List Int)
 gv:List V
 gaps:List (Int×List (Nat×Option Int))
inductive Wg(ok:Addr->Prop)(H:Hp):List V->List (Int×List (Nat×Option Int))->Prop where
 | nil:Wg ok H [] []
 | cons {t l:Addr} {n:Int} {us:List V} {st:List (Nat×Option Int)} {ts:List V} {G:List (Int×List (Nat×Option Int))} (h:H t=some (.tup [.int n,.ref l])) (hl:H l=some (.lst us)) (tl:TupL H us (st.map Wf)) (o:ok l) (r:Wg ok H ts G):Wg ok H (.ref t :: ts) ((n,st) :: G)
theorem Wg.keep(k:∀ x o,ok x->H x=some o->H' x=some o)(kt:∀ t xs,H t=some (.tup xs)->H' t=some (.tup xs)):∀ {ts:List V} {G:List (Int×List (Nat×Option Int))},Wg ok H ts G->Wg ok H' ts G
 | _,_,.nil=>.nil
 | _,_,.cons h hl tl o r=>.cons (kt _ _ h) (k _ _ o hl) (tl.mono kt) o (Wg.keep k kt r)
theorem Wg.imp(k:∀ x,(∃ o,H x=some o)->ok x->ok' x):∀ {ts:List V} {G:List (Int×List (Nat×Option Int))},Wg ok H ts G->Wg ok' H ts G
 | _,_,.nil=>.nil
 | _,_,.cons h hl tl o r=>.cons h hl tl (k _ ⟨_,hl⟩ o) (Wg.imp k r)
theorem Wg.length:∀ {ts:List V} {G:List (Int×List (Nat×Option Int))},Wg ok H ts G->ts.length=G.length
 | _,_,.nil=>rfl
 | _,_,.cons _ _ _ _ r=>by simp[Wg.length r]
theorem Wg.snoc{ok:Addr->Prop}{H:Hp}{t l:Addr}{n:Int}{us:List V}{st:List (Nat×Option Int)}(h:H t=some (.tup [.int n,.ref l]))(hl:H l=some (.lst us))(tl:TupL H us (st.map Wf))(o:ok l):∀ {ts:List V} {G:List (Int×List (Nat×Option Int))},Wg ok H ts G->Wg ok H (ts++[.ref t]) (G++[(n,st)])
 | _,_,.nil=>.cons h hl tl o .nil
 | _,_,.cons h' hl' tl' o' r=>.cons h' hl' tl' o' (Wg.snoc h hl tl o r)
theorem Wg.get:∀ {ts:List V} {G:List (Int×List (Nat×Option Int))} {i:Nat} {x:V},Wg ok H ts G->ts[i]?=some x->∃ t l n us st,x=.ref t/\G[i]?=some (n,st)/\H t=some (.tup [.int n,.ref l])/\H l=some (.lst us)/\TupL H us (st.map Wf)/\ok l
 | _,_,_,_,.nil,e=>by simp at e
 | _,_,0,_,.cons h hl tl o _,e=>by simp at e;subst e;exact⟨_,_,_,_,_,rfl,rfl,h,hl,tl,o⟩
 | _,_,i+1,x,.cons _ _ _ _ r,e=>by
   obtain⟨t,l,n,us,st,h1,h2,h3⟩:=Wg.get (i:=i) (x:=x) r (by simpa using e);exact⟨t,l,n,us,st,h1,by simpa using h2,h3⟩
def shF(l1 l2 l3 l4:Addr):List (Str×V):=[("listed",.ref l1),("lists",.ref l2),("given",.ref l3),("gaps",.ref l4)]
structure ShAt(C:Addr)(ok:Addr->Prop)(H:Hp)(q:Addr)(s:Z3):Prop where
 ex:∃ dx l1 l2 l3 l4 ts ls gts,H q=some (.ins C dx (shF l1 l2 l3 l4))/\H l1=some (.lst ts)/\TupL H ts (s.ms.map pV)/\H l2=some (.lst (ls.map V.ref))/\ILs H ls s.may/\H l3=some (.lst s.gv)/\H l4=some (.lst gts)/\Wg ok H gts s.gaps/\(ok q/\ok l1/\ok l2/\ok l3/\ok l4/\∀ x∈ls,ok x)
theorem ShAt.keep(h:ShAt C ok H q s)(k:∀ x o,ok x->H x=some o->H' x=some o)(kt:∀ t xs,H t=some (.tup xs)->H' t=some (.tup xs)):ShAt C ok H' q s:=by
 obtain⟨dx,l1,l2,l3,l4,ts,ls,gts,a1,a2,a3,a4,a5,a6,a7,a8,o1,o2,o3,o4,o5,o6⟩:=h;exact⟨dx,l1,l2,l3,l4,ts,ls,gts,k _ _ o1 a1,k _ _ o2 a2,a3.mono kt,k _ _ o3 a4,a5.keep fun x hx o q=>k _ _ (o6 x hx) q,k _ _ o4 a6,k _ _ o5 a7,a8.keep k kt,o1,o2,o3,o4,o5,o6⟩
theorem ShAt.imp(h:ShAt C ok H q s)(k:∀ x,(∃ o,H x=some o)->ok x->ok' x):ShAt C ok' H q s:=by
 obtain⟨dx,l1,l2,l3,l4,ts,ls,gts,a1,a2,a3,a4,a5,a6,a7,a8,o1,o2,o3,o4,o5,o6⟩:=h;exact⟨dx,l1,l2,l3,l4,ts,ls,gts,a1,a2,a3,a4,a5,a6,a7,a8.imp k,k _ ⟨_,a1⟩ o1,k _ ⟨_,a2⟩ o2,k _ ⟨_,a4⟩ o3,k _ ⟨_,a6⟩ o4,k _ ⟨_,a7⟩ o5,fun x hx=>k _ (let ⟨_,z⟩:=a5.has hx;⟨_,z⟩) (o6 x hx)⟩
theorem ShAt.same(h:ShAt C ok H q s)(e:Same H H'):ShAt C ok H' q s:=h.keep (fun _ _ _ q=>e _ _ q) fun _ _ q=>e _ _ q
def ShO(C:Addr)(ok:Addr->Prop)(H:Hp)(v:V)(s:Option Z3):Prop:=match s with|none=>v=.non|some s=>∃ q,v=.ref q/\ShAt C ok H q s
theorem ShO.keep(h:ShO C ok H v s)(k:∀ x o,ok x->H x=some o->H' x=some o)(kt:∀ t xs,H t=some (.tup xs)->H' t=some (.tup xs)):ShO C ok H' v s:=by
 cases s with
 | none=>exact h
 | some s=>obtain⟨q,e,h⟩:=h;exact⟨q,e,h.keep k kt⟩
theorem ShO.imp(h:ShO C ok H v s)(k:∀ x,(∃ o,H x=some o)->ok x->ok' x):ShO C ok' H v s:=by
 cases s with
 | none=>exact h
 | some s=>obtain⟨q,e,h⟩:=h;exact⟨q,e,h.imp k⟩
inductive ShL(C:Addr)(ok:Addr->Prop)(H:Hp):List V->List Z3->Prop where
 | nil:ShL C ok H [] []
 | cons {q:Addr} {s:Z3} {vs:List V} {ss:List Z3} (h:ShAt C ok H q s) (r:ShL C ok H vs ss):ShL C ok H (.ref q :: vs) (s :: ss)
theorem ShL.keep(k:∀ x o,ok x->H x=some o->H' x=some o)(kt:∀ t xs,H t=some (.tup xs)->H' t=some (.tup xs)):∀ {vs:List V} {ss:List Z3},ShL C ok H vs ss->ShL C ok H' vs ss
 | _,_,.nil=>.nil
 | _,_,.cons h r=>.cons (h.keep k kt) (ShL.keep k kt r)
theorem ShL.imp(k:∀ x,(∃ o,H x=some o)->ok x->ok' x):∀ {vs:List V} {ss:List Z3},ShL C ok H vs ss->ShL C ok' H vs ss
 | _,_,.nil=>.nil
 | _,_,.cons h r=>.cons (h.imp k) (ShL.imp k r)
theorem ShL.length:∀ {vs:List V} {ss:List Z3},ShL C ok H vs ss->vs.length=ss.length
 | _,_,.nil=>rfl
 | _,_,.cons _ r=>by simp[ShL.length r]
theorem ShL.snoc(h:ShAt C ok H q s):∀ {vs:List V} {ss:List Z3},ShL C ok H vs ss->ShL C ok H (vs++[.ref q]) (ss++[s])
 | _,_,.nil=>.cons h .nil
 | _,_,.cons h' r=>.cons h' (ShL.snoc h r)
theorem ShL.getR:∀ {vs:List V} {ss:List Z3} {i:Nat} {s:Z3},ShL C ok H vs ss->ss[i]?=some s->∃ q,vs[i]?=some (.ref q)/\ShAt C ok H q s
 | _,_,_,_,.nil,e=>by simp at e
 | _,_,0,_,.cons h _,e=>by simp at e;subst e;exact⟨_,rfl,h⟩
 | _,_,i+1,x,.cons _ r,e=>by
   obtain⟨t,h1,h2⟩:=ShL.getR (i:=i) (s:=x) r (by simpa using e);exact⟨t,by simpa using h1,h2⟩
abbrev Qh:=Str×Int×Int
def Q3(d:Qh):List V:=[.str d.1,.int d.2.1,.int d.2.2]
inductive Sz(C:Addr)(ok:Addr->Prop)(H:Hp):List V->List (Qh×Option Z3)->Prop where
 | nil:Sz C ok H [] []
 | cons {t u:Addr} {v:V} {d:Qh} {s:Option Z3} {vs:List V} {ss:List (Qh×Option Z3)} (h:H t=some (.tup [.ref u,v])) (hu:H u=some (.tup (Q3 d))) (hs:ShO C ok H v s) (r:Sz C ok H vs ss):Sz C ok H (.ref t :: vs) ((d,s) :: ss)
theorem Sz.keep(k:∀ x o,ok x->H x=some o->H' x=some o)(kt:∀ t xs,H t=some (.tup xs)->H' t=some (.tup xs)):∀ {vs:List V} {ss:List (Qh×Option Z3)},Sz C ok H vs ss->Sz C ok H' vs ss
 | _,_,.nil=>.nil
 | _,_,.cons h hu hs r=>.cons (kt _ _ h) (kt _ _ hu) (hs.keep k kt) (Sz.keep k kt r)
theorem Sz.length:∀ {vs:List V} {ss:List (Qh×Option Z3)},Sz C ok H vs ss->vs.length=ss.length
 | _,_,.nil=>rfl
 | _,_,.cons _ _ _ r=>by simp[Sz.length r]
theorem Sz.snoc(h:H t=some (.tup [.ref u,v]))(hu:H u=some (.tup (Q3 d)))(hs:ShO C ok H v s):∀ {vs:List V} {ss:List (Qh×Option Z3)},Sz C ok H vs ss->Sz C ok H (vs++[.ref t]) (ss++[(d,s)])
 | _,_,.nil=>.cons h hu hs .nil
 | _,_,.cons h' hu' hs' r=>.cons h' hu' hs' (Sz.snoc h hu hs r)
theorem Sz.unsnoc:∀ {vs:List V} {ss:List (Qh×Option Z3)},Sz C ok H vs (ss++[(d,s)])->∃ vs' t u v,vs=vs'++[.ref t]/\H t=some (.tup [.ref u,v])/\H u=some (.tup (Q3 d))/\ShO C ok H v s/\Sz C ok H vs' ss:=fun {vs ss}=>by
 induction ss generalizing vs with
 | nil=>
  intro q;have q:Sz C ok H vs [(d,s)]:=q;cases q with
  | cons h hu hs r=>cases r;exact⟨[],_,_,_,rfl,h,hu,hs,.nil⟩
 | cons x ss ih=>
  intro q;have q:Sz C ok H vs (x :: (ss++[(d,s)])):=q;cases q with
  | cons h hu hs r=>obtain⟨vs',t,u,v,e,a1,a2,a3,a4⟩:=ih r;exact⟨_ :: vs',t,u,v,by rw[e];rfl,a1,a2,a3,.cons h hu hs a4⟩
structure Sea where
 len:Nat
 rest:Nat
 ppl:RL
 led:List (List Row)
 out:List (Int×Int)
 old:List Z3
 cur:Option Z3
 std:List (Qh×Option Z3)
structure SAd where
 p:Addr
 pr:Addr
 dr:Addr
 pl:Addr
 lr:Addr
 ld:Addr
 da:Addr
 ls:Addr
 lt:Addr
def SAd.fp(A:SAd):List Addr:=[A.p,A.dr,A.lr,A.ld,A.da,A.ls,A.lt]
def seaF(A:SAd)(len rest:Nat)(v:V):List (Str×V):=[("length",.int len),("rest",.int rest),("roster",.ref A.pr),("ledger",.ref A.pl),("absent",.ref A.da),("sheets",.ref A.ls),("sheet",v),("standing",.ref A.lt)]
def Pr(kvs:List (List Key×V))(out:List (Int×Int)):Prop:=(∀ at_ n:Int,(valV kvs [inl at_,inl n]).isSome=decide ((at_,n)∈out))/\kvs.length<=out.length
structure Zv(ca:CA)(H:Hp)(A:SAd)(S:Sea):Prop where
 obj:∃ dx v,H A.p=some (.ins ca.season dx (seaF A S.len S.rest v))/\ShO ca.sheet (·∉A.fp) H v S.cur
 ros:Xj ca.roster H A.pr A.dr S.ppl
 led:U7 ca.ledger H A.pl A.lr A.ld S.led
 out:∃ kvs,H A.da=some (.dT kvs)/\Pr kvs S.out
 old:∃ vs,H A.ls=some (.lst vs)/\ShL ca.sheet (·∉A.fp) H vs S.old
 std:∃ vs,H A.lt=some (.lst vs)/\Sz ca.sheet (·∉A.fp) H vs S.std
 nd:A.fp.Nodup
 np:A.pr∉A.fp/\A.pl∉A.fp
def FrS(A:SAd)(H H':Hp):Prop:=∀ b o,H b=some o->b∉A.fp->H' b=some o
end G
namespace L2
open PySem PySem.Spec PyProof.Rows
theorem Bc{X:Cx}{K:Frag}(hK:X.K=K):OpR X (binaryOp .Add) (zgl K):=hK▸zft
end L2
namespace G
open PySem PySem.Spec PyProof.Rows L2
theorem it2{p:Prop}[Decidable p]{A B A' B':Prop}(h:if p then A else B)(h1:p->A->A')(h2:¬ p->B->B'):if p then A' else B':=by
 by_cases z:p
 ·rw[if_pos z] at h ⊢;exact h1 z h
 ·rw[if_neg z] at h ⊢;exact h2 z h
theorem zct{κ:Type}[DecidableEq κ]{kvs:List (κ×V)}{k:κ}{v:V}(h:valV kvs k=none):putK kvs k v=kvs++[(k,v)]:=by
 unfold putK;rw[if_neg];intro z;rw[Ro,h] at z;cases z
inductive Bd(C:Addr)(vs:List V)(H:Hp)(Q:VK)(_:XK):Prop where
 | mk(p lr ld:Addr)(Rs:List (List Row))(b:Addr)(ts:List V)(rs:List Row)(_:vs=[.ref p,.ref b])(_:U7 C H p lr ld Rs)(_:H b=some (.lst ts))(_:b≠lr)(_:TupL H ts (rs.map E2))(_:2*(tot Rs+rs.length)<=100000)(_:Rs.length<=1000)(_:∀ H',U7 C H' p lr ld (Rs++[rs])->(∀ b o,H b=some o->b≠lr->b≠ld->H' b=some o)->Q .non H')
def zbg(ok:Addr->Prop)(H:Hp):Prop:=∀ x,H x=none->ok x
inductive Mh(ca:CA)(vs:List V)(H:Hp)(Q:VK)(_:XK):Prop where
 | mk(q)(dx)(l1)(l2)(l3)(l4)(_:vs=[.ref q,.ref l1,.ref l2,.ref l3,.ref l4])(_:H q=some (.ins ca.sheet dx []))(_:∀ H',H'=upd H q (.ins ca.sheet dx (shF l1 l2 l3 l4))->Q .non H')
theorem Rw:List.lookup ("listed":Str) (shF l1 l2 l3 l4)=some (.ref l1):=by unfold shF;simp only[zt3,beq_self_eq_true]
theorem Be:List.lookup ("lists":Str) (shF l1 l2 l3 l4)=some (.ref l2):=by
 have e:(("lists":Str) == "listed")=false:=by decide +kernel
 unfold shF;simp only[zt3,e,beq_self_eq_true]
theorem Rx:List.lookup ("given":Str) (shF l1 l2 l3 l4)=some (.ref l3):=by
 have e:(("given":Str) == "listed")=false:=by decide +kernel
 have e2:(("given":Str) == "lists")=false:=by decide +kernel
 unfold shF;simp only[zt3,e,e2,beq_self_eq_true]
theorem Dd:List.lookup ("gaps":Str) (shF l1 l2 l3 l4)=some (.ref l4):=by
 have e:(("gaps":Str) == "listed")=false:=by decide +kernel
 have e2:(("gaps":Str) == "lists")=false:=by decide +kernel
 have e3:(("gaps":Str) == "given")=false:=by decide +kernel
 unfold shF;simp only[zt3,e,e2,e3,beq_self_eq_true]
theorem Us{l1 l2 l3 l4:Addr}{m:Str}(h1:¬ m="listed")(h2:¬ m="lists")(h3:¬ m="given")(h4:¬ m="gaps"):List.lookup m (shF l1 l2 l3 l4)=none:=by
 have e1:(m == "listed")=false:=zty.mpr h1;have e2:(m == "lists")=false:=zty.mpr h2;have e3:(m == "given")=false:=zty.mpr h3;have e4:(m == "gaps")=false:=zty.mpr h4;unfold shF;simp only[zt3,e1,e2,e3,e4,List.lookup_nil]
theorem zkn:putF "lists" y [(("listed":Str),x)]=([("listed",x),("lists",y)]:List (Str×V)):=by
 have n1:¬ (("listed":Str)="lists"):=by decide +kernel
 simp only[putF,if_neg n1]
theorem zko:putF "given" z [(("listed":Str),x),("lists",y)]=([("listed",x),("lists",y),("given",z)]:List (Str×V)):=by
 have n1:¬ (("listed":Str)="given"):=by decide +kernel
 have n2:¬ (("lists":Str)="given"):=by decide +kernel
 simp only[putF,if_neg n1,if_neg n2]
theorem zkp:putF "gaps" w [(("listed":Str),x),("lists",y),("given",z)]=([("listed",x),("lists",y),("given",z),("gaps",w)]:List (Str×V)):=by
 have n1:¬ (("listed":Str)="gaps"):=by decide +kernel
 have n2:¬ (("lists":Str)="gaps"):=by decide +kernel
 have n3:¬ (("given":Str)="gaps"):=by decide +kernel
 simp only[putF,if_neg n1,if_neg n2,if_neg n3]
theorem Nk(hq:H1 q=none)(hdx:H1 dx=none)(ne:dx≠q):Same H1 (upd (upd (upd H1 dx (.own q)) q (.ins C dx [])) q (.ins C dx (shF l1 l2 l3 l4)))/\upd (upd (upd H1 dx (.own q)) q (.ins C dx [])) q (.ins C dx (shF l1 l2 l3 l4)) q=some (.ins C dx (shF l1 l2 l3 l4)):=by
 refine⟨fun b o e=>?_,Ze⟩;rw[Zh (Zg e hq),Zh (Zg e hq),Zh (Zg e hdx)];exact e
inductive Bf(ca:CA)(vs:List V)(H:Hp)(Q:VK)(_:XK):Prop where
 | mk(ok:Addr->Prop)(q l2:Addr)(ls:List Addr)(rows:List (List Int))(s:Z3)(_:vs=[.ref q,.ref l2])(_:ShAt ca.sheet ok H q s)(_:H l2=some (.lst (ls.map V.ref)))(_:ILs H ls rows)(_:ok l2)(_:(∀ x∈ls,ok x))(_:zbg ok H)(_:∀ q' H',ShAt ca.sheet ok H' q' { s with may:=rows }->Same H H'->H q'=none->Q (.ref q') H')
inductive Bg(ca:CA)(vs:List V)(H:Hp)(Q:VK)(_:XK):Prop where
 | mk(ok:Addr->Prop)(q l2:Addr)(ls:List Addr)(rows:List (List Int))(nu:List Int)(s:Z3)(n:Int)(p:Nat)(_:vs=[.ref q,.int n,.ref l2])(_:ShAt ca.sheet ok H q s)(_:H l2=some (.lst (ls.map V.ref)))(_:ILs H ls rows)(_:ok l2)(_:(∀ x∈ls,ok x))(_:zbg ok H)(_:Ws rows nu)(_:(∀ x∈s.gv,oneV x))(_:s.gv[p]?=some (.int n))(_:(∀ j:Nat,s.gv[j]?=some (.int n)->j=p))(_:Ya rows (s.gv.set p .non))(_:s.gaps.length<=1000)(_:∀ q' st e w H',ShAt ca.sheet ok H' q' ⟨s.ms,rows,Yh st (s.gv.set p .non),s.gaps++[(n,st)]⟩->Y2 rows (s.gv.set p .non) p st e w->Same H H'->H q'=none->Q (.ref q') H')
inductive zbh(ca:CA)(vs:List V)(H:Hp)(Q:VK)(_:XK):Prop where
 | mk(ok:Addr->Prop)(l1 l2:Addr)(ts:List V)(ls:List Addr)(ms:List (Int×Int×Int))(rows:List (List Int))(nu:List Int)(_:vs=[.ref l1,.ref l2])(_:H l1=some (.lst ts))(_:TupL H ts (ms.map pV))(_:H l2=some (.lst (ls.map V.ref)))(_:ILs H ls rows)(_:ok l1)(_:ok l2)(_:(∀ x∈ls,ok x))(_:zbg ok H)(_:Ws rows nu)(_:∀ q gv H',ShAt ca.sheet ok H' q ⟨ms,rows,gv,[]⟩->Ya rows gv->Wl rows gv->Same H H'->H q=none->Q (.ref q) H')
inductive Kn(ca:CA)(vs:List V)(H:Hp)(Q:VK)(_:XK):Prop where
 | mk(ok:Addr->Prop)(q:Addr)(s:Z3)(_:vs=[.ref q])(_:ShAt ca.sheet ok H q s)(_:∀ l ts H',H' l=some (.lst ts)->TupL H' ts (s.ms.map pV)->Same H H'->H l=none->Q (.ref l) H')
inductive Ii(ca:CA)(vs:List V)(H:Hp)(Q:VK)(_:XK):Prop where
 | mk(ok:Addr->Prop)(q:Addr)(s:Z3)(_:vs=[.ref q])(_:ShAt ca.sheet ok H q s)(_:∀ l H',H' l=some (.lst s.gv)->Same H H'->H l=none->Q (.ref l) H')
inductive Lj(ca:CA)(vs:List V)(H:Hp)(Q:VK)(_:XK):Prop where
 | mk(ok:Addr->Prop)(q:Addr)(s:Z3)(n:Int)(_:vs=[.ref q,.int n])(_:ShAt ca.sheet ok H q s)(_:(∀ x∈s.gv,oneV x))(_:s.gv.length<=100)(_:∀ H',Same H H'->Q (oN (Wr s.gv n)) H')
inductive zbi(ca:CA)(vs:List V)(H:Hp)(Q:VK)(_:XK):Prop where
 | mk(ok:Addr->Prop)(q:Addr)(s:Z3)(nu:List Int)(_:vs=[.ref q])(_:ShAt ca.sheet ok H q s)(_:Ws s.may nu)(_:Ya s.may s.gv)(_:C6 s.may s.gv)(_:∀ t lp lr ps rs H',H' t=some (.tup [.ref lp,.ref lr])->H' lp=some (.lst (Yc ps))->H' lr=some (.lst (rs.map V.int))->Ig s.may s.gv ps rs->Same H H'->H t=none->H lp=none->H lr=none->lp≠lr->Q (.ref t) H')
inductive zbj(ca:CA)(vs:List V)(H:Hp)(Q:VK)(E:XK):Prop where
 | mk(ok:Addr->Prop)(q:Addr)(s:Z3)(i:Int)(_:vs=[.ref q,.int i])(_:ShAt ca.sheet ok H q s)(_:Yu i)(_:s.may.length=s.ms.length)(_:(i<0\/(s.ms.length:Int)<=i->E (.ref ca.noMatch) none H))(_:∀ (k:Nat) r,i=(k:Int)->s.may[k]?=some r->∀ l H',H' l=some (.lst (r.map V.int))->Same H H'->H l=none->Q (.ref l) H')
inductive F4(ca:CA)(vs:List V)(H:Hp)(Q:VK)(E:XK):Prop where
 | mk(ok:Addr->Prop)(q:Addr)(s:Z3)(i:Int)(_:vs=[.ref q,.int i])(_:ShAt ca.sheet ok H q s)(_:Yu i)(_:(if i<0\/(s.ms.length:Int)<=i then E (.ref ca.noMatch) none H else Q .non H))
def Ij(m:Int×Int×Int)(x:V):Row:=⟨m.1,m.2.1,m.2.2,C7 (some x)⟩
def Xz(s:Z3):List Row:=List.zipWith Ij s.ms s.gv
inductive Bh(ca:CA)(vs:List V)(H:Hp)(Q:VK)(_:XK):Prop where
 | mk(ok:Addr->Prop)(q:Addr)(s:Z3)(_:vs=[.ref q])(_:ShAt ca.sheet ok H q s)(_:(∀ x∈s.gv,oneV x))(_:s.gv.length=s.ms.length)(_:s.ms.length<=1000)(_:∀ l ts H',H' l=some (.lst ts)->TupL H' ts ((Xz s).map E2)->Same H H'->H l=none->Q (.ref l) H')
inductive Nl(ca:CA)(vs:List V)(H:Hp)(Q:VK)(_:XK):Prop where
 | mk(ok:Addr->Prop)(q:Addr)(s:Z3)(_:vs=[.ref q])(_:ShAt ca.sheet ok H q s)(_:s.gaps.length<=1000)(_:∀ l ts H',H' l=some (.lst ts)->Wg (fun x=>H x=none/\x≠l) H' ts s.gaps->Same H H'->H l=none->Q (.ref l) H')
theorem A7{K:Frag}{a:Addr}{xs:List V}{xo:List Str}{js:List Nat}{g:TG}{tt:TT}{te:TE}{σ:L2.St}{H:Hp}{Q:VK}(Pv:Nat->List V->Hp->Prop)(h0:Pv 0 [] H)(hl:∀ i ys H,i<=xs.length->Pv i ys H->SqL K H a xs)(hz:xs.length<=sizeLine)(hy:∀ i ys H,Pv i ys H->ys.length<=i)
  (hs:∀ i x ys H,xs[i]?=some x->Pv i ys H->g x (cs0 xo js σ) H fun σ2 H1=>Sn xo js σ σ2/\tt σ2 H1 fun b H2=>if b=true then te σ2 H2 fun y H3=>Pv (i+1) (ys++[y]) H3 else Pv (i+1) ys H2)
  (hd:∀ ys H,Pv xs.length ys H->∀ p,H p=none->Q (.ref p) (upd H p (.lst ys))):E7 (Itl K a) xo js g tt te σ H Q:=by
 refine⟨fun i m ys H=>m=xs.length-i/\i<=xs.length/\Pv i ys H,⟨xs.length,by simp,zt6 _,h0⟩,?_⟩;rintro i m ys H ⟨rfl,hi,p⟩;have q:=hl i ys H hi p;have ly:=hy i ys H p;by_cases hlt:i<xs.length
 ·refine .inr ⟨⟨xs,xs[i],q,by simp[hlt]⟩,by omega,Pv (i+1),fun ys' H' p'=>⟨xs.length-(i+1),by omega,rfl,hlt,p'⟩,fun x H' y=>?_⟩;obtain⟨e,y⟩:=y;subst e;exact hs i x ys _ (y xs q) p
 ·have e:i=xs.length:=by omega
  subst e;exact .inl ⟨⟨xs,q,ztc _⟩,by omega,hd ys H p⟩
theorem zcu{K:Frag}{a b:Addr}{xs zs:List V}{xo:List Str}{js:List Nat}{g:TG}{tt:TT}{te:TE}{σ:L2.St}{H:Hp}{Q:VK}(Pv:Nat->List V->Hp->Prop)(h0:Pv 0 [] H)(he:xs.length=zs.length)(hl:∀ i ys H,i<=xs.length->Pv i ys H->SqL K H a xs/\SqL K H b zs)(hz:xs.length<=sizeLine)(hy:∀ i ys H,Pv i ys H->ys.length<=i)
  (hs:∀ i x z t ys H,xs[i]?=some x->zs[i]?=some z->Pv i ys H->H t=none->g (.ref t) (cs0 xo js σ) (upd H t (.tup [x,z])) fun σ2 H1=>Sn xo js σ σ2/\tt σ2 H1 fun b H2=>if b=true then te σ2 H2 fun y H3=>Pv (i+1) (ys++[y]) H3 else Pv (i+1) ys H2)
  (hd:∀ ys H,Pv xs.length ys H->∀ p,H p=none->Q (.ref p) (upd H p (.lst ys))):E7 (Itz K a b) xo js g tt te σ H Q:=by
 refine⟨fun i m ys H=>m=xs.length-i/\i<=xs.length/\Pv i ys H,⟨xs.length,by simp,zt6 _,h0⟩,?_⟩;rintro i m ys H ⟨rfl,hi,p⟩;obtain⟨q1,q2⟩:=hl i ys H hi p;have ly:=hy i ys H p;by_cases hlt:i<xs.length
 ·refine .inr ⟨⟨xs,zs,xs[i],zs[i]'⋯,q1,q2,by simp[hlt],by rw[zs5 ⋯]⟩,by omega,Pv (i+1),fun ys' H' p'=>⟨xs.length-(i+1),by omega,rfl,hlt,p'⟩,fun x H' y=>?_⟩;obtain⟨t,y,z,h1,h2,h3,rfl,rfl⟩:=y;exact hs i y z t ys _ (h2 xs q1) (h3 zs q2) p h1
 ·have e:i=xs.length:=by omega
  subst e;exact .inl ⟨⟨xs,zs,q1,q2,.inl (ztc _)⟩,by omega,hd ys H p⟩
theorem zh5(m:Int×Int×Int)(h:oneV x):E2 (Ij m x)=[V.int m.1,V.int m.2.1,V.int m.2.2,x]:=by
 rcases h with rfl|⟨i,rfl⟩<;>rfl
theorem zcv(hm:s.ms[i]?=some m)(hx:s.gv[i]?=some x):(Xz s).take (i+1)=(Xz s).take i++[Ij m x]:=by
 have:(Xz s)[i]?=some (Ij m x):=by
  unfold Xz;rw[List.getElem?_zipWith,hm,hx]
 rw[zuf,this];rfl
theorem Bi(h:s.gv.length=s.ms.length):(Xz s).length=s.ms.length:=by
 unfold Xz;rw[List.length_zipWith,h,Nat.min_self]
section
variable{ca:CA}{H H':Hp}{A:SAd}{S:Sea}{l:Nat}{r:Nat}{v:V}
theorem Bj(A:SAd)(l r:Nat)(v:V):List.lookup ("length":Str) (seaF A l r v)=some (.int l)/\List.lookup ("rest":Str) (seaF A l r v)=some (.int r)/\List.lookup ("roster":Str) (seaF A l r v)=some (.ref A.pr)/\List.lookup ("ledger":Str) (seaF A l r v)=some (.ref A.pl)/\List.lookup ("absent":Str) (seaF A l r v)=some (.ref A.da)/\List.lookup ("sheets":Str) (seaF A l r v)=some (.ref A.ls)/\List.lookup ("sheet":Str) (seaF A l r v)=some v/\List.lookup ("standing":Str) (seaF A l r v)=some (.ref A.lt):=by
 have d:∀ a b:Str,decide (a=b)=false->(a == b)=false:=fun a b h=>zty.mpr (of_decide_eq_false h);have e1:=d "rest" "length" ⋯;have e2:=d "roster" "length" ⋯;have e3:=d "roster" "rest" ⋯;have f1:=d "ledger" "length" ⋯;have f2:=d "ledger" "rest" ⋯;have f3:=d "ledger" "roster" ⋯;have g1:=d "absent" "length" ⋯;have g2:=d "absent" "rest" ⋯;have g3:=d "absent" "roster" ⋯;have g4:=d "absent" "ledger" ⋯;have h1:=d "sheets" "length" ⋯;have h2:=d "sheets" "rest" ⋯;have h3:=d "sheets" "roster" ⋯;have h4:=d "sheets" "ledger" ⋯;have h5:=d "sheets" "absent" ⋯;have i1:=d "sheet" "length" ⋯;have i2:=d "sheet" "rest" ⋯;have i3:=d "sheet" "roster" ⋯;have i4:=d "sheet" "ledger" ⋯;have i5:=d "sheet" "absent" ⋯;have i6:=d "sheet" "sheets" ⋯;have j1:=d "standing" "length" ⋯;have j2:=d "standing" "rest" ⋯;have j3:=d "standing" "roster" ⋯;have j4:=d "standing" "ledger" ⋯;have j5:=d "standing" "absent" ⋯;have j6:=d "standing" "sheets" ⋯;have j7:=d "standing" "sheet" ⋯;unfold seaF;refine⟨?_,?_,?_,?_,?_,?_,?_,?_⟩<;>simp only[zt3,beq_self_eq_true,e1,e2,e3,f1,f2,f3,g1,g2,g3,g4,h1,h2,h3,h4,h5,i1,i2,i3,i4,i5,i6,j1,j2,j3,j4,j5,j6,j7]
theorem F5:List.lookup ("length":Str) (seaF A l r v)=some (.int l):=(Bj A l r v).1
theorem zf8:List.lookup ("rest":Str) (seaF A l r v)=some (.int r):=(Bj A l r v).2.1
theorem Ut:List.lookup ("roster":Str) (seaF A l r v)=some (.ref A.pr):=(Bj A l r v).2.2.1
theorem Tj:List.lookup ("ledger":Str) (seaF A l r v)=some (.ref A.pl):=(Bj A l r v).2.2.2.1
theorem Oo:List.lookup ("absent":Str) (seaF A l r v)=some (.ref A.da):=(Bj A l r v).2.2.2.2.1
theorem F6:List.lookup ("sheets":Str) (seaF A l r v)=some (.ref A.ls):=(Bj A l r v).2.2.2.2.2.1
theorem Wu:List.lookup ("sheet":Str) (seaF A l r v)=some v:=(Bj A l r v).2.2.2.2.2.2.1
theorem Sr:List.lookup ("standing":Str) (seaF A l r v)=some (.ref A.lt):=(Bj A l r v).2.2.2.2.2.2.2
theorem Yb(h:(["length","rest","roster","ledger","absent","sheets","sheet","standing"]:List Str).all (fun x=>!decide (m=x))=true):List.lookup m (seaF A l r v)=none:=by
 simp only[List.all_cons,List.all_nil,Bool.and_true,zus,zvb,decide_eq_false_iff_not] at h;obtain⟨h1,h2,h3,h4,h5,h6,h7,h8⟩:=h;have e:∀ x:Str,¬ m=x->(m == x)=false:=fun x z=>zty.mpr z;unfold seaF;simp only[zt3,e _ h1,e _ h2,e _ h3,e _ h4,e _ h5,e _ h6,e _ h7,e _ h8,List.lookup_nil]
theorem Zv.same(h:Zv ca H A S)(e:Same H H'):Zv ca H' A S:=by
 obtain⟨⟨dx,v,a1,a2⟩,b,c,⟨kvs,d1,d2⟩,⟨vs,f1,f2⟩,⟨us,g1,g2⟩,nd,np⟩:=h;have k:∀ x o,x∉A.fp->H x=some o->H' x=some o:=fun _ _ _ q=>e _ _ q;have kt:∀ t xs,H t=some (.tup xs)->H' t=some (.tup xs):=fun _ _ q=>e _ _ q;exact⟨⟨dx,v,e _ _ a1,a2.keep k kt⟩,b.same e,c.same e,⟨kvs,e _ _ d1,d2⟩,⟨vs,e _ _ f1,f2.keep k kt⟩,⟨us,e _ _ g1,g2.keep k kt⟩,nd,np⟩
theorem FrS.of(A:SAd)(e:Same H H'):FrS A H H':=fun b o q _=>e b o q
theorem FrS.trans(h1:FrS A H H')(h2:FrS A H' H2):FrS A H H2:=fun b o e n=>h2 b o (h1 b o e n) n
theorem Zv.there(h:Zv ca H A S):∀ x∈A.fp,∃ o,H x=some o:=by
 obtain⟨⟨dx,v,a1,_⟩,⟨⟨_,_,_,b2,_⟩,_⟩,⟨_,⟨rs,c2,_⟩,⟨ks,c3,_⟩⟩,⟨kvs,d1,_⟩,⟨vs,f1,_⟩,⟨us,g1,_⟩,nd,np⟩:=h;intro x hx;simp only[SAd.fp,ztf,zue,or_false] at hx;rcases hx with rfl|rfl|rfl|rfl|rfl|rfl|rfl
 ·exact⟨_,a1⟩
 ·exact⟨_,b2⟩
 ·exact⟨_,c2⟩
 ·exact⟨_,c3⟩
 ·exact⟨_,d1⟩
 ·exact⟨_,f1⟩
 ·exact⟨_,g1⟩
theorem Zv.newOk(h:Zv ca H A S):zbg (·∉A.fp) H:=fun x hx hm=>by
 obtain⟨o,e⟩:=h.there x hm;rw[e] at hx;cases hx
theorem Zv.tups(h:Zv ca H A S)(f:FrS A H H'):∀ t xs,H t=some (.tup xs)->H' t=some (.tup xs):=fun t xs e=>f t _ e fun hm=>by
 obtain⟨⟨dx,v,a1,_⟩,⟨⟨_,_,_,b2,_⟩,_⟩,⟨_,⟨rs,c2,_⟩,⟨ks,c3,_⟩⟩,⟨kvs,d1,_⟩,⟨vs,f1,_⟩,⟨us,g1,_⟩,nd,np⟩:=h;simp only[SAd.fp,ztf,zue,or_false] at hm;rcases hm with rfl|rfl|rfl|rfl|rfl|rfl|rfl
 ·rw[a1] at e;cases e
 ·rw[b2] at e;cases e
 ·rw[c2] at e;cases e
 ·rw[c3] at e;cases e
 ·rw[d1] at e;cases e
 ·rw[f1] at e;cases e
 ·rw[g1] at e;cases e
end
def atV(S:Sea):Int:=(S.led.length:Int)+1
inductive Tz(ca:CA)(vs:List V)(H:Hp)(Q:VK)(_:XK):Prop where
 | mk(A:SAd)(S:Sea)(_:vs=[.ref A.p])(_:Zv ca H A S)(_:Q (.int (atV S)) H)
inductive Ll(ca:CA)(vs:List V)(H:Hp)(Q:VK)(E:XK):Prop where
 | mk(A:SAd)(S:Sea)(_:vs=[.ref A.p])(_:Zv ca H A S)(_:if S.len<=S.led.length then E (.ref ca.seaOver) none H else Q .non H)
inductive Ln(ca:CA)(vs:List V)(H:Hp)(Q:VK)(E:XK):Prop where
 | mk(A:SAd)(S:Sea)(_:vs=[.ref A.p])(_:Zv ca H A S)(_:if S.len<=S.led.length then E (.ref ca.seaOver) none H else if S.cur.isSome then E (.ref ca.drawn) none H else Q .non H)
inductive De(ca:CA)(vs:List V)(H:Hp)(Q:VK)(E:XK):Prop where
 | mk(A:SAd)(S:Sea)(at_:Int)(_:vs=[.ref A.p,.int at_])(_:Zv ca H A S)(_:Yu at_)(_:if at_<1\/(S.len:Int)<at_ then E (.ref ca.noRound) none H else Q .non H)
inductive Df(ca:CA)(vs:List V)(H:Hp)(Q:VK)(E:XK):Prop where
 | mk(A:SAd)(S:Sea)(_:vs=[.ref A.p])(_:Zv ca H A S)(_:if 100<=S.std.length then E (.ref ca.manyD) none H else Q .non H)
inductive Dg(ca:CA)(vs:List V)(H:Hp)(Q:VK)(_:XK):Prop where
 | mk(A:SAd)(S:Sea)(w:Str)(n at_:Int)(_:vs=[.ref A.p,.str w,.int n,.int at_])(_:Zv ca H A S)(_:S.std.length<=1000)(_:∀ H',Zv ca H' A { S with std:=S.std++[((w,n,at_),S.cur)] }->FrS A H H'->Q .non H')
inductive Qi(ca:CA)(vs:List V)(H:Hp)(Q:VK)(E:XK):Prop where
 | mk(A:SAd)(S:Sea)(_:vs=[.ref A.p])(_:Zv ca H A S)(_:(S.cur=none->E (.ref ca.notDrawn) none H))(_:∀ s q,S.cur=some s->ShAt ca.sheet (·∉A.fp) H q s->Q (.ref q) H)
def V4(S:Sea)(at_:Int):Option Z3:=if at_<=S.led.length then S.old[(at_-1).toNat]? else if (S.led.length:Int)+1<at_ then none else S.cur
inductive Oq(ca:CA)(vs:List V)(H:Hp)(Q:VK)(E:XK):Prop where
 | mk(A:SAd)(S:Sea)(at_:Int)(_:vs=[.ref A.p,.int at_])(_:Zv ca H A S)(_:Yu at_)(_:S.old.length=S.led.length)(_:if at_<1\/(S.len:Int)<at_ then E (.ref ca.noRound) none H else (V4 S at_=none->E (.ref ca.notDrawn) none H)/\∀ s q,V4 S at_=some s->ShAt ca.sheet (·∉A.fp) H q s->Q (.ref q) H)
def pIn(out:List (Int×Int))(at_:Int)(m:P3):Bool:=decide ((at_,m.1)∈out)
def mayM(S:Sea)(m:P3):List Int:=(S.ppl.filter fun x=>(Ku S.led x.1 x.2.1 x.2.2 m.1 m.2.1 m.2.2 (pIn S.out (atV S) x) S.rest).isEmpty).map (·.1)
def mayS(S:Sea)(ms:List P3):List (List Int):=ms.map (mayM S)
inductive Nm(ca:CA)(vs:List V)(H:Hp)(Q:VK)(_:XK):Prop where
 | mk(A:SAd)(S:Sea)(l:Addr)(ts:List V)(ms:List P3)(_:vs=[.ref A.p,.ref l])(_:Zv ca H A S)(_:H l=some (.lst ts))(_:TupL H ts (ms.map pV))(_:ms.length<=100)(_:S.ppl.length<=100)(_:(∀ x∈S.ppl,Yu x.1))(_:∀ l' ls H',H' l'=some (.lst (ls.map V.ref))->ILs H' ls (mayS S ms)->Same H H'->H l'=none->(∀ x∈ls,H x=none)->Q (.ref l') H')
def badM(m:P3):Prop:=m.1<1\/99<m.1\/m.2.1<1\/99<m.2.1\/m.2.2<1\/9<m.2.2
def S4(Ms:List P3):Prop:=∃ m∈Ms,badM m
def Ss(Ms:List P3):Prop:=∃ m∈Ms,m.1=m.2.1
def Ik(m:P3):Prop:=Yu m.1/\Yu m.2.1/\Yu m.2.2
theorem F7{p:P3->Prop}{Ms:List P3}{i:Nat}{m:P3}(e:Ms[i]?=some m)(h:∀ x∈Ms.take i,¬ p x)(hm:¬ p m):∀ x∈Ms.take (i+1),¬ p x:=fun x hx=>by
 rw[zuf,e] at hx;rcases ztg.mp hx with q|q
 ·exact h x q
 ·simp at q;subst q;exact hm
inductive Bl(K:Frag)(ca:CA)(vs:List V)(H:Hp)(Q:VK)(E:XK):Prop where
 | mk(b)(ts)(_:vs=[.ref b])(_:SqL K H b ts)(_:ts.length<=1000)(_:(20<ts.length->E (.ref ca.manyM) none H))(_:(ts.length<=20->Q .non H))
inductive F8(K:Frag)(ca:CA)(vs:List V)(H:Hp)(Q:VK)(E:XK):Prop where
 | mk(b:Addr)(ts:List V)(Ms:List P3)(_:vs=[.ref b])(_:SqL K H b ts)(_:TupL H ts (Ms.map pV))(_:(∀ m∈Ms,Ik m))(_:(S4 Ms->E (.ref ca.out) none H))(_:(¬ S4 Ms->Q .non H))
inductive Bm(K:Frag)(ca:CA)(vs:List V)(H:Hp)(Q:VK)(E:XK):Prop where
 | mk(b:Addr)(ts:List V)(Ms:List P3)(_:vs=[.ref b])(_:SqL K H b ts)(_:TupL H ts (Ms.map pV))(_:(∀ m∈Ms,Ik m))(_:(Ss Ms->E (.ref ca.same) none H))(_:(¬ Ss Ms->Q .non H))
inductive Il(K:Frag)(ca:CA)(vs:List V)(H:Hp)(Q:VK)(E:XK):Prop where
 | mk(b:Addr)(ts:List V)(Ms:List P3)(_:vs=[.ref b])(_:SqL K H b ts)(_:TupL H ts (Ms.map pV))(_:(∀ m∈Ms,Ik m))(_:Ms.length<=1000)(_:(20<Ms.length->E (.ref ca.manyM) none H))(_:(Ms.length<=20->S4 Ms->E (.ref ca.out) none H))(_:(Ms.length<=20->¬ S4 Ms->Ss Ms->E (.ref ca.same) none H))(_:(Ms.length<=20->¬ S4 Ms->¬ Ss Ms->∀ l,H l=none->Q (.ref l) (upd H l (.lst ts))))
theorem Pr.isSome(h:Pr kvs out)(i n:Int):(valV kvs [inl i,inl n]).isSome=decide ((i,n)∈out):=h.1 i n
theorem Im{A:SAd}(nd:A.fp.Nodup):(A.p≠A.dr/\A.p≠A.lr/\A.p≠A.ld/\A.p≠A.da/\A.p≠A.ls/\A.p≠A.lt)/\(A.dr≠A.lr/\A.dr≠A.ld/\A.dr≠A.da/\A.dr≠A.ls/\A.dr≠A.lt)/\(A.lr≠A.ld/\A.lr≠A.da/\A.lr≠A.ls/\A.lr≠A.lt)/\(A.ld≠A.da/\A.ld≠A.ls/\A.ld≠A.lt)/\(A.da≠A.ls/\A.da≠A.lt)/\A.ls≠A.lt:=by
 simp only[SAd.fp,zt0,ztf,zue,or_false,not_or] at nd;obtain⟨⟨n1,n2,n3,n4,n5,n6⟩,⟨n7,n8,n9,n10,n11⟩,⟨n12,n13,n14,n15⟩,⟨n16,n17,n18⟩,⟨n19,n20⟩,n21,_⟩:=nd;exact⟨⟨n1,n2,n3,n4,n5,n6⟩,⟨n7,n8,n9,n10,n11⟩,⟨n12,n13,n14,n15⟩,⟨n16,n17,n18⟩,⟨n19,n20⟩,n21⟩
theorem zf9{R:RL}(nd:(R.map (·.1)).Nodup){x y:P3}(hx:x∈R)(hy:y∈R)(h:x.1=y.1):x=y:=by
 induction R with
 | nil=>cases hx
 | cons z R ih =>
   rw[ztm,zt0] at nd;rcases ztf.mp hx with e|e<;>rcases ztf.mp hy with e'|e'
   ·rw[e,e']
   ·exact absurd (zte.mpr ⟨y,e',by rw[<- h,e]⟩) nd.1
   ·exact absurd (zte.mpr ⟨x,e,by rw[h,e']⟩) nd.1
   ·exact ih nd.2 e e'
def outV(S:Sea):List V:=(S.ppl.filter (pIn S.out (atV S))).map fun x=>V.int x.1
theorem zet(S:Sea):∀ x∈outV S,oneV x:=fun x hx=>by
 unfold outV at hx;obtain⟨m,_,rfl⟩:=zte.mp hx;exact .inr ⟨_,rfl⟩
theorem zga(hx:x∈S.ppl):inV (.int x.1) (outV S)=pIn S.out (atV S) x:=by
 unfold outV;rw[show ((S.ppl.filter (pIn S.out (atV S))).map fun x=>V.int x.1)=((S.ppl.filter (pIn S.out (atV S))).map (·.1)).map V.int by rw[zud];rfl,Sl];unfold pIn;by_cases h:(atV S,x.1)∈S.out
 ·rw[zta h,zta];exact zte.mpr ⟨x,zt1.mpr ⟨hx,zta h⟩,rfl⟩
 ·rw[ztd h,ztd];intro z;obtain⟨y,h1,h2⟩:=zte.mp z;have:=of_decide_eq_true (zt1.mp h1).2;rw[h2] at this;exact h this
theorem zh6(S:Sea)(m:P3):((S.ppl.filter (Po S.led m.1 m.2.1 m.2.2 (outV S) S.rest)).map fun x=>V.int x.1)=(mayM S m).map V.int:=by
 unfold mayM;rw[zud];have:S.ppl.filter (Po S.led m.1 m.2.1 m.2.2 (outV S) S.rest)=S.ppl.filter fun x=>(Ku S.led x.1 x.2.1 x.2.2 m.1 m.2.1 m.2.2 (pIn S.out (atV S) x) S.rest).isEmpty:=by
  refine zuz fun x hx=>?_;unfold Po;rw[zga hx]
 rw[this];rfl
theorem atI_last:atI (xs++[x]) (-1)=some x:=by
 have hl:(xs++[x]).length=xs.length+1:=by rw[zs8];rfl
 unfold atI ixN;rw[if_neg ⋯,if_pos ⋯];show (xs++[x])[((-1:Int)+(xs++[x]).length).toNat]?=_;rw[show ((-1:Int)+(xs++[x]).length).toNat=xs.length by omega,zt4 (ztc _),Nat.sub_self];rfl
theorem Wg.unsnoc{ok:Addr->Prop}{H:Hp}{n:Int}{st:List (Nat×Option Int)}:∀ {vs:List V} {G:List (Int×List (Nat×Option Int))},Wg ok H vs (G++[(n,st)])->∃ vs' t l us,vs=vs'++[.ref t]/\H t=some (.tup [.int n,.ref l])/\H l=some (.lst us)/\TupL H us (st.map Wf)/\ok l:=fun {vs G}=>by
 induction G generalizing vs with
 | nil=>
  intro q;have q:Wg ok H vs [(n,st)]:=q;cases q with
  | cons h hl tl o r=>cases r;exact⟨[],_,_,_,rfl,h,hl,tl,o⟩
 | cons x G ih=>
  intro q;have q:Wg ok H vs (x :: (G++[(n,st)])):=q;cases q with
  | cons h hl tl o r=>obtain⟨vs',t,l,us,e,a⟩:=ih r;exact⟨_ :: vs',t,l,us,by rw[e];rfl,a⟩
def Mi(S:Sea):Prop:=(∀ x∈S.ppl,¬ badI x.1 x.2.1 x.2.2)/\S.ppl.length<=30
theorem Mi.small(h:Mi S):∀ x∈S.ppl,Yu x.1:=fun x hx=>by
 have:=h.1 x hx;unfold badI at this;exact Z9 ⋯ ⋯
theorem Mi.may(h:Mi S)(nd:(S.ppl.map (·.1)).Nodup)(hm:ms.length<=20):Ws (mayS S ms) (S.ppl.map (·.1)):=by
 refine⟨by unfold mayS;rw[zs4];exact hm,by rw[zs4];exact h.2,nd,fun n hn=>?_,fun r hr=>?_⟩
 ·obtain⟨x,hx,rfl⟩:=zte.mp hn;have:=h.1 x hx;unfold badI at this;omega
 ·unfold mayS at hr;obtain⟨m,_,rfl⟩:=zte.mp hr;unfold mayM;exact⟨nd.sublist (List.Sublist.map _ List.filter_sublist),fun n hn=>by
   obtain⟨x,hx,rfl⟩:=zte.mp hn;exact zte.mpr ⟨x,(zt1.mp hx).1,rfl⟩⟩
section
variable{ca:CA}{H H':Hp}{A:SAd}{S:Sea}
theorem Ko(h:Zv ca H A S)(hx:x∈A.fp):A.pr≠x/\A.pl≠x:=⟨fun z=>h.np.1 (by rw[z];exact hx),fun z=>h.np.2 (by rw[z];exact hx)⟩
theorem FrS.one(hx:x∈A.fp)(k:∀ b o,H b=some o->b≠x->H' b=some o):FrS A H H':=fun b o e hb=>k b o e fun z=>hb (by rw[z];exact hx)
theorem Zv.setRos(h:Zv ca H A S)(r:Xj ca.roster H' A.pr A.dr R)(k:∀ b o,H b=some o->b≠A.dr->H' b=some o):Zv ca H' A { S with ppl:=R }/\FrS A H H':=by
 have f:FrS A H H':=.one (by simp[SAd.fp]) k;have kt:=h.tups f;have ko:∀ x o,x∉A.fp->H x=some o->H' x=some o:=fun x o hx e=>f x o e hx;obtain⟨⟨n1,n2,n3,n4,n5,n6⟩,⟨n7,n8,n9,n10,n11⟩,⟨n12,n13,n14,n15⟩,⟨n16,n17,n18⟩,⟨n19,n20⟩,n21⟩:=Im h.nd;have np:=Ko h (show A.dr∈A.fp by simp[SAd.fp]);obtain⟨⟨dx,v,a1,a2⟩,b,c,⟨kvs,d1,d2⟩,⟨vs,f1,f2⟩,⟨us,g1,g2⟩,nd,np'⟩:=h;exact⟨⟨⟨dx,v,k _ _ a1 n1,a2.keep ko kt⟩,r,c.keep (fun o e=>k _ o e np.2) (fun o e=>k _ o e (Ne.symm n7)) (fun o e=>k _ o e (Ne.symm n8)) kt,⟨kvs,k _ _ d1 (Ne.symm n9),d2⟩,⟨vs,k _ _ f1 (Ne.symm n10),f2.keep ko kt⟩,⟨us,k _ _ g1 (Ne.symm n11),g2.keep ko kt⟩,nd,np'⟩,f⟩
theorem Zv.setOut{out:List (Int×Int)}{kvs:List (List Key×V)}(h:Zv ca H A S)(hd:H' A.da=some (.dT kvs))(ok:Pr kvs out)(k:∀ b o,H b=some o->b≠A.da->H' b=some o):Zv ca H' A { S with out:=out }/\FrS A H H':=by
 have f:FrS A H H':=.one (by simp[SAd.fp]) k;have kt:=h.tups f;have ko:∀ x o,x∉A.fp->H x=some o->H' x=some o:=fun x o hx e=>f x o e hx;obtain⟨⟨n1,n2,n3,n4,n5,n6⟩,⟨n7,n8,n9,n10,n11⟩,⟨n12,n13,n14,n15⟩,⟨n16,n17,n18⟩,⟨n19,n20⟩,n21⟩:=Im h.nd;have np:=Ko h (show A.da∈A.fp by simp[SAd.fp]);obtain⟨⟨dx,v,a1,a2⟩,b,c,⟨kvs',d1,d2⟩,⟨vs,f1,f2⟩,⟨us,g1,g2⟩,nd,np'⟩:=h;exact⟨⟨⟨dx,v,k _ _ a1 n4,a2.keep ko kt⟩,b.keep (fun o e=>k _ o e np.1) (fun o e=>k _ o e n9) kt,c.keep (fun o e=>k _ o e np.2) (fun o e=>k _ o e n13) (fun o e=>k _ o e n16) kt,⟨kvs,hd,ok⟩,⟨vs,k _ _ f1 (Ne.symm n19),f2.keep ko kt⟩,⟨us,k _ _ g1 (Ne.symm n20),g2.keep ko kt⟩,nd,np'⟩,f⟩
theorem Zv.setCur(h:Zv ca H A S)(hp:∃ dx,H' A.p=some (.ins ca.season dx (seaF A S.len S.rest v)))(sh:ShO ca.sheet (·∉A.fp) H' v cur)(k:∀ b o,H b=some o->b≠A.p->H' b=some o):Zv ca H' A { S with cur:=cur }/\FrS A H H':=by
 have f:FrS A H H':=.one (by simp[SAd.fp]) k;have kt:=h.tups f;have ko:∀ x o,x∉A.fp->H x=some o->H' x=some o:=fun x o hx e=>f x o e hx;obtain⟨⟨n1,n2,n3,n4,n5,n6⟩,⟨n7,n8,n9,n10,n11⟩,⟨n12,n13,n14,n15⟩,⟨n16,n17,n18⟩,⟨n19,n20⟩,n21⟩:=Im h.nd;have np:=Ko h (show A.p∈A.fp by simp[SAd.fp]);obtain⟨⟨dx,v',a1,a2⟩,b,c,⟨kvs',d1,d2⟩,⟨vs,f1,f2⟩,⟨us,g1,g2⟩,nd,np'⟩:=h;obtain⟨dx',hp⟩:=hp;exact⟨⟨⟨dx',v,hp,sh⟩,b.keep (fun o e=>k _ o e np.1) (fun o e=>k _ o e (Ne.symm n1)) kt,c.keep (fun o e=>k _ o e np.2) (fun o e=>k _ o e (Ne.symm n2)) (fun o e=>k _ o e (Ne.symm n3)) kt,⟨kvs',k _ _ d1 (Ne.symm n4),d2⟩,⟨vs,k _ _ f1 (Ne.symm n5),f2.keep ko kt⟩,⟨us,k _ _ g1 (Ne.symm n6),g2.keep ko kt⟩,nd,np'⟩,f⟩
theorem Zv.setStd{std:List (Qh×Option Z3)}{us:List V}(h:Zv ca H A S)(hd:H' A.lt=some (.lst us))(ok:Sz ca.sheet (·∉A.fp) H' us std)(k:∀ b o,H b=some o->b≠A.lt->H' b=some o):Zv ca H' A { S with std:=std }/\FrS A H H':=by
 have f:FrS A H H':=.one (by simp[SAd.fp]) k;have kt:=h.tups f;have ko:∀ x o,x∉A.fp->H x=some o->H' x=some o:=fun x o hx e=>f x o e hx;obtain⟨⟨n1,n2,n3,n4,n5,n6⟩,⟨n7,n8,n9,n10,n11⟩,⟨n12,n13,n14,n15⟩,⟨n16,n17,n18⟩,⟨n19,n20⟩,n21⟩:=Im h.nd;have np:=Ko h (show A.lt∈A.fp by simp[SAd.fp]);obtain⟨⟨dx,v,a1,a2⟩,b,c,⟨kvs,d1,d2⟩,⟨vs,f1,f2⟩,⟨us',g1,g2⟩,nd,np'⟩:=h;exact⟨⟨⟨dx,v,k _ _ a1 n6,a2.keep ko kt⟩,b.keep (fun o e=>k _ o e np.1) (fun o e=>k _ o e n11) kt,c.keep (fun o e=>k _ o e np.2) (fun o e=>k _ o e n15) (fun o e=>k _ o e n18) kt,⟨kvs,k _ _ d1 n20,d2⟩,⟨vs,k _ _ f1 n21,f2.keep ko kt⟩,⟨us,hd,ok⟩,nd,np'⟩,f⟩
theorem Zv.setOld{old:List Z3}{us:List V}(h:Zv ca H A S)(hd:H' A.ls=some (.lst us))(ok:ShL ca.sheet (·∉A.fp) H' us old)(k:∀ b o,H b=some o->b≠A.ls->H' b=some o):Zv ca H' A { S with old:=old }/\FrS A H H':=by
 have f:FrS A H H':=.one (by simp[SAd.fp]) k;have kt:=h.tups f;have ko:∀ x o,x∉A.fp->H x=some o->H' x=some o:=fun x o hx e=>f x o e hx;obtain⟨⟨n1,n2,n3,n4,n5,n6⟩,⟨n7,n8,n9,n10,n11⟩,⟨n12,n13,n14,n15⟩,⟨n16,n17,n18⟩,⟨n19,n20⟩,n21⟩:=Im h.nd;have np:=Ko h (show A.ls∈A.fp by simp[SAd.fp]);obtain⟨⟨dx,v,a1,a2⟩,b,c,⟨kvs,d1,d2⟩,⟨vs,f1,f2⟩,⟨us',g1,g2⟩,nd,np'⟩:=h;exact⟨⟨⟨dx,v,k _ _ a1 n5,a2.keep ko kt⟩,b.keep (fun o e=>k _ o e np.1) (fun o e=>k _ o e n10) kt,c.keep (fun o e=>k _ o e np.2) (fun o e=>k _ o e n14) (fun o e=>k _ o e n17) kt,⟨kvs,k _ _ d1 n19,d2⟩,⟨us,hd,ok⟩,⟨us',k _ _ g1 (Ne.symm n21),g2.keep ko kt⟩,nd,np'⟩,f⟩
theorem Zv.setLed(h:Zv ca H A S)(l:U7 ca.ledger H' A.pl A.lr A.ld Rs)(k:∀ b o,H b=some o->b≠A.lr->b≠A.ld->H' b=some o):Zv ca H' A { S with led:=Rs }/\FrS A H H':=by
 have f:FrS A H H':=fun b o e hb=>k b o e (fun z=>hb (by rw[z];simp[SAd.fp])) (fun z=>hb (by rw[z];simp[SAd.fp]));have kt:=h.tups f;have ko:∀ x o,x∉A.fp->H x=some o->H' x=some o:=fun x o hx e=>f x o e hx;obtain⟨⟨n1,n2,n3,n4,n5,n6⟩,⟨n7,n8,n9,n10,n11⟩,⟨n12,n13,n14,n15⟩,⟨n16,n17,n18⟩,⟨n19,n20⟩,n21⟩:=Im h.nd;have np:=Ko h (show A.lr∈A.fp by simp[SAd.fp]);have np2:=Ko h (show A.ld∈A.fp by simp[SAd.fp]);obtain⟨⟨dx,v,a1,a2⟩,b,c,⟨kvs,d1,d2⟩,⟨vs,f1,f2⟩,⟨us',g1,g2⟩,nd,np'⟩:=h;exact⟨⟨⟨dx,v,k _ _ a1 n2 n3,a2.keep ko kt⟩,b.keep (fun o e=>k _ o e np.1 np2.1) (fun o e=>k _ o e n7 n8) kt,l,⟨kvs,k _ _ d1 (Ne.symm n13) (Ne.symm n16),d2⟩,⟨vs,k _ _ f1 (Ne.symm n14) (Ne.symm n17),f2.keep ko kt⟩,⟨us',k _ _ g1 (Ne.symm n15) (Ne.symm n18),g2.keep ko kt⟩,nd,np'⟩,f⟩
theorem Nn:putF "sheet" v' (seaF A l r v)=seaF A l r v':=by
 have n1:¬ (("length":Str)="sheet"):=by decide +kernel
 have n2:¬ (("rest":Str)="sheet"):=by decide +kernel
 have n3:¬ (("roster":Str)="sheet"):=by decide +kernel
 have n4:¬ (("ledger":Str)="sheet"):=by decide +kernel
 have n5:¬ (("absent":Str)="sheet"):=by decide +kernel
 have n6:¬ (("sheets":Str)="sheet"):=by decide +kernel
 simp only[putF,seaF,if_neg n1,if_neg n2,if_neg n3,if_neg n4,if_neg n5,if_neg n6,if_true]
theorem FrS.free(f:FrS A H H')(h:Zv ca H' A S')(hl:H' l=none):H l=none:=by
 cases e:H l with
 | none=>rfl
 | some o =>
   by_cases hm:l∈A.fp
   ·obtain⟨o',e'⟩:=h.there l hm;rw[e'] at hl;cases hl
   ·rw[f l o e hm] at hl;cases hl
theorem ShAt.ins(h:ShAt ca.sheet (·∉A.fp) H q s):∃ dx l1 l2 l3 l4,H q=some (.ins ca.sheet dx (shF l1 l2 l3 l4)):=by
 obtain⟨dx,l1,l2,l3,l4,_,_,_,a1,_⟩:=h;exact⟨dx,l1,l2,l3,l4,a1⟩
theorem Zv.newSheet(h:Zv ca H A S)(hp:H A.p=some (.ins ca.season dx (seaF A S.len S.rest v)))(sh:ShAt ca.sheet (·∉A.fp) H q s) :
  Zv ca (upd H A.p (.ins ca.season dx (putF "sheet" (.ref q) (seaF A S.len S.rest v)))) A { S with cur:=some s }/\FrS A H (upd H A.p (.ins ca.season dx (putF "sheet" (.ref q) (seaF A S.len S.rest v))))/\ShAt ca.sheet (·∉A.fp) (upd H A.p (.ins ca.season dx (putF "sheet" (.ref q) (seaF A S.len S.rest v)))) q s:=by
 have k:∀ b o,H b=some o->b≠A.p->upd H A.p (.ins ca.season dx (putF "sheet" (.ref q) (seaF A S.len S.rest v))) b=some o:=fun b o e n=>by rw[Zh n];exact e
 have sh':=sh.keep (H':=upd H A.p (.ins ca.season dx (putF "sheet" (.ref q) (seaF A S.len S.rest v)))) (fun x o hx e=>k x o e fun z=>hx (by rw[z];simp[SAd.fp])) (fun t xs e=>k t _ e (Xm e hp (fun z=>nomatch z)));obtain⟨h1,h2⟩:=h.setCur (cur:=some s) (v:=.ref q) ⟨dx,by rw[Ze];exact congrArg (fun x=>some (HO.ins ca.season dx x)) Nn⟩ ⟨q,rfl,sh'⟩ k;exact⟨h1,h2,sh'⟩
theorem Gq:putF "standing" (.ref x) (seaF A l r v)=seaF { A with lt:=x } l r v:=by
 have n1:¬ (("length":Str)="standing"):=by decide +kernel
 have n2:¬ (("rest":Str)="standing"):=by decide +kernel
 have n3:¬ (("roster":Str)="standing"):=by decide +kernel
 have n4:¬ (("ledger":Str)="standing"):=by decide +kernel
 have n5:¬ (("absent":Str)="standing"):=by decide +kernel
 have n6:¬ (("sheets":Str)="standing"):=by decide +kernel
 have n7:¬ (("sheet":Str)="standing"):=by decide +kernel
 simp only[putF,seaF,if_neg n1,if_neg n2,if_neg n3,if_neg n4,if_neg n5,if_neg n6,if_neg n7,if_true]
end
def Dh(r q:Nat):Sea:=⟨r,q,[],[],[],[],none,[]⟩
inductive zbk(ca:CA)(vs:List V)(H:Hp)(Q:VK)(E:XK):Prop where
 | mk(p dx:Addr)(r q:Int)(_:vs=[.ref p,.int r,.int q])(_:H p=some (.ins ca.season dx []))(_:Yu r)(_:Yu q)(_:if r<0\/60<r then E (.ref ca.out) none H else if q<0\/10<q then E (.ref ca.out) none H else ∀ A H',A.p=p->Zv ca H' A (Dh r.toNat q.toNat)->(∀ b o,H b=some o->b≠p->H' b=some o)->(∀ x∈A.fp,x≠p->H x=none)->Q .non H')
inductive zbl(ca:CA)(vs:List V)(H:Hp)(Q:VK)(E:XK):Prop where
 | mk(A:SAd)(S:Sea)(n g c:Int)(_:vs=[.ref A.p,.int n,.int g,.int c])(_:Zv ca H A S)(_:Dc n g c)(_:S.std.length<=1000)(_:S.ppl.length<=1000)(_:if S.len<=S.led.length then E (.ref ca.seaOver) none H else if S.cur.isSome then E (.ref ca.drawn) none H else if badI n g c then E (.ref ca.out) none H else if n∈S.ppl.map (·.1) then E (.ref ca.known) none H else if 30<=S.ppl.length then E (.ref ca.many) none H else if 100<=S.std.length then E (.ref ca.manyD) none H else ∀ H',Zv ca H' A { S with ppl:=S.ppl++[(n,g,c)],std:=S.std++[(((("enrol":Str),n,atV S):Qh),S.cur)] }->FrS A H H'->Q .non H')
def V5(S:Sea)(ms:List P3)(gv:List V):Sea:={ S with cur:=some ⟨ms,mayS S ms,gv,[]⟩,std:=S.std++[(((("draw up":Str),(ms.length:Int),atV S):Qh),S.cur)] }
inductive Bn(K:Frag)(ca:CA)(vs:List V)(H:Hp)(Q:VK)(E:XK):Prop where
 | mk(A:SAd)(S:Sea)(b:Addr)(ts:List V)(ms:List P3)(_:vs=[.ref A.p,.ref b])(_:Zv ca H A S)(_:SqL K H b ts)(_:TupL H ts (ms.map pV))(_:(∀ m∈ms,Ik m))(_:ms.length<=1000)(_:S.std.length<=1000)(_:Mi S)(_:if S.len<=S.led.length then E (.ref ca.seaOver) none H else if S.cur.isSome then E (.ref ca.drawn) none H else (20<ms.length->E (.ref ca.manyM) none H)/\(ms.length<=20->S4 ms->E (.ref ca.out) none H)/\(ms.length<=20->¬ S4 ms->Ss ms->E (.ref ca.same) none H)/\(ms.length<=20->¬ S4 ms->¬ Ss ms->(100<=S.std.length->∀ H',Same H H'->E (.ref ca.manyD) none H')/\(S.std.length<100->∀ l gv H',H' l=some (.lst gv)->Zv ca H' A (V5 S ms gv)->Ya (mayS S ms) gv->Wl (mayS S ms) gv->FrS A H H'->H l=none->Q (.ref l) H')))
inductive Bo(ca:CA)(vs:List V)(H:Hp)(Q:VK)(_:XK):Prop where
 | mk(A:SAd)(S:Sea)(n:Int)(s:Z3)(nu:List Int)(_:vs=[.ref A.p,.int n])(_:Zv ca H A S)(_:S.cur=some s)(_:Mi S)(_:s.ms.length<=20)(_:(∀ x∈s.gv,oneV x))(_:s.gv.length<=100)(_:s.gaps.length<=500)(_:Ws (mayS S s.ms) nu)(_:(Wr s.gv n=none->∀ l H',H' l=some (.lst [])->Zv ca H' A { S with cur:=some { s with may:=mayS S s.ms } }->FrS A H H'->H l=none->Q (.ref l) H'))(_:∀ p,Wr s.gv n=some p->s.gv[p]?=some (.int n)/\(∀ j:Nat,s.gv[j]?=some (.int n)->j=p)/\Ya (mayS S s.ms) (s.gv.set p .non)/\∀ l us st e w H',H' l=some (.lst us)->TupL H' us (st.map Wf)->Y2 (mayS S s.ms) (s.gv.set p .non) p st e w->Zv ca H' A { S with cur:=some ⟨s.ms,mayS S s.ms,Yh st (s.gv.set p .non),s.gaps++[(n,st)]⟩ }->FrS A H H'->H l=none->Q (.ref l) H')
def Xk(S:Sea)(i n:Int):Sea:={ S with out:=S.out++[(i,n)],std:=S.std++[((("away":Str),n,i),S.cur)] }
inductive zeu(ca:CA)(vs:List V)(H:Hp)(Q:VK)(E:XK):Prop where
 | mk(A:SAd)(S:Sea)(i n:Int)(_:vs=[.ref A.p,.int i,.int n])(_:Zv ca H A S)(_:Yu i)(_:Yu n)(_:S.std.length<=1000)(_:S.out.length<=100000)(_:Mi S)(_:(∀ s,S.cur=some s->s.ms.length<=20/\Ya s.may s.gv/\s.may=mayS S s.ms/\s.gaps.length<=500))(_:if i<1\/(S.len:Int)<i then E (.ref ca.noRound) none H else if i<=S.led.length then E (.ref ca.over) none H else if n∈S.ppl.map (·.1) then (if (i,n)∈S.out then ∀ H',Same H H'->E (.ref ca.away) none H' else if 100<=S.std.length then ∀ H',Same H H'->E (.ref ca.manyD) none H' else (S.cur=none\/atV S<i->∀ l H',H' l=some (.lst [])->Zv ca H' A (Xk S i n)->FrS A H H'->H l=none->Q (.ref l) H')/\(∀ s,i=atV S->S.cur=some s->Wr s.gv n=none->∀ l H',H' l=some (.lst [])->Zv ca H' A { Xk S i n with cur:=some { s with may:=mayS (Xk S i n) s.ms } }->FrS A H H'->H l=none->Q (.ref l) H')/\(∀ s p,i=atV S->S.cur=some s->Wr s.gv n=some p->∀ l us st e w H',H' l=some (.lst us)->TupL H' us (st.map Wf)->Y2 (mayS (Xk S i n) s.ms) (s.gv.set p .non) p st e w->Zv ca H' A { Xk S i n with cur:=some ⟨s.ms,mayS (Xk S i n) s.ms,Yh st (s.gv.set p .non),s.gaps++[(n,st)]⟩ }->FrS A H H'->H l=none->Q (.ref l) H')) else E (.ref ca.unk) none H)
theorem Pr.put(h:Pr kvs out)(i n:Int):Pr (putK kvs [inl i,inl n] (.bl true)) (out++[(i,n)]):=by
 refine⟨fun j m=>?_,?_⟩
 ·rw[U3];by_cases e:j=i/\m=n
  ·rw[if_pos (Ol.mpr e),zta (by rw[e.1,e.2];simp)];rfl
  ·rw[if_neg (fun z=>e (Ol.mp z)),h.1 j m];by_cases hm:(j,m)∈out
   ·rw[zta hm,zta (ztu _ hm)]
   ·rw[ztd hm,ztd];intro z;rcases ztg.mp z with q|q
    ·exact hm q
    ·have:=zs9.mp q;exact e (by cases this;exact⟨rfl,rfl⟩)
 ·have:=Xr kvs ([inl i,inl n]:List Key) (.bl true);have:=h.2;rw[zs8];show _<=out.length+1;omega
theorem Pr.drop(h:Pr kvs (out++[(i,n)]))(hn:(i,n)∉out):Pr (X5 kvs [inl i,inl n]) out:=by
 have hv:∀ k:List Key,valV (X5 kvs [inl i,inl n]) k=if k=[inl i,inl n] then none else valV kvs k:=fun k=>by
  clear h
  induction kvs with
  | nil=>unfold X5;simp[valV]
  | cons x kvs ih =>
    by_cases ex:x.1=[inl i,inl n]
    ·rw[zcb ex,ih];by_cases e:k=[inl i,inl n]
     ·rw[if_pos e,if_pos e]
     ·rw[if_neg e,if_neg e,Yy (fun z=>e (z.symm.trans ex))]
    ·rw[zcc ex];by_cases ek:x.1=k
     ·rw[Xa ek,Xa ek,if_neg (fun z=>ex (ek.trans z))]
     ·rw[Yy ek,Yy ek,ih]
 refine⟨fun j m=>?_,?_⟩
 ·rw[hv];by_cases e:j=i/\m=n
  ·rw[if_pos (Ol.mpr e),ztd (by rw[e.1,e.2];exact hn)];rfl
  ·rw[if_neg (fun z=>e (Ol.mp z)),h.1 j m];by_cases hm:(j,m)∈out
   ·rw[zta hm,zta (ztu _ hm)]
   ·rw[ztd hm,ztd];intro z;rcases ztg.mp z with q|q
    ·exact hm q
    ·have:=zs9.mp q;exact e (by cases this;exact⟨rfl,rfl⟩)
 ·have h1:=h.1 i n;rw[zta (show (i,n)∈out++[(i,n)] by simp)] at h1;have h2:=h.2;rw[zs8] at h2;have h2:kvs.length<=out.length+1:=h2;have h3:(X5 kvs [inl i,inl n]).length<kvs.length:=by
   unfold X5;rw[List.length_filter_lt_length_iff_exists];obtain⟨v,hv'⟩:=zuw.mp h1;unfold valV at hv';obtain⟨x,hx,_⟩:=Option.map_eq_some_iff.mp hv';refine⟨x,List.mem_of_find?_eq_some hx,?_⟩;have:=List.find?_some hx;intro z;exact of_decide_eq_true z (of_decide_eq_true this)
  omega
theorem Qj(h:Wr gv n=some p):gv[p]?=some (.int n):=by
 unfold Wr at h;have h2:decide (gv[p]?=some (V.int n))=true:=List.find?_some (p:=fun i=>decide (gv[i]?=some (V.int n))) h;exact of_decide_eq_true h2
theorem V6:mayS (Xk S (atV S) n) ms=without (mayS S ms) n:=by
 unfold mayS without;rw[zud];refine zun fun m _=>?_;show mayM (Xk S (atV S) n) m=(mayM S m).filter fun x=>decide (x≠n);unfold mayM;rw[zve,List.filter_filter]
 congr 1
 refine zuz fun x _=>?_;show (Ku S.led x.1 x.2.1 x.2.2 m.1 m.2.1 m.2.2 (pIn (S.out++[(atV S,n)]) (atV S) x) S.rest).isEmpty=(decide (x.1≠n)&&(Ku S.led x.1 x.2.1 x.2.2 m.1 m.2.1 m.2.2 (pIn S.out (atV S) x) S.rest).isEmpty);unfold pIn;by_cases e:x.1=n
 ·have h1:decide ((atV S,x.1)∈S.out++[(atV S,n)])=true:=zta (by rw[e];simp);rw[h1,ztd (fun z=>z e),Bool.false_and];unfold Ku bw;simp
 ·have h1:decide ((atV S,x.1)∈S.out++[(atV S,n)])=decide ((atV S,x.1)∈S.out):=by
   by_cases hm:(atV S,x.1)∈S.out
   ·rw[zta hm,zta (ztu _ hm)]
   ·rw[ztd hm,ztd];intro z;rcases ztg.mp z with q|q
    ·exact hm q
    ·have:=zs9.mp q;cases this;exact e rfl
  rw[h1,zta e,Bool.true_and]
def Mj(S:Sea)(s:Z3):Sea:={ S with led:=S.led++[Xz s],old:=S.old++[s],cur:=none,std:=[] }
inductive zbm(ca:CA)(vs:List V)(H:Hp)(Q:VK)(E:XK):Prop where
 | mk(A:SAd)(S:Sea)(_:vs=[.ref A.p])(_:Zv ca H A S)(_:2*(tot S.led+1000)<=100000)(_:S.led.length<=1000)(_:S.old.length<=1000)(_:(∀ s,S.cur=some s->(∀ x∈s.gv,oneV x)/\s.gv.length=s.ms.length/\s.ms.length<=1000))(_:if S.len<=S.led.length then E (.ref ca.seaOver) none H else (S.cur=none->E (.ref ca.notDrawn) none H)/\∀ s x H',S.cur=some s->Zv ca H' { A with lt:=x } (Mj S s)->FrS A H H'->H x=none->Q (.int (atV S)) H')
theorem Zv.freshStd(h:Zv ca H A S)(hx:H x=none)(hp:H A.p=some (.ins ca.season dx (seaF A S.len S.rest v)))(hv:ShO ca.sheet (·∉A.fp) H v S.cur)
  (e:H'=upd (upd H x (.lst [])) A.p (.ins ca.season dx (putF "standing" (.ref x) (seaF A S.len S.rest v)))):Zv ca H' { A with lt:=x } { S with std:=[] }/\FrS A H H':=by
 have hpx:A.p≠x:=Zg hp hx;have k:∀ b o,H b=some o->b≠A.p->H' b=some o:=fun b o q n=>by rw[e,Zh n,Zh (Zg q hx)];exact q
 have f:FrS A H H':=.one (by simp[SAd.fp]) k;have kt:=h.tups f;have hnx:∀ y,(∃ o,H y=some o)->y≠x:=fun y ⟨o,q⟩=>Zg q hx;have okk:∀ y,(∃ o,H' y=some o)->y∉A.fp->(∃ o,H y=some o)->y∉({ A with lt:=x }:SAd).fp:=fun y _ hy hH hm=>by
  simp only[SAd.fp,ztf,zue,or_false] at hm hy;rcases hm with q|q|q|q|q|q|q
  ·exact hy (.inl q)
  ·exact hy (.inr (.inl q))
  ·exact hy (.inr (.inr (.inl q)))
  ·exact hy (.inr (.inr (.inr (.inl q))))
  ·exact hy (.inr (.inr (.inr (.inr (.inl q)))))
  ·exact hy (.inr (.inr (.inr (.inr (.inr (.inl q))))))
  ·exact hnx y hH q
 have ok2:∀ y,(∃ o,H y=some o)->y∉A.fp->y∉({ A with lt:=x }:SAd).fp:=fun y hH hy hm=>by
  simp only[SAd.fp,ztf,zue,or_false] at hm hy;rcases hm with q|q|q|q|q|q|q
  ·exact hy (.inl q)
  ·exact hy (.inr (.inl q))
  ·exact hy (.inr (.inr (.inl q)))
  ·exact hy (.inr (.inr (.inr (.inl q))))
  ·exact hy (.inr (.inr (.inr (.inr (.inl q)))))
  ·exact hy (.inr (.inr (.inr (.inr (.inr (.inl q))))))
  ·exact hnx y hH q
 have ko:∀ y o,y∉({ A with lt:=x }:SAd).fp->H y=some o->H' y=some o:=fun y o hy q=>k y o q fun z=>hy (by rw[z];simp[SAd.fp]);have there:=h.there;obtain⟨⟨n1,n2,n3,n4,n5,n6⟩,⟨n7,n8,n9,n10,n11⟩,⟨n12,n13,n14,n15⟩,⟨n16,n17,n18⟩,⟨n19,n20⟩,n21⟩:=Im h.nd;have np:=Ko h (show A.p∈A.fp by simp[SAd.fp]);have npp:=h.np;obtain⟨⟨dx',v',a1,a2⟩,b,c,⟨kvs',d1,d2⟩,⟨vs,f1,f2⟩,⟨us,g1,g2⟩,nd,np'⟩:=h;have hpr:∃ o,H A.pr=some o:=by obtain⟨⟨_,_,q,_⟩,_⟩:=b;exact⟨_,q⟩
 have hpl:∃ o,H A.pl=some o:=by obtain⟨⟨_,q⟩,_⟩:=c;exact⟨_,q⟩
 refine⟨⟨⟨dx,v,?_,(hv.imp ok2).keep ko kt⟩,b.keep (fun o q=>k _ o q np.1) (fun o q=>k _ o q (Ne.symm n1)) kt,c.keep (fun o q=>k _ o q np.2) (fun o q=>k _ o q (Ne.symm n2)) (fun o q=>k _ o q (Ne.symm n3)) kt,⟨kvs',k _ _ d1 (Ne.symm n4),d2⟩,⟨vs,k _ _ f1 (Ne.symm n5),(f2.imp ok2).keep ko kt⟩,⟨[],?_,?_⟩,?_,⟨ok2 _ hpr npp.1,ok2 _ hpl npp.2⟩⟩,f⟩
 ·rw[e,Ze];exact congrArg (fun z=>some (HO.ins ca.season dx z)) Gq
 ·show H' x=some (.lst []);rw[e,Zh (Ne.symm hpx),Ze]
 ·exact .nil
 ·show [A.p,A.dr,A.lr,A.ld,A.da,A.ls,x].Nodup;have m:∀ y∈A.fp,y≠x:=fun y hy=>hnx y (there y hy);simp only[zt0,ztf,zue,or_false,not_or];exact⟨⟨n1,n2,n3,n4,n5,m _ (by simp[SAd.fp])⟩,⟨n7,n8,n9,n10,m _ (by simp[SAd.fp])⟩,⟨n12,n13,n14,m _ (by simp[SAd.fp])⟩,⟨n16,n17,m _ (by simp[SAd.fp])⟩,⟨n19,m _ (by simp[SAd.fp])⟩,m _ (by simp[SAd.fp]),by simp,zuy⟩
def A8(S:Sea)(d:Qh)(ppl:RL)(out:List (Int×Int)):Prop:=(d.1="enrol"/\(∃ g c,S.ppl=ppl++[(d.2.1,g,c)])/\out=S.out)\/(d.1="away"/\ppl=S.ppl/\S.out=out++[(d.2.2,d.2.1)]/\(d.2.2,d.2.1)∉out)\/(d.1="draw up"/\ppl=S.ppl/\out=S.out)
inductive Io(ca:CA)(vs:List V)(H:Hp)(Q:VK)(E:XK):Prop where
 | mk(A:SAd)(S:Sea)(_:vs=[.ref A.p])(_:Zv ca H A S)(_:(S.std=[]->E (.ref ca.nothing) none H))(_:∀ std d s,S.std=std++[(d,s)]->∃ ppl out,A8 S d ppl out/\∀ t H',H' t=some (.tup (Q3 d))->Zv ca H' A { S with ppl:=ppl,out:=out,cur:=s,std:=std }->FrS A H H'->Q (.ref t) H')
def Jo(ca:CA)(H:Hp)(S:Sea)(i:Int)(E:XK)(k:Z3->Prop):Prop:=Yu i/\S.old.length=S.led.length/\if i<1\/(S.len:Int)<i then E (.ref ca.noRound) none H else (V4 S i=none->E (.ref ca.notDrawn) none H)/\∀ s,V4 S i=some s->k s
inductive Dj(ca:CA)(vs:List V)(H:Hp)(Q:VK)(E:XK):Prop where
 | mk(A:SAd)(S:Sea)(i:Int)(_:vs=[.ref A.p,.int i])(_:Zv ca H A S)(_:Jo ca H S i E fun s=>∀ l H',H' l=some (.lst s.gv)->Same H H'->H l=none->Q (.ref l) H')
inductive zgq(ca:CA)(vs:List V)(H:Hp)(Q:VK)(E:XK):Prop where
 | mk(A:SAd)(S:Sea)(i:Int)(_:vs=[.ref A.p,.int i])(_:Zv ca H A S)(_:Jo ca H S i E fun s=>(∃ nu,Ws s.may nu)/\Ya s.may s.gv/\C6 s.may s.gv/\∀ t lp lr ps rs H',H' t=some (.tup [.ref lp,.ref lr])->H' lp=some (.lst (Yc ps))->H' lr=some (.lst (rs.map V.int))->Ig s.may s.gv ps rs->Same H H'->H t=none->H lp=none->H lr=none->lp≠lr->Q (.ref t) H')
inductive Bp(ca:CA)(vs:List V)(H:Hp)(Q:VK)(E:XK):Prop where
 | mk(A:SAd)(S:Sea)(i:Int)(_:vs=[.ref A.p,.int i])(_:Zv ca H A S)(_:Jo ca H S i E fun s=>s.gaps.length<=1000/\∀ l ts H',H' l=some (.lst ts)->Wg (fun x=>H x=none/\x≠l) H' ts s.gaps->Same H H'->H l=none->Q (.ref l) H')
inductive zgr(ca:CA)(vs:List V)(H:Hp)(Q:VK)(E:XK):Prop where
 | mk(A:SAd)(S:Sea)(i:Int)(_:vs=[.ref A.p,.int i])(_:Zv ca H A S)(_:Yu i)(_:(S.cur=none->E (.ref ca.notDrawn) none H))(_:∀ s,S.cur=some s->s.may.length=s.ms.length/\(i<0\/(s.ms.length:Int)<=i->E (.ref ca.noMatch) none H)/\∀ (k:Nat) r,i=(k:Int)->s.may[k]?=some r->∀ l H',H' l=some (.lst (r.map V.int))->Same H H'->H l=none->Q (.ref l) H')
theorem T1(ks:List Str):∀ {fs:List (Str×V)},fs.map (·.1)=ks->(ks.all fun x=>!decide (x=f))=true->putF f v fs=fs++[(f,v)]:=by
 intro fs hk h;subst hk
 induction fs with
 | nil=>rfl
 | cons x fs ih =>
   rw[ztm,List.all_cons,zus,zvb,decide_eq_false_iff_not] at h;obtain⟨k,y⟩:=x;show (if k=f then _ else _)=_;rw[if_neg h.1,ih h.2];rfl
def sF1(l:V):List (Str×V):=[("length",l)]
def sF2(l r:V):List (Str×V):=[("length",l),("rest",r)]
def sF3(l r a:V):List (Str×V):=[("length",l),("rest",r),("roster",a)]
def sF4(l r a b:V):List (Str×V):=[("length",l),("rest",r),("roster",a),("ledger",b)]
def sF5(l r a b c:V):List (Str×V):=[("length",l),("rest",r),("roster",a),("ledger",b),("absent",c)]
def sF6(l r a b c d:V):List (Str×V):=[("length",l),("rest",r),("roster",a),("ledger",b),("absent",c),("sheets",d)]
def sF7(l r a b c d e:V):List (Str×V):=[("length",l),("rest",r),("roster",a),("ledger",b),("absent",c),("sheets",d),("sheet",e)]
def sF8(l r a b c d e f:V):List (Str×V):=[("length",l),("rest",r),("roster",a),("ledger",b),("absent",c),("sheets",d),("sheet",e),("standing",f)]
theorem pF1:putF "length" l []=sF1 l:=rfl
theorem pF2:putF "rest" r (sF1 l)=sF2 l r:=T1 ["length"] rfl ⋯
theorem pF3:putF "roster" a (sF2 l r)=sF3 l r a:=T1 ["length","rest"] rfl ⋯
theorem pF4:putF "ledger" b (sF3 l r a)=sF4 l r a b:=T1 ["length","rest","roster"] rfl ⋯
theorem pF5:putF "absent" c (sF4 l r a b)=sF5 l r a b c:=T1 ["length","rest","roster","ledger"] rfl ⋯
theorem pF6:putF "sheets" d (sF5 l r a b c)=sF6 l r a b c d:=T1 ["length","rest","roster","ledger","absent"] rfl ⋯
theorem pF7:putF "sheet" e (sF6 l r a b c d)=sF7 l r a b c d e:=T1 ["length","rest","roster","ledger","absent","sheets"] rfl ⋯
theorem pF8:putF "standing" f (sF7 l r a b c d e)=sF8 l r a b c d e f:=T1 ["length","rest","roster","ledger","absent","sheets","sheet"] rfl ⋯
theorem V7.free{p:Addr}{H H':Hp}{x:Addr}(hb:∀ b o,H b=some o->b≠p->H' b=some o)(hp:∃ o,H' p=some o)(hx:H' x=none):H x=none:=by
 cases e:H x with
 | none=>rfl
 | some o =>
   by_cases z:x=p
   ·subst z;obtain⟨o',q⟩:=hp;rw[q] at hx;cases hx
   ·rw[hb x o e z] at hx;cases hx
def V7(p:Addr)(H H':Hp):Prop:=∀ b o,H b=some o->b≠p->H' b=some o
theorem V7.trans(a:V7 p H1 H2)(b:V7 p H2 H3):V7 p H1 H3:=fun x o e n=>b x o (a x o e n) n
theorem V7.of(a:Same H1 H2):V7 p H1 H2:=fun x o e _=>a x o e
theorem V7.put:V7 p H (upd H p o):=fun x o e n=>by rw[Zh n];exact e
end G
namespace G
open PySem PySem.Spec PyProof.Rows L2
structure zh7(H:Hp)(t lc ln:Addr)(cs nu:List Int):Prop where
 tup:H t=some (.tup [.ref lc,.ref ln])
 clubs:H lc=some (.lst (cs.map V.int))
 nums:H ln=some (.lst (nu.map V.int))
 few:3<=cs.length/\cs.length<=10
 cnd:cs.Nodup
 crng:∀ c∈cs,1<=c/\c<=99
 nfew:1<=nu.length/\nu.length<=30
 nnd:nu.Nodup
 nrng:∀ n∈nu,1<=n/\n<=999
inductive V8 where
 | enrol (n g c:Int)|away (i n:Int)|draw (ms:List P3)|close|back
def zh8(ok:Addr->Prop)(H:Hp)(t:Addr):V8->Prop
 | .enrol n g c=>H t=some (.tup [.str "enrol",.int n,.int g,.int c])
 | .away i n=>H t=some (.tup [.str "away",.int i,.int n])
 | .draw ms=>∃ l ts,H t=some (.tup [.str "draw up",.ref l])/\H l=some (.lst ts)/\TupL H ts (ms.map pV)/\ok l
 | .close=>H t=some (.tup [.str "close"])
 | .back=>H t=some (.tup [.str "take back"])
def zjs(S:Sea):Prop:=∀ s,S.cur=some s->s.ms.length<=20/\Ya s.may s.gv/\Wl s.may s.gv/\s.may=mayS S s.ms/\s.gaps.length<=S.std.length
def Pt(S S':Sea):Prop:=∃ d:Qh,S'.std=S.std++[(d,S.cur)]/\A8 S' d S.ppl S.out/\S'.len=S.len/\S'.rest=S.rest/\S'.led=S.led/\S'.old=S.old
def Bq(S:Sea):V8->Prop
 | .enrol n g c=>S.led.length<S.len/\S.cur=none/\¬ badI n g c/\n∉S.ppl.map (·.1)/\S.ppl.length<30
 | .away i n=>(S.led.length:Int)<i/\i<=S.len/\n∈S.ppl.map (·.1)/\(i,n)∉S.out
 | .draw ms=>S.led.length<S.len/\S.cur=none/\ms.length<=20/\(∀ m∈ms,¬ badM m)/\∀ m∈ms,m.1≠m.2.1
 | .close=>S.led.length<S.len/\S.cur≠none
 | .back=>S.std≠[]
inductive Ry(H':Hp)(S:Sea):V8->Sea->V->Prop where
 | enrol (n g c:Int):Ry H' S (.enrol n g c) { S with ppl:=S.ppl++[(n,g,c)],std:=S.std++[(((("enrol":Str),n,atV S):Qh),S.cur)] } .non
 | awayN {i n:Int} {l:Addr} (h:S.cur=none\/atV S<i) (hl:H' l=some (.lst [])):Ry H' S (.away i n) (Xk S i n) (.ref l)
 | awayF {n:Int} {s:Z3} {l:Addr} (h:S.cur=some s) (hp:Wr s.gv n=none) (hl:H' l=some (.lst [])):Ry H' S (.away (atV S) n) { Xk S (atV S) n with cur:=some { s with may:=mayS (Xk S (atV S) n) s.ms } } (.ref l)
 | awayC {n:Int} {s:Z3} {p e:Nat} {l:Addr} {us:List V} {st:List (Nat×Option Int)} {w:Option Int} (h:S.cur=some s) (hp:Wr s.gv n=some p) (hl:H' l=some (.lst us)) (tl:TupL H' us (st.map Wf)) (CR:Y2 (mayS (Xk S (atV S) n) s.ms) (s.gv.set p .non) p st e w) :
   Ry H' S (.away (atV S) n) { Xk S (atV S) n with cur:=some ⟨s.ms,mayS (Xk S (atV S) n) s.ms,Yh st (s.gv.set p .non),s.gaps++[(n,st)]⟩ } (.ref l)
 | draw {ms:List P3} {gv:List V} {l:Addr} (hl:H' l=some (.lst gv)) (F:Ya (mayS S ms) gv) (T:Wl (mayS S ms) gv):Ry H' S (.draw ms) (V5 S ms gv) (.ref l)
 | close {s:Z3} (h:S.cur=some s):Ry H' S .close (Mj S s) (.int (atV S))
 | back {S0:Sea} {d:Qh} {t:Addr} (h:S.std=S0.std++[(d,S0.cur)]) (ht:H' t=some (.tup (Q3 d))) (hs:Pt S0 S):Ry H' S .back S0 (.ref t)
def Br(A A':SAd)(H:Hp):Prop:=∃ x,A'={ A with lt:=x }/\(x=A.lt\/H x=none)
abbrev Ml(b:List Stmt)(i:Nat):Stmt:=b.getD i (.Pass ⟨0,0,0,0⟩)
def stP:Stmt->Pos|.Return _ p=>p|.Assign _ _ p=>p|_=>⟨0,0,0,0⟩
def zjt:Stmt->List Expr|.Assign ts _ _=>ts|_=>[]
def Bs:Stmt->Expr|.Assign _ v _=>v|_=>.Constant .none 0 ⟨0,0,0,0⟩
def zgb:Expr->Expr|.Subscript a _ _=>a|e=>e
def zju:Expr->Expr|.Subscript _ b _=>b|e=>e
def zjv:Expr->Pos|.Subscript _ _ p=>p|_=>⟨0,0,0,0⟩
def zjw:Expr->List Expr|.List es _=>es|_=>[]
def zjx:Expr->Pos|.List _ p=>p|_=>⟨0,0,0,0⟩
def zgs:List Int->TA
 | []=>tNil
 | x :: xs=>zao (tC (.int x)) (zgs xs)
structure zew(es:List Expr)(xs:List Int):Prop where
 len:es.length=xs.length
 same:List.zipWith (fun i (e:Expr)=>Expr.Constant (.int i) 0 e.pos) xs es=es
theorem zbn(xs:List Int)(h:zew es xs):PA X es (zgs xs):=by
 obtain⟨h1,h2⟩:=h
 induction xs generalizing es with
 | nil =>
   have:=List.length_eq_zero_iff.mp h1;subst this;exact Zc
 | cons x xs ih =>
   cases es with
   | nil=>cases h1
   | cons e es =>
     rw[List.zipWith_cons_cons] at h2;obtain⟨e1,e2⟩:=List.cons.inj h2;rw[<- e1];exact Za Zf (ih (Nat.succ.inj h1) e2) rfl
theorem Br.refl(A:SAd)(H:Hp):Br A A H:=⟨A.lt,rfl,.inl rfl⟩
abbrev zh9:=List (Int×List (Nat×Option Int))
structure Pg where
 len:Nat
 rest:Nat
 ppl:RL
 out:List (Int×Int)
 over:List Z3
 deed:Option Qh
 lis:Option (List P3)
 gv:List V
 mv:zh9
def pgF(len rest:Nat)(lp lo lv:Addr)(dv li:V)(lg lm:Addr):List (Key×V):=[(.inr "rounds",.int len),(.inr "rest",.int rest),(.inr "people",.ref lp),(.inr "out",.ref lo),(.inr "over",.ref lv),(.inr "deed",dv),(.inr "listed",li),(.inr "goes",.ref lg),(.inr "moves",.ref lm)]
def oiV(x:Int×Int):List V:=[.int x.1,.int x.2]
def zia(ok:Addr->Prop)(H:Hp)(v:V):Option (List P3)->Prop
 | none=>v=.non
 | some ms=>∃ l ts,v=.ref l/\H l=some (.lst ts)/\TupL H ts (ms.map pV)/\ok l
def zgt(H:Hp)(v:V):Option Qh->Prop
 | none=>v=.non
 | some d=>∃ t,v=.ref t/\H t=some (.tup (Q3 d))
inductive Bt(ok:Addr->Prop)(H:Hp):List V->List Z3->Prop where
 | nil:Bt ok H [] []
 | cons {t l g m y:Addr} {ts mts:List V} {ls:List Addr} {s:Z3} {vs:List V} {ss:List Z3} (h:H t=some (.tup [.ref l,.ref g,.ref m,.ref y])) (hl:H l=some (.lst ts)) (tl:TupL H ts (s.ms.map pV)) (hg:H g=some (.lst s.gv)) (hm:H m=some (.lst mts)) (gm:Wg ok H mts s.gaps)
   (hy:H y=some (.lst (ls.map V.ref))) (iy:ILs H ls s.may) (o:ok l/\ok g/\ok m/\ok y/\∀ x∈ls,ok x) (r:Bt ok H vs ss):Bt ok H (.ref t :: vs) (s :: ss)
structure zex(ok:Addr->Prop)(H:Hp)(d:Addr)(P:Pg):Prop where
 ex:∃ lp lo lv dv li lg lm pts ots vts mts,H d=some (.dK (pgF P.len P.rest lp lo lv dv li lg lm))/\H lp=some (.lst pts)/\TupL H pts (P.ppl.map pV)/\H lo=some (.lst ots)/\TupL H ots (P.out.map oiV)/\H lv=some (.lst vts)/\Bt ok H vts P.over/\zgt H dv P.deed/\zia ok H li P.lis/\H lg=some (.lst P.gv)/\H lm=some (.lst mts)/\Wg ok H mts P.mv /\
  (ok d/\ok lp/\ok lo/\ok lv/\ok lg/\ok lm)
theorem Uu{α:Type}{l:List α}{j:Nat}{x:α}(h:l[j]?=some x):l.take (j+1)=l.take j++[x]:=by rw[zuf,h];rfl
end G
namespace G
open PySem PySem.Spec PyProof.Rows L2
structure PgB(ok:Addr->Prop)(H:Hp)(P:Pg)(lp lo lv:Addr)(dv li:V)(lg lm:Addr):Prop where
 pp:∃ pts,H lp=some (.lst pts)/\TupL H pts (P.ppl.map pV)/\ok lp
 oo:∃ ots,H lo=some (.lst ots)/\TupL H ots (P.out.map oiV)/\ok lo
 vv:∃ vts,H lv=some (.lst vts)/\Bt ok H vts P.over/\ok lv
 dd:zgt H dv P.deed
 li:zia ok H li P.lis
 gg:H lg=some (.lst P.gv)/\ok lg
 mm:∃ mts,H lm=some (.lst mts)/\Wg ok H mts P.mv/\ok lm
theorem Kp{K:Frag}{H:Hp}:∀ ns:List Int,Rr K H (ns.map V.int) (ns.map Dt.int)
 | []=>.nil
 | w :: ws=>.cons (.int w) (Kp ws)
theorem Bu{K:Frag}{σ:L2.St}{H:Hp}{i:Nat}{l:Addr}{ns:List Int}(hv:σ[i]?=some (some (.ref l)))(hl:H l=some (.lst (ns.map V.int))):Gr (zdf (tOp (rEqD K true) (tVar i) (tLst tNil))) σ H (!ns.isEmpty):=fun Q q=>by
 refine⟨_,hv,zt6 _,fun le hle=>?_⟩;have s:=Zo (o:=.lst []) hle;refine⟨_,_,.lst (SqL.of (s _ _ hl)) (Kp _),.lst (SqL.of Ze) .nil,Mb _,Jl,_,rfl,?_⟩;rw[if_pos rfl,Jm];exact q _ s
def zgu(mb:Bool)(s:Z3):Z3:=if mb then s else { s with gaps:=[] }
structure zib(mb:Bool)(P:Pg)(S:Sea):Prop where
 len:P.len=S.len
 rest:P.rest=S.rest
 ppl:P.ppl=S.ppl
 out:P.out=S.out
 over:P.over.map (zgu mb)=S.old.map (zgu mb)
 lis:P.lis=S.cur.map (·.ms)
def zjy(S:Sea):zh9:=match S.cur with|some s=>s.gaps|none=>[]
structure Rel(mb:Bool)(P:Pg)(S:Sea):Prop where
 b:zib mb P S
 gv:∀ s,S.cur=some s->P.gv=s.gv
 mv:mb=true->P.mv=zjy S
structure SOk(nu:List Int)(n:Nat)(S:Sea):Prop where
 cur:zjs S
 nd:(S.ppl.map (·.1)).Nodup
 ppl:∀ x∈S.ppl,x.1∈nu/\¬ badI x.1 x.2.1 x.2.2
 few:S.ppl.length<=30
 led:S.led=S.old.map Xz
 old:∀ s∈S.old,s.ms.length<=20/\s.gv.length=s.ms.length/\∀ x∈s.gv,oneV x
 len:S.led.length<=S.len/\S.len<=60/\S.rest<=10
 lt:S.cur≠none->S.led.length<S.len
 num:S.out.length<=n/\S.std.length<=n
 gp:∀ s,S.cur=some s\/s∈S.old->s.gaps.length<=n/\∀ x∈s.gaps,x.2.length<=100
theorem SOk.mono(h:SOk nu n S)(e:n<=m):SOk nu m S:=⟨h.cur,h.nd,h.ppl,h.few,h.led,h.old,h.len,h.lt,⟨ztk h.num.1 e,ztk h.num.2 e⟩,fun s hs=>⟨ztk (h.gp s hs).1 e,(h.gp s hs).2⟩⟩
theorem SOk.pok(h:SOk nu n S):Mi S:=⟨fun x hx=>(h.ppl x hx).2,h.few⟩
theorem SOk.olen(h:SOk nu n S):S.old.length=S.led.length:=by rw[h.led,zs4]
theorem zey:∀ (Rs:List (List Row)),(∀ rs∈Rs,rs.length<=k)->tot Rs<=k*Rs.length
 | [],_=>by simp[tot]
 | rs :: Rs,h=>by
   have h1:=h rs (ztz);have h2:=zey Rs fun x hx=>h x (ztx _ hx);unfold tot at *;simp only[ztm,List.sum_cons,ztt,Nat.mul_succ];omega
theorem SOk.tot(h:SOk nu n S):G.tot S.led<=1200:=by
 have h1:=zey (k:=20) S.led fun rs hrs=>by
  rw[h.led] at hrs;obtain⟨s,hs,rfl⟩:=zte.mp hrs;have:=h.old s hs;unfold Xz;rw[List.length_zipWith];omega
 have:=h.len;omega
theorem zcw(F:Ya rows gs)(hn:∀ i:Nat,gs[i]?≠some (V.int n)):Ya (without rows n) gs:=by
 refine⟨by unfold without;rw[zs4];exact F.len,F.one,fun k m h=>?_,F.inj⟩;obtain⟨r,h1,h2⟩:=F.may k m h;refine⟨r.filter fun x=>decide (x≠n),by unfold without;rw[zs7,h1];rfl,zt1.mpr ⟨h2,?_⟩⟩;refine zta fun z=>hn k ?_;rw[h,z]
theorem A9(T:Wl rows gs):Wl (without rows n) gs:=fun p hp=>by
 obtain⟨S,h1,h2⟩:=T p hp;refine⟨S,h1,fun q hq=>⟨by unfold without;rw[zs4];exact(h2 q hq).1,fun r hr m hm=>?_⟩⟩;unfold without at hr;rw[zs7] at hr;obtain⟨r0,e1,rfl⟩:=Option.map_eq_some_iff.mp hr;exact(h2 q hq).2 r0 e1 m (zt1.mp hm).1
theorem zcx(h:atV S<i)(ms:List P3):mayS (Xk S i n) ms=mayS S ms:=by
 unfold mayS;refine zun fun m _=>?_;unfold mayM;have:∀ x:P3,pIn (Xk S i n).out (atV (Xk S i n)) x=pIn S.out (atV S) x:=fun x=>by
  show decide ((atV S,x.1)∈S.out++[(i,n)])=decide ((atV S,x.1)∈S.out);have:((atV S,x.1)∈S.out++[(i,n)])↔((atV S,x.1)∈S.out):=by
   simp only[ztg,zs9,Prod.mk.injEq];constructor
   ·rintro(h|⟨h,_⟩)
    ·exact h
    ·omega
   ·exact .inl
  exact decide_eq_decide.mpr this
 simp only[this];rfl
theorem Pu(o:SOk nu n S)(g:Bq S D)(af:Ry H' S D S' v)(hb:D≠.back)(hn:∀ k gr c,D=.enrol k gr c->k∈nu):SOk nu (n+1) S'/\((D=.close/\S'.std=[]/\S'.cur=none)\/(D≠.close/\Pt S S')):=by
 obtain⟨n1,n2⟩:=o.num;cases af with
 | enrol k gr c =>
   obtain⟨g1,g2,g3,g4,g5⟩:=g;refine⟨⟨fun s hs=>?_,?_,fun x hx=>?_,?_,o.led,o.old,o.len,fun _=>g1,⟨?_,?_⟩,fun s hs=>⟨zuq (o.gp s hs).1,(o.gp s hs).2⟩⟩,.inr ⟨nofun,(("enrol":Str),k,atV S),rfl,.inl ⟨rfl,⟨gr,c,rfl⟩,rfl⟩,rfl,rfl,rfl,rfl⟩⟩
   ·have hs:S.cur=some s:=hs;rw[g2] at hs;cases hs
   ·show (List.map (·.1) (S.ppl++[(k,gr,c)])).Nodup;rw[zti,List.nodup_append];refine⟨o.nd,by simp,fun x hx y hy=>?_⟩;rw[ztm,List.map_nil,zs9] at hy;subst hy;rintro rfl;exact g4 hx
   ·rcases ztg.mp hx with hx|hx
    ·exact o.ppl x hx
    ·rw[zs9.mp hx];exact⟨hn k gr c rfl,g3⟩
   ·show (S.ppl++[(k,gr,c)]).length<=30;rw[zs8];show S.ppl.length+1<=30;omega
   ·show S.out.length<=n+1;omega
   ·show (S.std++[_]).length<=n+1;rw[zs8];show S.std.length+1<=n+1;omega
 | @awayN i k l h hl =>
   obtain⟨g1,g2,g3,g4⟩:=g;refine⟨⟨fun s hs=>?_,o.nd,o.ppl,o.few,o.led,o.old,o.len,o.lt,⟨?_,?_⟩,fun s hs=>⟨zuq (o.gp s hs).1,(o.gp s hs).2⟩⟩,.inr ⟨nofun,(("away":Str),k,i),rfl,.inr (.inl ⟨rfl,rfl,rfl,g4⟩),rfl,rfl,rfl,rfl⟩⟩
   ·have hs:S.cur=some s:=hs;rcases h with h|h
    ·rw[h] at hs;cases hs
    ·obtain⟨c1,c2,c3,c4,c5⟩:=o.cur s hs;refine⟨c1,c2,c3,by rw[zcx h];exact c4,?_⟩;show s.gaps.length<=(S.std++[_]).length;rw[zs8];omega
   ·show (S.out++[_]).length<=n+1;rw[zs8];show S.out.length+1<=n+1;omega
   ·show (S.std++[_]).length<=n+1;rw[zs8];show S.std.length+1<=n+1;omega
 | @awayF k s l h hp hl =>
   obtain⟨g1,g2,g3,g4⟩:=g;obtain⟨c1,c2,c3,c4,c5⟩:=o.cur s h;refine⟨⟨fun s' hs=>?_,o.nd,o.ppl,o.few,o.led,o.old,o.len,fun _=>o.lt (by rw[h];exact nofun),⟨?_,?_⟩,fun s' hs=>?_⟩,.inr ⟨nofun,(("away":Str),k,atV S),rfl,.inr (.inl ⟨rfl,rfl,rfl,g4⟩),rfl,rfl,rfl,rfl⟩⟩
   ·have hs:some { s with may:=mayS (Xk S (atV S) k) s.ms }=some s':=hs;cases hs;have hno:∀ i:Nat,s.gv[i]?≠some (V.int k):=by
     rcases Kj s.gv k with z|⟨i,z,_⟩
     ·exact z.2
     ·rw[hp] at z;cases z
    refine⟨c1,?_,?_,rfl,?_⟩
    ·show Ya (mayS (Xk S (atV S) k) s.ms) s.gv;rw[V6,<- c4];exact zcw c2 hno
    ·show Wl (mayS (Xk S (atV S) k) s.ms) s.gv;rw[V6,<- c4];exact A9 c3
    ·show s.gaps.length<=(S.std++[_]).length;rw[zs8];omega
   ·show (S.out++[_]).length<=n+1;rw[zs8];show S.out.length+1<=n+1;omega
   ·show (S.std++[_]).length<=n+1;rw[zs8];show S.std.length+1<=n+1;omega
   ·have old:=o.gp s (.inl h);rcases hs with hs|hs
    ·have hs:some { s with may:=mayS (Xk S (atV S) k) s.ms }=some s':=hs;cases hs;exact⟨zuq old.1,old.2⟩
    ·have:=o.gp s' (.inr hs);exact⟨zuq this.1,this.2⟩
 | @awayC k s p e l us st w h hp hl tl CR =>
   obtain⟨g1,g2,g3,g4⟩:=g;obtain⟨c1,c2,c3,c4,c5⟩:=o.cur s h;refine⟨⟨fun s' hs=>?_,o.nd,o.ppl,o.few,o.led,o.old,o.len,fun _=>o.lt (by rw[h];exact nofun),⟨?_,?_⟩,fun s' hs=>?_⟩,.inr ⟨nofun,(("away":Str),k,atV S),rfl,.inr (.inl ⟨rfl,rfl,rfl,g4⟩),rfl,rfl,rfl,rfl⟩⟩
   ·have hs:some (⟨s.ms,mayS (Xk S (atV S) k) s.ms,Yh st (s.gv.set p .non),s.gaps++[(k,st)]⟩:Z3)=some s':=hs;cases hs;have hx:=Qj hp;rw[V6,<- c4] at CR;have F0:=V3 c2 hx;have hpl:p<(without s.may k).length:=by
     unfold without;rw[zs4,<- c2.len];exact(zs6.mp hx).1
    refine⟨c1,?_,?_,rfl,?_⟩
    ·show Ya (mayS (Xk S (atV S) k) s.ms) _;rw[V6,<- c4];exact CR.fill F0 hpl
    ·show Wl (mayS (Xk S (atV S) k) s.ms) _;rw[V6,<- c4];exact C5 c2 c3 hx CR
    ·show (s.gaps++[_]).length<=(S.std++[_]).length;rw[zs8,zs8];show s.gaps.length+1<=S.std.length+1;omega
   ·show (S.out++[_]).length<=n+1;rw[zs8];show S.out.length+1<=n+1;omega
   ·show (S.std++[_]).length<=n+1;rw[zs8];show S.std.length+1<=n+1;omega
   ·have old:=o.gp s (.inl h);rcases hs with hs|hs
    ·have hs:some (⟨s.ms,mayS (Xk S (atV S) k) s.ms,Yh st (s.gv.set p .non),s.gaps++[(k,st)]⟩:Z3)=some s':=hs;cases hs;have hx:=Qj hp;rw[V6,<- c4] at CR;have hpl:p<(without s.may k).length:=by
      unfold without;rw[zs4,<- c2.len];exact(zs6.mp hx).1
     have hcl:=CR.len (V3 c2 hx) hpl;have hwl:(without s.may k).length=s.may.length:=by unfold without;rw[zs4]
     have hml:s.may.length=s.ms.length:=by rw[c4];unfold mayS;rw[zs4]
     refine⟨by show (s.gaps++[_]).length<=n+1;rw[zs8];show s.gaps.length+1<=n+1;omega,fun x hx'=>?_⟩;rcases ztg.mp hx' with z|z
     ·exact old.2 x z
     ·rw[zs9.mp z];show st.length<=100;omega
    ·have:=o.gp s' (.inr hs);exact⟨zuq this.1,this.2⟩
 | @draw ms gv l hl F T =>
   obtain⟨g1,g2,g3,g4,g5⟩:=g;refine⟨⟨fun s' hs=>?_,o.nd,o.ppl,o.few,o.led,o.old,o.len,fun _=>g1,⟨?_,?_⟩,fun s' hs=>?_⟩,.inr ⟨nofun,(("draw up":Str),(ms.length:Int),atV S),rfl,.inr (.inr ⟨rfl,rfl,rfl⟩),rfl,rfl,rfl,rfl⟩⟩
   ·have hs:some (⟨ms,mayS S ms,gv,[]⟩:Z3)=some s':=hs;cases hs;exact⟨g3,F,T,rfl,zt6 _⟩
   ·show S.out.length<=n+1;omega
   ·show (S.std++[_]).length<=n+1;rw[zs8];show S.std.length+1<=n+1;omega
   ·rcases hs with hs|hs
    ·have hs:some (⟨ms,mayS S ms,gv,[]⟩:Z3)=some s':=hs;cases hs;exact⟨zt6 _,nofun⟩
    ·have:=o.gp s' (.inr hs);exact⟨zuq this.1,this.2⟩
 | @close s h =>
   obtain⟨g1,g2⟩:=g;obtain⟨c1,c2,c3,c4,c5⟩:=o.cur s h;refine⟨⟨fun s' hs=>(by cases hs),o.nd,o.ppl,o.few,?_,fun x hx=>?_,⟨?_,o.len.2⟩,fun z=>absurd rfl z,⟨?_,zt6 _⟩,fun s' hs=>?_⟩,.inl ⟨rfl,rfl,rfl⟩⟩
   ·show S.led++[Xz s]=List.map Xz (S.old++[s]);rw[zti,o.led];rfl
   ·rcases ztg.mp hx with hx|hx
    ·exact o.old x hx
    ·rw[zs9.mp hx];refine⟨c1,?_,c2.one⟩;rw[c2.len,c4];unfold mayS;rw[zs4]
   ·show (S.led++[_]).length<=S.len;rw[zs8];exact g1
   ·show S.out.length<=n+1;omega
   ·rcases hs with hs|hs
    ·cases hs
    ·have hs:s'∈S.old++[s]:=hs;rcases ztg.mp hs with z|z
     ·have:=o.gp s' (.inr z);exact⟨zuq this.1,this.2⟩
     ·rw[zs9.mp z];have:=o.gp s (.inl h);exact⟨zuq this.1,this.2⟩
 | back h ht hs=>exact absurd rfl hb
structure FrN(A A':SAd)(H H':Hp):Prop where
 p:A'.p=A.p
 k:∀ b o,H b=some o->b∉A.fp->H' b=some o/\b∉A'.fp
 kt:∀ t xs,H t=some (.tup xs)->H' t=some (.tup xs)
theorem FrN.refl(A:SAd)(H:Hp):FrN A A H H:=⟨rfl,fun b o e n=>⟨e,n⟩,fun _ _ e=>e⟩
theorem FrN.of(e:Same H H'):FrN A A H H':=⟨rfl,fun b o z n=>⟨e _ _ z,n⟩,fun _ _ z=>e _ _ z⟩
theorem FrN.trans(h1:FrN A A1 H H1)(h2:FrN A1 A2 H1 H2):FrN A A2 H H2:=⟨h2.p.trans h1.p,fun b o e n=>by
 obtain⟨a1,a2⟩:=h1.k b o e n;exact h2.k b o a1 a2,fun t xs e=>h2.kt _ _ (h1.kt _ _ e)⟩
theorem Br.out(nx:Br A A' H)(e:H b=some o)(n:b∉A.fp):b∉A'.fp:=by
 obtain⟨x,rfl,hx⟩:=nx;simp only[SAd.fp,ztf,zue,or_false] at n ⊢;rcases hx with rfl|hx
 ·exact n
 ·have:b≠x:=Zg e hx;rintro(z|z|z|z|z|z|z)
  ·exact n (.inl z)
  ·exact n (.inr (.inl z))
  ·exact n (.inr (.inr (.inl z)))
  ·exact n (.inr (.inr (.inr (.inl z))))
  ·exact n (.inr (.inr (.inr (.inr (.inl z)))))
  ·exact n (.inr (.inr (.inr (.inr (.inr (.inl z))))))
  ·exact this z
theorem FrN.next(SA:Zv ca H A S)(nx:Br A A' H)(f:FrS A H H'):FrN A A' H H':=⟨by obtain⟨x,rfl,_⟩:=nx;rfl,fun b o e n=>⟨f b o e n,nx.out e n⟩,SA.tups f⟩
def Su(K:Frag)(A:SAd)(H:Hp)(b:Addr)(xs:List V):Prop:=(Rd H b (.lst xs)/\b∉A.fp)\/∀ H',SqL K H' b xs
theorem Su.sq{K:Frag}{A:SAd}{H:Hp}{b:Addr}{xs:List V}(h:Su K A H b xs):SqL K H b xs:=by
 rcases h with h|h
 ·exact .inl h.1
 ·exact h H
theorem Su.fr{K:Frag}{A A':SAd}{H H':Hp}{b:Addr}{xs:List V}(f:FrN A A' H H')(h:Su K A H b xs):Su K A' H' b xs:=by
 rcases h with ⟨h,n⟩|h
 ·rcases h with h|⟨o,h⟩
  ·exact .inl ⟨.inl (f.k _ _ h n).1,(f.k _ _ h n).2⟩
  ·exact .inl ⟨.inr ⟨o,(f.k _ _ h n).1⟩,(f.k _ _ h n).2⟩
 ·exact .inr h
theorem Su.make{K:Frag}{H:Hp}{b:Addr}{xs:List V}(h:SqL K H b xs)(A:SAd)(H':Hp)(s:Same H H')(hf:∀ x∈A.fp,H x=none):Su K A H' b xs:=by
 rcases h with h|h
 ·have hn:b∉A.fp:=fun z=>by
   have:=hf b z;rcases h with h|⟨o,h⟩<;>(rw[this] at h;cases h)
  rcases h with h|⟨o,h⟩
  ·exact .inl ⟨.inl (s _ _ h),hn⟩
  ·exact .inl ⟨.inr ⟨o,s _ _ h⟩,hn⟩
 ·exact .inr fun _=>.inr h
structure zkz(A:SAd)(H:Hp)(t lc ln:Addr)(cs nu:List Int):Prop where
 at_:zh7 H t lc ln cs nu
 o:t∉A.fp/\lc∉A.fp/\ln∉A.fp
inductive Bk(mb:Bool)(ok:Addr->Prop)(H:Hp)(nu:List Int)(n:Nat):List Addr->Sea->Prop where
 | one {d:Addr} {P:Pg} {S:Sea} (h:zex ok H d P) (r:Rel mb P S) (o:SOk nu n S) (e:S.std=[]):Bk mb ok H nu n [d] S
 | snoc {ds:List Addr} {d:Addr} {P:Pg} {S S':Sea} (b:Bk mb ok H nu n ds S) (nd:d∉ds) (h:zex ok H d P) (r:Rel mb P S') (o:SOk nu n S') (st:Pt S S') (hd:∃ x,P.deed=some x/\S'.std=S.std++[(x,S.cur)]):Bk mb ok H nu n (ds++[d]) S'
section
variable{mb:Bool}{ok ok':Addr->Prop}{H H':Hp}{nu:List Int}{n m:Nat}{ds:List Addr}{d:Addr}{P:Pg}{S S':Sea}
structure zjz(mb:Bool)(ok:Addr->Prop)(H:Hp)(nu:List Int)(n:Nat)(ds:List Addr)(d:Addr)(dd:Option Qh)(S:Sea):Prop where
 nd:d∉ds
 ex:(ds=[]/\S.std=[])\/∃ S0,Bk mb ok H nu n ds S0/\Pt S0 S/\∃ x,dd=some x/\S.std=S0.std++[(x,S0.cur)]
structure zk7(mb:Bool)(ok:Addr->Prop)(H:Hp)(nu:List Int)(n:Nat)(ds:List Addr)(d:Addr)(P:Pg)(S:Sea):Prop where
 pg:zex ok H d P
 rb:zib mb P S
 so:SOk nu n S
 tl:zjz mb ok H nu n ds d P.deed S
structure zkq(mb:Bool)(ok:Addr->Prop)(H:Hp)(nu:List Int)(n:Nat)(ds:List Addr)(d:Addr)(P:Pg)(S:Sea):Prop where
 pg:zex ok H d P
 re:Rel mb P S
 so:SOk nu n S
 tl:zjz mb ok H nu n ds d P.deed S
end
theorem zcy(S:Sea):V4 S (atV S)=S.cur:=by
 unfold V4 atV;rw[if_neg ⋯,if_neg ⋯]
theorem Ip(o:SOk nu n S)(h:S.cur=some s)(hk:k s):Jo ca H S (atV S) E k:=by
 have h1:=o.len;have h2:=o.lt (by rw[h];exact nofun);have h3:atV S=(S.led.length:Int)+1:=rfl;refine⟨Z9 ⋯ ⋯,o.olen,?_⟩;rw[if_neg ⋯,zcy];exact⟨fun z=>(by rw[h] at z;cases z),fun s' hs=>(by rw[h] at hs;cases hs;exact hk)⟩
theorem Bv(FP:Ya rows gs)(T:Wl rows gs):C6 rows gs:=fun p hp q k hw hf=>by
 obtain⟨S,h1,h2⟩:=T p hp;have hS:S q:=by
  clear hf
  induction hw with
  | nil=>exact h1
  | snoc w a ih =>
    obtain⟨⟨r,e1,e2⟩,e3⟩:=a;obtain⟨q',_,e4,e5⟩:=(h2 _ ih).2 r e1 _ e2;rw[FP.inj _ _ _ e3 e4];exact e5
 obtain⟨n,⟨r,e1,e2⟩,e3⟩:=hf;obtain⟨q',_,e4,_⟩:=(h2 q hS).2 r e1 n e2;exact e3 q' e4
end G
namespace L2
open PySem PySem.Spec PyProof.Rows
theorem fnS(a:sc.kind=.function:=by rfl)(b:sc.isCoroutine=false:=by rfl)(c:sc.isGenerator=false:=by rfl)(d:N.Nodup:=by decide +kernel)(e:N.take P.length=P:=by rfl)(f:∀ x∈P,sc.names.lookup x=some .local\/sc.names.lookup x=some .cell:=by decide +kernel)(g:∀ y∈sc.names,y.2≠.free:=by decide +kernel):Zk N P sc:=⟨a,b,c,d,e,f,g⟩
section
variable{X:Cx}{k j:Nat}{C:Addr}{ps:List Str}{sp:Sp}{E:XK}{x m:Str}{p pos pos' apos:Pos}{e o a b:Expr}{es:List Expr}{ta tb te:TE}{t:TA}{r:R2}
theorem pS(i:Nat)(hN:X.N.Nodup)(he:PE X e te)(hi:X.N[i]?=some x:=by rfl)(hx:Loc X.env.scope x:=by first|exact Or.inl rfl|exact Or.inr rfl)(hs:swapsWith e (some (.Name x pos')) pos.line X.env=pure false:=by rfl)(hf:D8 X i x:=by first|exact⟨.inl rfl,X4⟩|exact⟨.inr rfl,X4⟩|assumption|exact⟨.inl rfl,by assumption⟩|exact⟨.inr rfl,by assumption⟩) :
  PS X (.Assign [.Name x pos'] e pos) (zdb te (Uo i)):=zg4 hN hi hx he hs hf
theorem pN(i:Nat)(hN:X.N.Nodup)(hi:X.N[i]?=some x:=by rfl)(hx:Loc X.env.scope x:=by first|exact Or.inl rfl|exact Or.inr rfl)(hf:D8 X i x:=by first|exact⟨.inl rfl,X4⟩|exact⟨.inr rfl,X4⟩|assumption|exact⟨.inl rfl,by assumption⟩|exact⟨.inr rfl,by assumption⟩):PG X (.Name x pos) (Uo i):=U2 hN hi hx hf
theorem pI(hr:IxR X r)(ha:PE X a ta)(hb:PE X b tb)(hs:zaw b:=by exact fun _ _=>rfl):PE X (.Subscript a b pos) (tOp r ta tb):=zi8 hr ha hb hs
theorem pD(hu:X.A.units+1<cLine)(ho:PE X a ta)(hi:PE X b tb)(hs:zhb b:=by exact fun _ _=>rfl):PE X (.Subscript a b pos) (zgk ta tb):=zfp hu ho hi hs
theorem pF(D:Z1 X.prog X.w X.K X.mg X.base x k ps sp)(hr:Vf j X.A)(ha:PA X (e :: es) t)(hk:k<=j:=by decide)(hx:Vn (CX1 X.prog X.w) X E:=by exact Zj)(hg:Gl X x:=by rfl)(hdb:(x == ("__debug__":Str))=false:=by decide)
  (he:starEach (e :: es) X.env=(false,eval e X.env) :: starEach es X.env:=by rfl) (hpl:(backTo pos (starEach es X.env)).any (·.1)=false:=by rfl):PE X (.Call (.Name x p) (e :: es) [] pos) (zdm sp [] E t):=zaz D (hr.mono hk) hx hg ha hdb he hpl
theorem iL(K:Frag)(h:X.K=K:=by rfl):IxR X (zfu K):=zd0 h
theorem iU(K:Frag)(h:X.K=K:=by rfl):IxR X (zhk K):=zf0 h
theorem cL(K:Frag)(h:X.K=K:=by rfl):Vy X (.builtin "len") (fun xs H Q=>∃ p ys,xs=[.ref p]/\(SqL K H p ys\/SqT K H p ys)/\Q (.int ys.length) H):=Gm h
end
theorem cT(ys:List Str)(js:List Nat)(a:closureFor scope X.env=pure cl:=by rfl)(b:scope.kind=.function:=by rfl)(c:∀ y∈scope.names,y.2=.local->scope.names.lookup y.1=some .local:=by decide +kernel)(d:∀ y∈scope.names,y.2≠.cell:=by decide +kernel)(e:scope.names.lookup x=some .local:=by rfl)(f:(x :: ys).Nodup:=by decide +kernel)(g:js.map (X.N[·]?)=ys.map some:=by rfl)
  (h:Kt (fun y=>X.env.kindOf y=some .cell/\(relabel scope X.env).names.lookup y=some .cell/\cl.lookup y=X.env.cells.lookup y) ys:=by repeat' (first|exact True.intro|apply And.intro|rfl)) (i:Kt (fun p=>X.env.cells.lookup p.1=some p.2) cl:=by repeat' (first|exact True.intro|apply And.intro|rfl)) (j:∀ y∈scope.names,y.2=.free->y.1∈ys:=by decide +kernel):zay X x scope cl ys js:=⟨a,b,c,d,e,f,g,h,i,j⟩
abbrev LkF(K:Frag)(f:Addr)(x q:Str)(st:Stmt)(oc kV dc pm cd ct:Value)(od an:Option Addr)(sl:Array (Option Value)):Prop:=K.lookup f=some ⟨oc,od,.func (PySem.W.fnOf x q (Sj st) (Yt st) (Zi st) .none kV dc pm an cd ct),sl⟩
abbrev NsB(K:Frag)(x:Str)(f:Addr):Prop:=PySem.W.nsIn K mainGlobals x=some (some (.ref f))
abbrev FdB(K:Frag)(c:Addr)(x:Str)(f:Addr):Prop:=PySem.W.findIn K (.ref c) x=some (some (.ref f))
abbrev BnA(x q:Str)(st:Stmt)(ps:List Str):Prop:=∀ (kV doc pm:Value) (an:Option Addr) (cdv ct:Value) (us:List Value),us.length=ps.length->bindArgs (PySem.W.fnOf x q (Sj st) (Yt st) (Zi st) .none kV doc pm an cdv ct) ⟨us,[]⟩=pure (ps.zip us)
abbrev BnE(x q:Str)(st:Stmt)(ps:List Str)(us:List Value):Prop:=∀ (kV doc pm:Value) (an:Option Addr) (cdv ct:Value),bindArgs (PySem.W.fnOf x q (Sj st) (Yt st) (Zi st) .none kV doc pm an cdv ct) ⟨us,[]⟩=pure (ps.zip us)
section
variable{x q a b c d e g:Str}{st:Stmt}
theorem bnS{us:List Value}{n:Nat}(h:us.length=n+1):∃ u vs,us=u :: vs/\vs.length=n:=by
 cases us with
 | nil=>cases h
 | cons u vs=>exact⟨u,vs,rfl,Nat.succ.inj h⟩
theorem bn1(h:∀ u,BnE x q st [a] [u]:=by intros _ _ _ _ _ _ _;rfl):BnA x q st [a]:=fun _ _ _ _ _ _ us hl=>by obtain⟨_,us,rfl,l0⟩:=bnS hl;cases us with|nil=>exact h _ _ _ _ _ _ _|cons _ _=>cases l0
theorem bn2(h:∀ u v,BnE x q st [a,b] [u,v]:=by intros _ _ _ _ _ _ _ _;rfl):BnA x q st [a,b]:=fun _ _ _ _ _ _ us hl=>by obtain⟨_,us,rfl,l0⟩:=bnS hl;obtain⟨_,us,rfl,l1⟩:=bnS l0;cases us with|nil=>exact h _ _ _ _ _ _ _ _|cons _ _=>cases l1
theorem bn3(h:∀ u v w,BnE x q st [a,b,c] [u,v,w]:=by intros _ _ _ _ _ _ _ _ _;rfl):BnA x q st [a,b,c]:=fun _ _ _ _ _ _ us hl=>by obtain⟨_,us,rfl,l0⟩:=bnS hl;obtain⟨_,us,rfl,l1⟩:=bnS l0;obtain⟨_,us,rfl,l2⟩:=bnS l1;cases us with|nil=>exact h _ _ _ _ _ _ _ _ _|cons _ _=>cases l2
theorem bn4(h:∀ u v w y,BnE x q st [a,b,c,d] [u,v,w,y]:=by intros _ _ _ _ _ _ _ _ _ _;rfl):BnA x q st [a,b,c,d]:=fun _ _ _ _ _ _ us hl=>by obtain⟨_,us,rfl,l0⟩:=bnS hl;obtain⟨_,us,rfl,l1⟩:=bnS l0;obtain⟨_,us,rfl,l2⟩:=bnS l1;obtain⟨_,us,rfl,l3⟩:=bnS l2;cases us with|nil=>exact h _ _ _ _ _ _ _ _ _ _|cons _ _=>cases l3
theorem bn5(h:∀ u v w y z,BnE x q st [a,b,c,d,e] [u,v,w,y,z]:=by intros _ _ _ _ _ _ _ _ _ _ _;rfl):BnA x q st [a,b,c,d,e]:=fun _ _ _ _ _ _ us hl=>by obtain⟨_,us,rfl,l0⟩:=bnS hl;obtain⟨_,us,rfl,l1⟩:=bnS l0;obtain⟨_,us,rfl,l2⟩:=bnS l1;obtain⟨_,us,rfl,l3⟩:=bnS l2;obtain⟨_,us,rfl,l4⟩:=bnS l3;cases us with|nil=>exact h _ _ _ _ _ _ _ _ _ _ _|cons _ _=>cases l4
end
section
variable{K:Frag}{mg:Str->Option Value}{x y q m:Str}{k:Nat}{ps:List Str}{sp:Sp}{C:Addr}{st:Stmt}{f:Addr}{fd:FuncData}
theorem dMk(P:Program)(w:World)(base:Heap)(F:Fun K x q st f fd)(ok:FnOk P w K mg base (CX1 P w) k f fd ps sp)(b:mg y=some (.ref f))(hb:BnA x q st ps:=by first|exact bn1|exact bn2|exact bn3|exact bn4|exact bn5):Z1 P w K mg base y k ps sp:=⟨f,fd,ok,b,F.kp,F.binds hb⟩
theorem mMk(P:Program)(w:World)(base:Heap)(F:Fun K x q st f fd)(ok:FnOk P w K mg base (CX1 P w) k f fd ps sp)(b:zdl K C m f)(hb:BnA x q st ps:=by first|exact bn1|exact bn2|exact bn3|exact bn4|exact bn5):Zt P w K mg base C m k ps sp:=⟨f,fd,ok,b,F.binds hb⟩
theorem nMk(P:Program)(w:World)(base:Heap)(F:Fun K x q st f fd)(ok:FnOk P w K mg base (CX1 P w) k f fd ps sp)(b:Mk K C f)(c:mg y=some (.ref C))(hb:BnA x q st ps:=by first|exact bn1|exact bn2|exact bn3|exact bn4|exact bn5):Tq P w K mg base y C k ps sp:=⟨f,fd,ok,b,c,F.binds hb⟩
end
structure LN(K:Frag)(x q:Str)(st:Stmt)(f:Addr)(oc kV dc pm cd ct:Value)(od an:Option Addr)(sl:Array (Option Value)):Prop where
 b:NsB K x f
 l:LkF K f x q st oc kV dc pm cd ct od an sl
 c:PySem.W.codeIn K cd q=true
 k:PySem.W.keepIn K (.ref f)=true
structure LM(K:Frag)(C:Addr)(x q:Str)(st:Stmt)(f:Addr)(oc kV dc pm cd ct:Value)(od an:Option Addr)(sl:Array (Option Value)):Prop where
 b:FdB K C x f
 l:LkF K f x q st oc kV dc pm cd ct od an sl
 c:PySem.W.codeIn K cd q=true
 k:PySem.W.keepIn K (.ref f)=true
 i:PySem.W.isFn K (.ref f)=true
abbrev XcB(K:Frag)(c:Addr):Prop:=PySem.W.excIn K c [.type "ValueError",.type "Exception",.type "BaseException",.type "object"] "ValueError.__new__"=true
abbrev NzB(K:Frag)(x:Str):Prop:=PySem.W.nsIn K mainGlobals x=some none
structure XG(P:Program)(w:World)(base:Heap)(K:Frag)(mg:Str->Option Value)(h:Heap):Prop where
 X:K.In h
 G:h.Ns mainGlobals mg
section
variable{P:Program}{w:World}{base h:Heap}{K:Frag}{mg:Str->Option Value}{x y q:Str}{k:Nat}{ps:List Str}{sp:Sp}{C:Addr}{st:Stmt}{f:Addr}{oc kV dc pm cd ct:Value}{od an:Option Addr}{sl:Array (Option Value)}
theorem dN(Z:XG P w base K mg h)(l:LN K x q st f oc kV dc pm cd ct od an sl)(ok:∀ {fd},Fun K x q st f fd->FnOk P w K mg base (CX1 P w) k f fd ps sp)(hb:BnA x q st ps:=by first|exact bn1|exact bn2|exact bn3|exact bn4|exact bn5):Z1 P w K mg base x k ps sp :=
 dMk P w base (O9 l.l l.c l.k) (ok (O9 l.l l.c l.k)) (PySem.W.mg_of Z.X Z.G l.b) hb
theorem mM(_:XG P w base K mg h)(l:LM K C x q st f oc kV dc pm cd ct od an sl)(ok:∀ {fd},Fun K x q st f fd->FnOk P w K mg base (CX1 P w) k f fd ps sp)(hb:BnA x q st ps:=by first|exact bn1|exact bn2|exact bn3|exact bn4|exact bn5):Zt P w K mg base C x k ps sp :=
 mMk P w base (O9 l.l l.c l.k) (ok (O9 l.l l.c l.k)) ⟨l.b,l.i,l.k⟩ hb
theorem nM(Z:XG P w base K mg h)(l:LM K C "__init__" q st f oc kV dc pm cd ct od an sl)(m:PySem.W.makesIn K C=true)(kc:PySem.W.keepIn K (.ref C)=true)(c:PySem.W.nsIn K mainGlobals y=some (some (.ref C)))(ok:∀ {fd},Fun K "__init__" q st f fd->FnOk P w K mg base (CX1 P w) k f fd ps sp)(hb:BnA "__init__" q st ps:=by first|exact bn1|exact bn2|exact bn3|exact bn4|exact bn5):Tq P w K mg base y C k ps sp :=
 nMk P w base (O9 l.l l.c l.k) (ok (O9 l.l l.c l.k)) ⟨m,l.b,l.i,kc⟩ (PySem.W.mg_of Z.X Z.G c) hb
end
section
variable{X:Cx}{elt iter:Expr}{x:Str}{px pos:Pos}{ifs:List Expr}{scope:Scope}{cl:List (Str×Addr)}{ys:List Str}{js:List Nat}
theorem Iq{pins:List (Addr×Obj)}{σ:St}{H:Hp}{s:Shared}{tt:TT}{te:TE}{it:Addr}{fp:List Addr}{tn:Nat->Heap->Prop}{J:It}{W:Nat->Nat->List V->Hp->Prop}{m0:Nat}{Q:VK}{E:Value->Shared->Prop}{RR:Value->Addr->Result->Shared->Prop}
  (hcm:X.calm=true) (c:zay X x scope cl ys js) (ht:∀ pn s₀ H₀ fp C,PTs (Yz X pn (x :: ys) scope cl s₀ H₀ fp C) ifs tt) (hgt:∀ pn s₀ H₀ fp C,PG (Yz X pn (x :: ys) scope cl s₀ H₀ fp C) (.Name x px) (Uo 0)) (he:∀ pn s₀ H₀ fp C,PE (Yz X pn (x :: ys) scope cl s₀ H₀ fp C) elt te)
  (I:Inv X pins σ H s) (T:Gh X.prog X.w X.K (.Name x px) J fp it tn) (st0:tn 0 s.heap) (hf:∀ b∈fp,FpOk X pins H b) (w0:W 0 m0 [] H)
  (turn:∀ i m ys H,W i m ys H->(J.stop i H/\ys.length<=sizeLine/\∀ p,H p=none->Q (.ref p) (upd H p (.lst ys))) \/
   (J.go i H/\ys.length<sizeLine/\∃ N:List V->Hp->Prop,(∀ ys' H',N ys' H'->∃ m',m' < m/\W (i+1) m' ys' H')/\∀ x H',J.yld i H x H'->tt (cs js σ x) H' fun b H2=>if b=true then te (cs js σ x) H2 fun y H3=>N (ys++[y]) H3 else N ys H2))
  (hRR:∀ D C s' m,s'.heap.Ns C m->(∀ h',Heap.SameBut C s'.heap h'->∃ H',Inv X pins σ H' { s' with heap:=h' }/\Q (.ref D) H')->(∃ H',Inv X pins σ H' s'/\Q (.ref D) H'/\H' C=none)->s.heap.objs.size<=C->RR (.ref D) C (.ok .next) s') :
  wpAny (model X.prog X.w) X.A (newList []) (fun acc s₃=>wpAny (model X.prog X.w) X.A (newFunctionEnv scope X.env.globals cl [] X.env.qual none .none (some X.env)) (fun cenv s₄ =>
   codeAny (model X.prog X.w) X.A (.compStart (.ListComp elt [⟨.Name x px,iter,ifs,0⟩] scope pos) 0 (.ref it) acc { cenv with scope:=relabel scope X.env }) (RR acc cenv.locals) s₄) E s₃) E s :=
 J6 (xo:=[x]) (g:=Uo 0) hcm ⟨c.clos,c.kind,c.names,c.nocell,c.at_,c.free,c.only,c.vis⟩ ht hgt he I T st0 hf w0 (fun i m ys H w=>(turn i m ys H w).imp id fun ⟨a,b,N,n1,n2⟩=>⟨a,b,N,n1,fun y H' hy=>⟨⟨[some y],rfl,rfl⟩,n2 y H' hy⟩⟩) hRR
variable{wi:TI}{tt:TT}{te:TE}
theorem Wv(hcm:X.calm=true)(c:zay X x scope cl ys js)(hi:PI X (.Name x px) iter wi)(ht:∀ pn s₀ H₀ fp C,PTs (Yz X pn (x :: ys) scope cl s₀ H₀ fp C) ifs tt)(he:∀ pn s₀ H₀ fp C,PE (Yz X pn (x :: ys) scope cl s₀ H₀ fp C) elt te)
  (hx:∀ C,(compEnvC scope cl C X.env).scope.names.lookup x=some .local:=by intro _;rfl) (hs:∀ x,foldedSetIterable iter X.env x=pure x:=by intro _;rfl):PE X (.ListComp elt [⟨.Name x px,iter,ifs,0⟩] scope pos) (zdz wi js tt te):=by
 intro pins s σ H Q I h;rw[eval_ListComp];refine wpAny_comprehension_free (use:=none) rfl hs c.clos c.kind c.names (thn (hi pins s σ H _ I h) fun v s1 h1=>thn h1 fun itv s2 h2=>?_);obtain⟨it,fp,tn,J,H2,e,I2,T,st2,f2,W,⟨m0,w0⟩,turn⟩:=h2;subst e;exact Iq (RR:=fun acc C=>compPost (model X.prog X.w) X.A X.xe none (EP X pins σ Q) acc C) hcm c ht (fun _ _ _ _ C=>U2 (X:=Yz X _ (x :: ys) scope cl _ _ _ C) c.nd rfl (.inl (hx C)) ⟨.inr (hx C),X4⟩) he I2 T st2 f2 w0 turn fun D C s' m hn hS _ _=>⟨m,hn,fun h' hs'=>let ⟨H',I',q⟩:=hS h' hs';⟨.ref D,H',I',rfl,q⟩⟩
theorem Vz{y:Str}{py spos:Pos}{i:Nat}(hN:X.N.Nodup)(hy:X.N[i]?=some y)(hk:X.env.scope.names.lookup y=some .local)(hcm:X.calm=true)(c:zay X x scope cl ys js)(hi:PI X (.Name x px) iter wi)(ht:∀ pn s₀ H₀ fp C,PTs (Yz X pn (x :: ys) scope cl s₀ H₀ fp C) ifs tt)
  (he:∀ pn s₀ H₀ fp C,PE (Yz X pn (x :: ys) scope cl s₀ H₀ fp C) elt te)
  (hx:∀ C,(compEnvC scope cl C X.env).scope.names.lookup x=some .local:=by intro _;rfl) (hsw:swapsWith (.ListComp elt [⟨.Name x px,iter,ifs,0⟩] scope pos) (some (.Name y py)) spos.line X.env=pure true:=by rfl) (hs:∀ x,foldedSetIterable iter X.env x=pure x:=by intro _;rfl)
  (hf:D8 X i y:=by first|exact⟨.inr rfl,X4⟩|assumption|exact⟨.inr rfl,by assumption⟩) :
  PS X (.Assign [.Name y py] (.ListComp elt [⟨.Name x px,iter,ifs,0⟩] scope pos) spos) (zdb (zdz wi js tt te) (Uo i)):=by
 intro pins s σ H D0 I h;rw[exec_Assign_Name_used _ _ _ _ hsw];refine wpAny_bind (wpAny_standAt (wpAny_bind ?_));show wpAny _ X.A (do let _ <- comprehension (.ListComp elt [⟨.Name x px,iter,ifs,0⟩] scope pos) scope X.env _ (newList []) false (eval iter X.env) (some (assign (.Name y py) X.env))) _ _ s;refine wpAny_bind (wpAny_mono (wpAny_comprehension_free (use:=some (assign (.Name y py) X.env)) (Q:=fun _ s'=>SP X pins D0 .next s') rfl hs c.clos c.kind c.names
  (thn (hi pins s σ H _ I h) fun v s1 h1=>thn h1 fun itv s2 h2=>?_)) (fun _ s' hq=>wpAny_pure (wpAny_pure hq)) fun _ _ e=>e)
 obtain⟨it,fp,tn,J,H2,e,I2,T,st2,f2,W,⟨m0,w0⟩,turn⟩:=h2;subst e;refine Iq (Q:=fun x H1=>D0.nx (σ.set i (some x)) H1) (RR:=fun acc C=>compPost (model X.prog X.w) X.A X.xe (some (assign (.Name y py) X.env)) (fun _ s'=>SP X pins D0 .next s') acc C) hcm c ht (fun _ _ _ _ C=>U2 (X:=Yz X _ (x :: ys) scope cl _ _ _ C) c.nd rfl (.inl (hx C)) ⟨.inr (hx C),X4⟩) he I2 T st2 f2 w0 turn fun D C s' m hn _ hS hC=>?_;obtain⟨H',I',q,fC⟩:=hS;show wpAny _ X.A (assign (.Name y py) X.env (.ref D)) _ _ _;have ltC:∀ b o,s2.heap.get? b=some o->b≠C:=fun b o e=>zts (ztn (Heap.lt_size e) hC);have neL:C≠X.env.locals:=by
  obtain⟨_,⟨o,_,_,ho,_⟩,_⟩:=I2.loc;exact Ne.symm (ltC _ o ho)
 have neK:∀ z a,X.env.cells.lookup z=some a->a≠C:=fun z a e=>by
  obtain⟨_,o,ho,_⟩:=I2.cell z a e;exact ltC a o ho
 refine wpAny_assign_Name (M0 I' hN hy (.inl hk) (v:=.ref D) (show RelV (.ref D) (.ref D) from rfl) (fun s4 I4 ⟨a,hs4,ha⟩=>?_) hf);have naC:C≠a:=by
  rcases ha with ha|ha
  ·rw[ha];exact neL
  ·exact Ne.symm (neK _ _ ha)
 refine⟨m,hn.sameBut hs4 naC,fun h5 hs5=>⟨_,H',?_,q⟩⟩;refine I4.turned (t':=s4.toks) (it:=C) (fun b o hb e=>hs5.extBut b o hb e) fC neL (.inr (ztk I2.sz hC)) neK fun p hp=>?_;obtain⟨e,_⟩:=I2.pin p hp;exact ltC _ _ e
end
end L2
namespace G
open PySem PySem.Spec PyProof.Rows L2
inductive Ir(K:Frag)(vs:List V)(H:Hp)(Q:VK)(_:XK):Prop where
 | mk(ok ok':Addr->Prop)(b c:Addr)(ts us:List V)(G0:zh9)(_:vs=[.ref b,.ref c])(_:H b=some (.lst ts))(_:H c=some (.lst us))(_:Wg ok H ts G0)(_:Wg ok' H us G0)(_:G0.length<=1000)(_:(∀ x∈G0,x.2.length<=1000))(_:Q (.bl true) H)
end G
namespace G
open PySem PySem.Spec PyProof.Rows L2
inductive Ref where
 | out|known|many|unk|manyM|same|noMatch|noRound|over|seaOver|away|drawn|notDrawn|nothing|manyD
 deriving DecidableEq
def Ref.cls(ca:CA):Ref->Addr
 | .out=>ca.out|.known=>ca.known|.many=>ca.many|.unk=>ca.unk|.manyM=>ca.manyM|.same=>ca.same|.noMatch=>ca.noMatch|.noRound=>ca.noRound
 | .over=>ca.over|.seaOver=>ca.seaOver|.away=>ca.away|.drawn=>ca.drawn|.notDrawn=>ca.notDrawn|.nothing=>ca.nothing|.manyD=>ca.manyD
open Classical in
def zaa:V8->Prop
 | .enrol n g c=>Dc n g c
 | .away i n=>Yu i/\Yu n
 | .draw ms=>(∀ m∈ms,Ik m)/\ms.length<=1000
 | _=>True
end G
namespace G
open PySem PySem.Spec PyProof.Rows L2
structure I21(r i:Nat)(noted:List Int)(S:Sea):Prop where
 len:S.len=r
 led:S.led=[]
 cur:S.cur=none
 old:S.old=[]
 std:∀ x∈S.std,x.2=none
 sl:S.std.length<=i
 ol:S.out.length<=i
 z:(noted=[]/\S.ppl=[]/\S.std=[]/\S.out=[])\/∃ ds,noted=0 :: ds/\S.ppl=[(5,5,5)]/\S.out=ds.map fun i=>(i,5)
 e:i<=10->noted=[]
theorem TupL.app:∀ {ts us:List V} {R Q:List (List V)},TupL H ts R->TupL H us Q->TupL H (ts++us) (R++Q)
 | _,_,_,_,.nil,h=>h
 | _,_,_,_,.cons h r,h'=>.cons h (TupL.app r h')
end G
namespace G
open PySem PySem.Spec PyProof.Rows L2
structure ShOk(n:Nat)(s:Z3):Prop where
 ms:s.ms.length<=20
 ml:s.may.length=s.ms.length
 fi:Ya s.may s.gv
 st:Wl s.may s.gv
 mo:∃ nu,Ws s.may nu
 gp:s.gaps.length<=n/\∀ x∈s.gaps,x.2.length<=100
theorem ShOk.mono(h:ShOk n s)(e:n<=m):ShOk m s:=⟨h.ms,h.ml,h.fi,h.st,h.mo,ztk h.gp.1 e,h.gp.2⟩
theorem SOk.shOk(o:SOk nu n S)(h:S.cur=some s):ShOk n s:=by
 obtain⟨k1,k2,k3,k4,k5⟩:=o.cur s h;exact⟨k1,by rw[k4];unfold mayS;rw[zs4],k2,k3,⟨_,by rw[k4];exact o.pok.may o.nd k1⟩,o.gp s (.inl h)⟩
def O3(n:Nat)(S:Sea):Prop:=∀ s∈S.old,ShOk n s
theorem O3.mono(h:O3 n S)(e:n<=m):O3 m S:=fun s hs=>(h s hs).mono e
theorem Ot(o:SOk nu n S)(h:O3 n S)(af:Ry H S D S' v):O3 n S':=by
 cases af with
 | enrol k g c=>exact h
 | awayN hh hl=>exact h
 | awayF hh hp hl=>exact h
 | awayC hh hp hl tl CR=>exact h
 | draw hl F T=>exact h
 | close hc =>
   intro s hs;rcases ztg.mp hs with z|z
   ·exact h s z
   ·rw[zs9.mp z];exact o.shOk hc
 | back hh ht hs =>
   obtain⟨d,a1,a2,a3,a4,a5,a6⟩:=hs;intro s hs';rw[<- a6] at hs';exact h s hs'
end G
namespace G
open PySem PySem.Spec PyProof.Rows L2
section
variable{rows:List (List Int)}{gs0 hs:List V}{p:Nat}{n0:Int}
structure zk0(rows:List (List Int))(gs0 hs:List V)(p:Nat)(i:Nat)(L:List Nat)(q:Nat):Prop where
 len:L.length=i+1
 nd:L.Nodup
 mem:q∈L
 walk:Walk rows (gs0.set p .non) p q i
 df:∀ k∈L,k<gs0.length/\gs0[k]?≠hs[k]?
 back:∀ y∈L,y≠p->∃ x∈L,x≠q/\∃ n,hs[x]?=some (.int n)/\(gs0.set p .non)[y]?=some (.int n)
 full:∀ y∈L,gs0[y]?≠some .non
end
open Classical in
noncomputable def eq1(x y:V):Nat:=if x=y then 1 else 0
inductive StK(N:List Int):List (List Int)->List V->Nat->Nat->Nat->Prop where
 | nil:StK N [] [] 0 0 0
 | skip {rows:List (List Int)} {r:List Int} {ah:List V} {v:V} {f u k:Nat} (h:StK N rows ah f u k):StK N (rows++[r]) (ah++[v]) (2*f) u (k+eq1 .non v)
 | take {rows:List (List Int)} {r:List Int} {ah:List V} {v:V} {f u k b:Nat} {n:Int} (h:StK N rows ah f u k) (hb:N[b]?=some n) (hn:n∈r) (hu:u/2 ^ b%2=0):StK N (rows++[r]) (ah++[v]) (2*f+1) (u+2 ^ b) (k+eq1 (.int n) v)
structure zk1(N:List Int)(rows:List (List Int))(ah:List V)(best kept:Nat):Prop where
 at_:∃ u,StK N rows ah best u kept
 top:∀ f u k,StK N rows ah f u k->f<=best
 most:∀ u k,StK N rows ah best u k->k<=kept
open Classical in
structure zk8(R:Nat×Nat->Nat->Prop)(ps:List (Nat×Nat))(g:Nat×Nat->Nat):Prop where
 mem:∀ q,q∈ps↔∃ k,R q k
 at_:∀ q∈ps,R q (g q)
 top:∀ q k,R q k->k<=g q
section
variable{mb:Bool}{ok ok':Addr->Prop}{A A':SAd}{H H':Hp}{nu:List Int}{n m:Nat}{ds:List Addr}{d:Addr}{P:Pg}{S S':Sea}{D:V8}
structure zkr(ok:Addr->Prop)(H:Hp)(ts:List V)(Ds:List V8):Prop where
 len:ts.length=Ds.length
 at_:∀ (i:Nat) x,ts[i]?=some x->∃ t D,x=.ref t/\Ds[i]?=some D/\zh8 ok H t D
end
structure PgR(mb:Bool)(ok:Addr->Prop)(H:Hp)(nu:List Int)(n:Nat)(d:Addr)(P:Pg)(S:Sea):Prop where
 pg:zex ok H d P
 rb:zib mb P S
 so:SOk nu n S
open Classical in
def zj0(r o:Int)(dr:Bool)(lp ll:Addr):List (Key×V):=[(.inr "rounds",.int r),(.inr "over",.int o),(.inr "drawn",.bl dr),(.inr "people",.ref lp),(.inr "log",.ref ll)]
structure zks(H:Hp)(d lp ll:Addr)(S:Sea):Prop where
 dd:H d=some (.dK (zj0 S.len S.led.length S.cur.isSome lp ll))
 pp:∃ pts,H lp=some (.lst pts)/\TupL H pts (S.ppl.map pV)
 gg:∃ lts,H ll=some (.lst lts)/\TupL H lts (S.std.map fun x=>Q3 x.1)
 ne:lp≠ll
structure I22(S:Sea):Prop where
 out:S.out=[]
 std:∀ x∈S.std,x.2=none/\(x.1.1=("enrol":Str)\/x.1.1=("draw up":Str))
 last:∀ std0 x,S.std=std0++[x]->x.1.1=("enrol":Str)->S.cur=none
theorem F9{P:Program}{w:World}{H:Hp}{h:Heap}{a:Addr}{o:HO}(x:Yw P w H h a o):∃ ob,h.get? a=some ob:=by
 cases o with
 | lst xs=>obtain⟨_,_,_,_,e⟩:=x;exact⟨_,e⟩
 | tup xs=>obtain⟨_,_,_,ob,e,_⟩:=x;exact⟨_,e⟩
 | dK kvs=>obtain⟨_,_,_,_,o,_,_,e,_⟩:=x;exact⟨_,e⟩
 | dT kvs=>obtain⟨_,_,_,_,o,_,_,e,_⟩:=x;exact⟨_,e⟩
 | set S n=>obtain⟨o,_,_,_,e,_⟩:=x;exact⟨_,e⟩
 | ins C dx fs=>obtain⟨_,_,_,e,_⟩:=x;exact⟨_,e⟩
 | own y=>exact x
 | xd fs=>obtain⟨_,⟨_,_,_,e,_⟩,_⟩:=x;exact⟨_,e⟩
 | rng lo hi=>obtain⟨_,_,_,e⟩:=x;exact⟨_,e⟩
 | frz ob u=>obtain⟨e,_⟩:=x;exact⟨_,e⟩
 | tbl ps=>exact⟨_,x⟩
 | met f y=>exact⟨_,x⟩
 | ext φ=>obtain⟨_,e,_⟩:=x;exact e
def dxs:HO->List Addr
 | .ins _ dx _=>[dx]
 | .frz _ u=>dxs u
 | _=>[]
theorem zez(x:Yw P w H h a o)(k:∀ b u,(b=a\/b∈dxs o)->h.get? b=some u->h'.get? b=some u)
  (ho:∀ b∈dxs o,H b=some (.own a)->H' b=some (.own a)) (ht:∀ b xs,H b=some (.tup xs)->H' b=some (.tup xs)):Yw P w H' h' a o:=by
 induction o with
 | lst xs=>obtain⟨z,its,n,r,e⟩:=x;exact⟨z,its,n,r,k _ _ (.inl rfl) e⟩
 | tup xs=>obtain⟨z,its,r,ob,e,c⟩:=x;exact⟨z,its,r,ob,k _ _ (.inl rfl) e,c⟩
 | dK kvs=>obtain⟨z,y,vs,r,ob,es,ep,e,c⟩:=x;exact⟨z,y,vs,r,ob,es,ep,k _ _ (.inl rfl) e,c⟩
 | dT kvs =>
   obtain⟨z,y,xs,r,ob,es,ep,e,c⟩:=x;exact⟨z,y,xs,Paired.mapP r fun p q z=>⟨z.1,ht _ _ z.2.1,z.2.2⟩,ob,es,ep,k _ _ (.inl rfl) e,c⟩
 | set S n=>obtain⟨ob,es,ep,t,e,c⟩:=x;exact⟨ob,es,ep,t,k _ _ (.inl rfl) e,c⟩
 | ins C dx fs =>
   obtain⟨d,z,ne,e,mA,⟨od,es,ep,e2,c⟩,r⟩:=x;exact⟨ho _ ztz d,z,ne,k _ _ (.inl rfl) e,mA,⟨od,es,ep,k _ _ (.inr ztz) e2,c⟩,r⟩
 | own y=>obtain⟨ob,e⟩:=x;exact⟨ob,k _ _ (.inl rfl) e⟩
 | xd fs=>obtain⟨mA,⟨od,es,ep,e,c⟩,r⟩:=x;exact⟨mA,⟨od,es,ep,k _ _ (.inl rfl) e,c⟩,r⟩
 | rng lo hi=>obtain⟨t,u,v,e⟩:=x;exact⟨t,u,v,k _ _ (.inl rfl) e⟩
 | frz ob u ih=>obtain⟨e,q⟩:=x;exact⟨k _ _ (.inl rfl) e,ih q k ho⟩
 | tbl ps =>
   have e:h.get? a=some { cls:=.none,data:=.fields ps }:=x;show h'.get? a=some { cls:=.none,data:=.fields ps };exact k a _ (.inl rfl) e
 | met f y =>
   have e:h.get? a=some (PySem.W.methodObj (.ref f) (.ref y)):=x;show h'.get? a=some (PySem.W.methodObj (.ref f) (.ref y));exact k a _ (.inl rfl) e
 | ext φ=>obtain⟨p,⟨o,e⟩,st⟩:=x;exact⟨st _ _ p fun o q=>k _ _ (.inl rfl) q,⟨o,k _ _ (.inl rfl) e⟩,st⟩
open Classical in
noncomputable def Y8(B:Addr->Prop)(H:Hp):Hp:=fun b=>if B b then none else H b
open Classical in
noncomputable def V9(B:Addr->Prop)(H H1:Hp):Hp:=fun b=>if B b then H b else H1 b
structure Pw(B:Addr->Prop)(H:Hp):Prop where
 th:∀ b,B b->H b≠none
 cl:∀ a o,H a=some o->B a->∀ dx∈dxs o,B dx
 own:∀ a b,H b=some (.own a)->B b->B a
 tup:∀ t xs,B t->H t≠some (.tup xs)
section
variable{B:Addr->Prop}{H H1:Hp}{b:Addr}{o:HO}
theorem Vi(h:B b):Y8 B H b=none:=if_pos h
theorem Xc(h:¬ B b):Y8 B H b=H b:=if_neg h
theorem Ww(h:B b):V9 B H H1 b=H b:=if_pos h
theorem X6(h:¬ B b):V9 B H H1 b=H1 b:=if_neg h
theorem Uv(B:Addr->Prop)(H:Hp):Same (Y8 B H) H:=fun b o e=>by
 by_cases h:B b
 ·rw[Vi h] at e;cases e
 ·rw[Xc h] at e;exact e
theorem W9(h:H b=none):Y8 B H b=none:=by
 by_cases z:B b
 ·exact Vi z
 ·rw[Xc z];exact h
end
section
variable{P:Program}{w:World}{K:Frag}{mg:Str->Option Value}{base:Heap}{B:Addr->Prop}{H H1:Hp}{s s':Shared}{outer:List Env}{A:Around}
theorem ze0(k:Pw B H)(x:HOk P w H h):HOk P w (Y8 B H) h:=fun a o e=>by
 by_cases z:B a
 ·rw[Vi z] at e;cases e
 rw[Xc z] at e;refine(x a o e).stay (fun _ _ _ q=>q) (fun b q=>?_) (fun t xs q=>?_)
 ·rw[Xc fun y=>z (k.own a b q y)];exact q
 ·rw[Xc fun y=>k.tup t xs y q];exact q
theorem ze1(k:Pw B H)(e:Kr P w K mg base A outer s H):Kr P w K mg base A outer s (Y8 B H):=⟨e.frames,e.mod,fun b o q=>⟨(e.bs b o q).1,W9 (e.bs b o q).2⟩,e.bsz,e.funs,fun b q=>W9 (e.frf b q),ze0 k e.hok,e.bare⟩
theorem Ea(k:Pw B H)(e:Kr P w K mg base A outer s H)(u:Un (frs outer) [] (Y8 B H) H1 s.heap s'.heap):Un (frs outer) [] H (V9 B H H1) s.heap s'.heap:=by
 refine⟨fun b o q n hf hx=>u.keep b o q (W9 n) hf hx,fun b o q n hf hx=>u.slot b o q (W9 n) hf hx,fun b o q n hx=>?_,u.there,fun b xs q=>?_,fun b o x q=>?_,fun b ps q=>?_⟩
 ·rw[X6 fun z=>k.th b z n];exact u.free b o q (W9 n) hx
 ·by_cases z:B b
  ·rw[Ww z];exact q
  ·rw[X6 z];exact u.tups b xs (by rw[Xc z];exact q)
 ·by_cases z:B b
  ·rw[Ww z];exact q
  ·rw[X6 z];exact u.frzs b o x (by rw[Xc z];exact q)
 ·by_cases z:B b
  ·exact⟨#[],by rw[Ww z,q,Array.append_empty]⟩
  ·rw[X6 z];exact u.tbls b ps (by rw[Xc z];exact q)
theorem Dk(k:Pw B H)(e:Kr P w K mg base A outer s H)(u:Un (frs outer) [] (Y8 B H) H1 s.heap s'.heap)(z:B b):H1 b=none:=by
 cases q:H b with
 | none=>exact absurd q (k.th b z)
 | some o =>
   obtain⟨ob,hob⟩:=F9 (e.hok b o q);exact u.free b ob hob (Vi z) (by simp)
theorem Iu(k:Pw B H)(e:Kr P w K mg base A outer s H)(u:Un (frs outer) [] (Y8 B H) H1 s.heap s'.heap)(x:HOk P w H1 s'.heap):HOk P w (V9 B H H1) s'.heap:=fun a o q=>by
 by_cases z:B a
 ·rw[Ww z] at q;refine zez (e.hok a o q) (fun b v hb g=>?_) (fun b hb g=>?_) (fun t xs g=>?_)
  ·have zb:B b:=by
    rcases hb with rfl|hb
    ·exact z
    ·exact k.cl a o q z b hb
   refine u.keep b v g (Vi zb) (fun y=>?_) (by simp);exact k.th b zb (e.frf b y)
  ·rw[Ww (k.cl a o q z b hb)];exact g
  ·rw[X6 fun y=>k.tup t xs y g];exact u.tups t xs (by rw[Xc fun y=>k.tup t xs y g];exact g)
 ·rw[X6 z] at q;refine(x a o q).stay (fun _ _ _ g=>g) (fun b g=>?_) (fun t xs g=>?_)
  ·rw[X6 fun y=>by rw[Dk k e u y] at g;cases g];exact g
  ·rw[X6 fun y=>by rw[Dk k e u y] at g;cases g];exact g
end
theorem Wx(h:∀ b,B b->H1 b=none):Y8 B (V9 B H H1)=H1:=funext fun b=>by
 by_cases z:B b
 ·rw[Vi z,h b z]
 ·rw[Xc z,X6 z]
inductive spF(sp:Sp)(vs:List V)(H:Hp)(Q:VK)(E:XK):Prop where
 | mk(B:Addr->Prop)(_:Pw B H)(_:sp vs (Y8 B H) (fun v H1=>(∀ b,B b->H1 b=none)->Q v (V9 B H H1)) (fun c o H1=>E c o (V9 B H H1)))
theorem FnOk.frame{P:Program}{w:World}{K:Frag}{mg:Str->Option Value}{base:Heap}{k:Nat}{f:Addr}{fd:FuncData}{ps:List Str}{sp:Sp}(F:FnOk P w K mg base (CX1 P w) k f fd ps sp):FnOk P w K mg base (CX1 P w) k f fd ps (spF sp):=by
 refine⟨fun vs H Q E ⟨B,_,h⟩=>F.len vs _ _ _ h,fun A outer s H args us vs Q E hr he hb hv ⟨B,ok,h⟩=>?_⟩;refine codeAny_mono (F.run A outer s (Y8 B H) args us vs _ _ hr (ze1 ok he) hb hv h) fun r s' c=>?_;cases r with
 | ok d =>
   cases d with
   | ret u =>
     obtain⟨v,H',c1,c2,c3,c4,c5,c6⟩:=c;exact⟨v,_,c1,c2,Ea ok he c3,Iu ok he c3 c4,c5,c6 fun b z=>Dk ok he c3 z⟩
   | _=>exact c
 | error e =>
   obtain⟨a,T,cls,H',e1,c1,c2,c3,c4,c5,c6⟩:=c;refine⟨a,T,cls,_,e1,c1,c2,Ea ok he c3,Iu ok he c3 c4,?_,c6⟩;obtain⟨f1,f2,f3,f4,f5⟩:=c5;have nb:∀ {x:Addr},s.heap.get? x=none->H' x=none->V9 B H H' x=none:=fun {x} hx hn=>by
    by_cases z:B x
    ·cases q:H x with
     | none=>exact absurd q (ok.th x z)
     | some o =>
       obtain⟨ob,hob⟩:=F9 (he.hok x o q);rw[hx] at hob;cases hob
    ·rw[X6 z];exact hn
   exact⟨f1,f2,f3,nb f2 f4,nb f3 f5⟩
inductive zgc(nu:List Int)(n:Nat):Sea->Prop where
 | nil {S:Sea} (e:S.std=[]) (o:SOk nu n S):zgc nu n S
 | snoc {S0 S:Sea} (h:zgc nu n S0) (st:Pt S0 S) (o:SOk nu n S):zgc nu n S
theorem Va(e:Same H H'):Same (Y8 B H) (Y8 B H'):=fun b o q=>by
 by_cases h:B b
 ·rw[Vi h] at q;cases q
 ·rw[Xc h] at q ⊢;exact e _ _ q
theorem Dl(h:∀ b,B b->(∃ xs,H b=some (.lst xs))\/∃ kvs,H b=some (.dK kvs)):Pw B H:=by
 refine⟨fun b z e=>?_,fun a o e z dx hd=>?_,fun a b e z=>?_,fun t xs z e=>?_⟩
 ·rcases h b z with ⟨_,q⟩|⟨_,q⟩
  ·rw[e] at q;cases q
  ·rw[e] at q;cases q
 ·rcases h a z with ⟨_,q⟩|⟨_,q⟩
  ·rw[e] at q;cases q;cases hd
  ·rw[e] at q;cases q;cases hd
 ·rcases h b z with ⟨_,q⟩|⟨_,q⟩
  ·rw[e] at q;cases q
  ·rw[e] at q;cases q
 ·rcases h t z with ⟨_,q⟩|⟨_,q⟩
  ·rw[e] at q;cases q
  ·rw[e] at q;cases q
structure D22(nu:List Int)(D:V8):Prop where
 aw:∀ i n,D≠.away i n
 dr:∀ ms,D=.draw ms->ms=[]
 sm:zaa D
 en:∀ k g c,D=.enrol k g c->k∈nu\/badI k g c
section
variable{B:Addr->Prop}{H H' H1 H2:Hp}{b:Addr}{o:HO}
theorem Bw(h:B b):Y8 B (upd H b o)=Y8 B H:=funext fun x=>by
 by_cases z:B x
 ·rw[Vi z,Vi z]
 ·rw[Xc z,Xc z,Zh (fun e=>z (by rw[e];exact h))]
theorem Lo(g:∀ b,B b->H2 b=none):Same H2 (V9 B H H2):=fun x o e=>by
 by_cases z:B x
 ·rw[g x z] at e;cases e
 ·rw[X6 z];exact e
end
def B22(d lp ll ln le:Addr):Addr->Prop:=fun x=>x=d\/x=lp\/x=ll\/x=ln\/x=le
structure zk9(ca:CA)(nu:List Int)(d lp ll ln le:Addr)(A:SAd)(S:Sea)(n:Nat)(H:Hp):Prop where
 sea:Zv ca (Y8 (B22 d lp ll ln le) H) A S
 st:zks H d lp ll S
 i:I22 S
 hi:zgc nu n S
 lv:H ln=some (.lst (nu.map V.int))
 lw:∃ ys,H le=some (.lst ys)
 nl:lp≠ln/\ll≠ln
 ne:lp≠le/\ll≠le
end G
namespace G
open PySem PySem.Spec PyProof.Rows L2
def DrX(S0 S:Sea):Prop:=∀ d y,S.std=S0.std++[(d,y)]->(d.1=("draw up":Str)/\S0.cur=none)\/(d.1≠("draw up":Str)/\S0.cur.isSome=S.cur.isSome)
inductive zbo(E:Sea->Prop)(nu:List Int)(n:Nat):Sea->Prop where
 | nil {S:Sea} (e:S.std=[]) (o:SOk nu n S) (x:E S):zbo E nu n S
 | snoc {S0 S:Sea} (h:zbo E nu n S0) (st:Pt S0 S) (dr:DrX S0 S) (o:SOk nu n S) (x:E S):zbo E nu n S
def zj1(r o:Int)(dr:Bool)(lp lo ll:Addr):List (Key×V):=[(.inr "rounds",.int r),(.inr "over",.int o),(.inr "drawn",.bl dr),(.inr "people",.ref lp),(.inr "out",.ref lo),(.inr "log",.ref ll)]
structure zkt(H:Hp)(d lp lo ll:Addr)(S:Sea):Prop where
 dd:H d=some (.dK (zj1 S.len S.led.length S.cur.isSome lp lo ll))
 pp:H lp=some (.lst ((S.ppl.map (·.1)).map V.int))
 oo:∃ ots,H lo=some (.lst ots)/\TupL H ots (S.out.map oiV)
 gg:∃ lts,H ll=some (.lst lts)/\TupL H lts (S.std.map fun x=>Q3 x.1)
 n1:lp≠lo
 n2:lp≠ll
 n3:lo≠ll
def B23(d lp lo ll:Addr)(X:Addr->Prop):Addr->Prop:=fun x=>x=d\/x=lp\/x=lo\/x=ll\/X x
structure zla(ca:CA)(E:Sea->Prop)(nu:List Int)(d lp lo ll:Addr)(X:Addr->Prop)(A:SAd)(S:Sea)(n:Nat)(H:Hp):Prop where
 sea:Zv ca (Y8 (B23 d lp lo ll X) H) A S
 st:zkt H d lp lo ll S
 hi:zbo E nu n S
 xs:∀ x,X x->∃ ys,H x=some (.lst ys)
 nx:∀ x,X x->x≠lp/\x≠lo/\x≠ll
structure D23(nu:List Int)(j:Nat)(D:V8):Prop where
 dr:∀ ms,D=.draw ms->ms=[]
 sm:zaa D
 en:∀ k g c,D=.enrol k g c->nu[j]?=some k/\1<=g/\g<=9/\1<=c/\c<=99
structure E24(S:Sea):Prop where
 ppl:S.ppl=[]
 out:S.out=[]
 st:(S.cur=none/\S.std=[])\/∃ s,S.cur=some s/\S.std=[((("draw up":Str),(s.ms.length:Int),atV S),none)]
 gv:∀ s,S.cur=some s\/s∈S.old->s.gv=List.replicate s.ms.length V.non
inductive zgd(ok:Addr->Prop)(H:Hp):List V->List Z3->Prop where
 | nil:zgd ok H [] []
 | cons {l:Addr} {ts:List V} {ls:List V} {s:Z3} {ss:List Z3} (h:H l=some (.lst ts)) (q:TupL H ts (s.ms.map pV)) (o:ok l) (r:zgd ok H ls ss):zgd ok H (.ref l :: ls) (s :: ss)
def zj2(r:Int)(lv:Addr)(v:V):List (Key×V):=[(.inr "rounds",.int r),(.inr "over",.ref lv),(.inr "listed",v)]
structure zku(ok:Addr->Prop)(H:Hp)(d lv:Addr)(v:V)(S:Sea):Prop where
 dd:H d=some (.dK (zj2 S.len lv v))
 vv:∃ ls,H lv=some (.lst ls)/\zgd ok H ls S.old
 li:zia ok H v (S.cur.map (·.ms))
def B24(d lv lc:Addr):Addr->Prop:=fun x=>x=d\/x=lv\/x=lc
structure zlb(K:Frag)(ca:CA)(d lv lc b:Addr)(cs ns:List Int)(v:V)(A:SAd)(S:Sea)(n:Nat)(H:Hp):Prop where
 sea:Zv ca (Y8 (B24 d lv lc) H) A S
 st:zku (fun x=>x∉A.fp/\¬ B24 d lv lc x) H d lv v S
 e:E24 S
 so:SOk [] n S
 cl:H lc=some (.lst (cs.map V.int))
 sc:Su K A (Y8 (B24 d lv lc) H) b (ns.map V.int)
section
variable{S S' S1:Sea}{D:V8}{Ds Es:List V8}{v:V}{H H':Hp}{nu:List Int}{n:Nat}
structure zlc(S S':Sea):Prop where
 len:S'.len=S.len
 led:S'.led=S.led
 ppl:S'.ppl=S.ppl
end
structure D25(nu:List Int)(D:V8):Prop where
 sm:zaa D
 dr:∀ ms,D=.draw ms->ms.length<=100
 en:∀ n g c,D=.enrol n g c->1<=n/\1<=g/\1<=c/\c<=99/\(¬ badI n g c->n∈nu)
structure zk2(S S1:Sea)(es:List P3)(k:Nat)(ps:List (Int×Int)):Prop where
 std:∃ std0 w1 w2,S1.std.map (·.1)=std0++[w1]++[w2]/\std0.length=98/\w1.1≠("enrol":Str)/\w2.1≠("enrol":Str)
 led:S1.led=S.led
 len:S1.len=S.len
 ppl:S1.ppl=es
 out:∀ p∈S1.out,p∈ps.take (k+1)
structure Sm(S:Sea):Prop where
 std:∀ x∈S.std,Yu x.1.2.1/\Yu x.1.2.2
 led:S.led.length<=S.len
 len:S.len<=60
end G
namespace L2
open PySem PySem.Spec PyProof.Rows G
inductive LNe(K:Frag)(x:Str)(st:Stmt):Prop where
 | mk {f:Addr} {oc kV dc pm cd ct:Value} {od an:Option Addr} {sl:Array (Option Value)} (b:NsB K x f) (l:LkF K f x x st oc kV dc pm cd ct od an sl) (c:PySem.W.codeIn K cd x=true) (k:PySem.W.keepIn K (.ref f)=true)
inductive LMe(K:Frag)(C:Addr)(x q:Str)(st:Stmt):Prop where
 | mk {f:Addr} {oc kV dc pm cd ct:Value} {od an:Option Addr} {sl:Array (Option Value)} (b:FdB K C x f) (l:LkF K f x q st oc kV dc pm cd ct od an sl) (c:PySem.W.codeIn K cd q=true) (k:PySem.W.keepIn K (.ref f)=true) (i:PySem.W.isFn K (.ref f)=true)
structure ze2(K:Frag)(C:Addr):Prop where
 pg:PySem.W.plainGet K C Str.empty=true
 hd:PySem.W.hasDictIn K C=true
 po:PySem.W.plainOver K C=true
 sa:PySem.W.findIn K (.ref C) "__setattr__"=some (some (.builtin "object.__setattr__"))
 mk_:PySem.W.makesIn K C=true
 kc:PySem.W.keepIn K (.ref C)=true
structure zld(K:Frag)(c:CA)(e:Addr)(N:Ref->Prop):Prop where
 ga:∀ r:Ref,N r->PySem.W.findIn K (.ref (r.cls c)) "__getattribute__"=some (some (.builtin "BaseException.__getattribute__"))
 gk:∀ r:Ref,N r->PySem.W.findIn K (.ref (r.cls c)) "__getattr__"=some none
 at_:∀ r:Ref,N r->PySem.W.findIn K (.ref (r.cls c)) "__class__"=some (some (.builtin "object.__class__"))
 mx:∀ r:Ref,N r->PySem.W.mroIn K (r.cls c) (.type "BaseException")=some true
 mo:∀ r:Ref,N r->PySem.W.mroIn K (r.cls c) (.type "object")=some true
 mB:∀ r:Ref,N r->PySem.W.mroIn K (r.cls c) (.ref e)=some true
 kit:∀ r t:Ref,N r->PySem.W.kitOne K (.ref (r.cls c)) (.ref (t.cls c))=some (decide (r=t))
 kitV:∀ r:Ref,N r->PySem.W.kitOne K (.ref (r.cls c)) (.type "ValueError")=some true
section
variable{P:Program}{w:World}{base h:Heap}{K:Frag}{mg:Str->Option Value}{x y q:Str}{k:Nat}{ps:List Str}{sp:Sp}{C:Addr}{st:Stmt}
theorem dE(Z:XG P w base K mg h)(l:LNe K x st)(ok:∀ {f fd},Fun K x x st f fd->FnOk P w K mg base (CX1 P w) k f fd ps sp)(hb:BnA x x st ps:=by first|exact bn1|exact bn2|exact bn3|exact bn4|exact bn5):Z1 P w K mg base x k ps sp:=by
 cases l with
 | mk b l c k=>exact dN Z ⟨b,l,c,k⟩ ok hb
theorem mE(Z:XG P w base K mg h)(l:LMe K C x q st)(ok:∀ {f fd},Fun K x q st f fd->FnOk P w K mg base (CX1 P w) k f fd ps sp)(hb:BnA x q st ps:=by first|exact bn1|exact bn2|exact bn3|exact bn4|exact bn5):Zt P w K mg base C x k ps sp:=by
 cases l with
 | mk b l c k i=>exact mM Z ⟨b,l,c,k,i⟩ ok hb
theorem nE(Z:XG P w base K mg h)(l:LMe K C "__init__" q st)(o:ze2 K C)(c:PySem.W.nsIn K mainGlobals y=some (some (.ref C)))(ok:∀ {f fd},Fun K "__init__" q st f fd->FnOk P w K mg base (CX1 P w) k f fd ps sp)(hb:BnA "__init__" q st ps:=by first|exact bn1|exact bn2|exact bn3|exact bn4|exact bn5):Tq P w K mg base y C k ps sp:=by
 cases l with
 | mk b l c' k i=>exact nM Z ⟨b,l,c',k,i⟩ o.mk_ o.kc c ok hb
end
end L2
namespace G
open PySem PySem.Spec PyProof.Rows L2
def one1(b:Addr):Addr->Prop:=fun x=>x=b
theorem zab(h:H b=none)(e:Same H H'):Same H (Y8 (one1 b) H'):=fun x o q=>by
 have:¬ one1 b x:=fun z=>by rw[show x=b from z] at q;rw[h] at q;cases q
 rw[Xc this];exact e _ _ q
theorem zbp(h:H b=some (.lst ts)):Pw (one1 b) H:=Dl fun x z=>.inl ⟨ts,by rw[show x=b from z];exact h⟩
@[elab_as_elim] theorem al{H:Hp}{l:Addr}{o:HO}{p:Hp->Prop}(X:Hp)(f:H l=none)(e:X=upd H l o)(h:∀ H',H' l=some o->Same H H'->p H'):p X:=e▸h _ Ze (Zo f)
end G
namespace G
open PySem PySem.Spec PyProof.Rows L2
structure Rc where
 A:SAd
 l:Addr
 ds:List Addr
 d:Addr
 P:Pg
 S:Sea
def Rc.w(r:Rc):Addr->Prop:=fun x=>x∈r.A.fp\/x∈r.ds++[r.d]
structure Sd(ca:CA)(nu:List Int)(n:Nat)(H:Hp)(r:Rc):Prop where
 sea:Zv ca H r.A r.S
 hl:H r.l=some (.lst ((r.ds++[r.d]).map V.ref))
 ho:r.l∉r.A.fp
 F:zkq true (·∉r.A.fp) H nu n r.ds r.d r.P r.S
 oo:O3 n r.S
noncomputable def Vw(r:Rc)(lb:Addr)(H:Hp):Hp:=Y8 (fun x=>x=lb\/r.w x) H
structure Two(ca:CA)(nu:List Int)(n:Nat)(lb:Addr)(R:Bool->Rc)(H:Hp):Prop where
 sd:∀ c,Sd ca nu n (Vw (R !c) lb H) (R c)
 hlb:H lb=some (.lst [.ref (R false).l,.ref (R true).l])
 wl:∀ c,¬ (R c).w lb
end G
namespace G
open PySem PySem.Spec PyProof.Rows L2
section
variable{rows:List (List Int)}{gs:List V}{m:Nat}{nu:Nat->Int}{ix:Nat->Nat}
theorem zic(hinj:∀ i j,i<m->j<m->nu i=nu j->i=j)(hix:∀ k,k<rows.length->ix k<m)(hinx:∀ k l,k<rows.length->l<rows.length->ix k=ix l->k=l)(hsur:∀ i,i<m->∃ k,k<rows.length/\ix k=i)
  (hrow:∀ (k:Nat) r,rows[k]?=some r->∀ x,x∈r↔∃ i,i<m/\ix k<=i/\x=nu i) (F:Ya rows gs) (T:Wl rows gs):∀ k,k<rows.length->gs[k]?=some (.int (nu (ix k))):=by
 have row:∀ k,k<rows.length->∃ r,rows[k]?=some r:=fun k hk=>⟨_,zs5 hk⟩
 have full:∀ p,gs[p]?≠some V.non:=fun p hp=>by
  obtain⟨S,sp,hS⟩:=T p hp;have desc:∀ n q,S q->ix q<=n->gs[q]?=some (.int (nu (ix q))):=fun n=>by
   induction n with
   | zero =>
     intro q sq hn;obtain⟨lq,hq⟩:=hS q sq;obtain⟨r,hr⟩:=row q lq;obtain⟨q',_,g',s'⟩:=hq r hr (nu (ix q)) ((hrow q r hr _).mpr ⟨ix q,hix q lq,ztc _,rfl⟩);obtain⟨r',hr',hm⟩:=F.may q' _ g';obtain⟨i,hi,hle,e⟩:=(hrow q' r' hr' _).mp hm;have:=hinj _ _ (hix q lq) hi e;have e2:q'=q:=hinx _ _ (hS q' s').1 lq ⋯;rw[e2] at g';exact g'
   | succ n ih =>
     intro q sq hn;obtain⟨lq,hq⟩:=hS q sq;obtain⟨r,hr⟩:=row q lq;obtain⟨q',_,g',s'⟩:=hq r hr (nu (ix q)) ((hrow q r hr _).mpr ⟨ix q,hix q lq,ztc _,rfl⟩);obtain⟨r',hr',hm⟩:=F.may q' _ g';obtain⟨i,hi,hle,e⟩:=(hrow q' r' hr' _).mp hm;have ei:=hinj _ _ (hix q lq) hi e;by_cases z:ix q'=ix q
     ·have e2:q'=q:=hinx _ _ (hS q' s').1 lq z;rw[e2] at g';exact g'
     ·have h1:=ih q' s' ⋯;rw[g'] at h1;have h2:nu (ix q)=nu (ix q'):=by injection h1 with h1;injection h1
      have:=hinj _ _ (hix q lq) (hix q' (hS q' s').1) h2;omega
  have:=desc _ p sp (ztc _);rw[hp] at this;cases this
 have has:∀ k,k<rows.length->∃ i,i<m/\ix k<=i/\gs[k]?=some (.int (nu i)):=fun k hk=>by
  have hk2:k<gs.length:=by rw[F.len];exact hk
  have e:=zs5 hk2;rcases F.one _ (ztw hk2) with z|⟨n,z⟩
  ·rw[z] at e;exact absurd e (full k)
  ·rw[z] at e;obtain⟨r,hr,hm⟩:=F.may k n e;obtain⟨i,hi,hle,rfl⟩:=(hrow k r hr _).mp hm;exact⟨i,hi,hle,e⟩
 have down:∀ d k,k<rows.length->m<=ix k+d->gs[k]?=some (.int (nu (ix k))):=fun d=>by
  induction d with
  | zero=>intro k hk h;have:=hix k hk;omega
  | succ d ih =>
    intro k hk h;obtain⟨i,hi,hle,e⟩:=has k hk;by_cases z:i=ix k
    ·rw[z] at e;exact e
    ·obtain⟨l,hl,el⟩:=hsur i hi;have h2:=ih l hl ⋯;rw[el] at h2;have:=F.inj k l _ e h2;rw[this] at z;exact absurd el.symm z
 exact fun k hk=>down m k hk ⋯
end
section
variable(nu:Nat->Int)(cl:Nat->Int)(may:List (List Int))(turn:Int)
def barB(j k:Nat):Bool:=decide (k<may.length) && !decide (nu j∈may.getD k [])
def Rz(t j:Nat):List Int:=(if barB nu may j (2*t) then [cl (2*t)] else [])++(if barB nu may j (2*t+1) then [cl (2*t+1)] else [])++[cl (10+2*t),cl (11+2*t)]
def pmS(t j:Nat):P3:=if ((j:Int)+turn)%2=1 then ((Rz nu cl may t j).getD 1 0,(Rz nu cl may t j).getD 0 0,(j:Int)+1) else ((Rz nu cl may t j).getD 0 0,(Rz nu cl may t j).getD 1 0,(j:Int)+1)
def rotS:Nat:=(turn%9).toNat
def Xf(t:Nat):List P3:=((List.range 9).map (pmS nu cl may turn t)).drop (rotS turn)++((List.range 9).map (pmS nu cl may turn t)).take (rotS turn)
def Q4:List P3:=(List.range 9).map fun j=>(nu j,(j:Int)+1,cl 21)
theorem zge(t j:Nat):∃ u v,(Rz nu cl may t j).getD 0 0=cl u/\(Rz nu cl may t j).getD 1 0=cl v/\u≠v/\(u=2*t\/u=2*t+1\/u=10+2*t)/\(v=2*t+1\/v=10+2*t\/v=11+2*t)/\(u=2*t↔barB nu may j (2*t)=true)/\((u=2*t+1\/v=2*t+1)↔barB nu may j (2*t+1)=true):=by
 unfold Rz;generalize barB nu may j (2*t)=b0;generalize barB nu may j (2*t+1)=b1;cases b0<;>cases b1
 ·exact⟨10+2*t,11+2*t,rfl,rfl,by omega,by omega,by omega,⟨by omega,nofun⟩,⟨by omega,nofun⟩⟩
 ·exact⟨2*t+1,10+2*t,rfl,rfl,by omega,by omega,by omega,⟨by omega,nofun⟩,⟨fun _=>rfl,fun _=>.inl rfl⟩⟩
 ·exact⟨2*t,10+2*t,rfl,rfl,by omega,by omega,by omega,⟨fun _=>rfl,fun _=>rfl⟩,⟨by omega,nofun⟩⟩
 ·exact⟨2*t,2*t+1,rfl,rfl,by omega,by omega,by omega,⟨fun _=>rfl,fun _=>rfl⟩,⟨fun _=>rfl,fun _=>.inr rfl⟩⟩
theorem Eb(t j:Nat):∃ u v,(pmS nu cl may turn t j).1=cl u/\(pmS nu cl may turn t j).2.1=cl v/\(pmS nu cl may turn t j).2.2=(j:Int)+1/\u≠v/\(u=2*t\/u=2*t+1\/u=10+2*t\/u=11+2*t)/\(v=2*t\/v=2*t+1\/v=10+2*t\/v=11+2*t)/\((u=2*t\/v=2*t)↔barB nu may j (2*t)=true)/\((u=2*t+1\/v=2*t+1)↔barB nu may j (2*t+1)=true):=by
 obtain⟨u,v,e1,e2,n,h1,h2,h3,h4⟩:=zge nu cl may t j;unfold pmS;split
 ·exact⟨v,u,e2,e1,rfl,n.symm,by omega,by omega,⟨fun z=>h3.mp ⋯,fun z=>.inr (h3.mpr z)⟩,⟨fun z=>h4.mp z.symm,fun z=>(h4.mpr z).symm⟩⟩
 ·exact⟨u,v,e1,e2,rfl,n,by omega,by omega,⟨fun z=>h3.mp ⋯,fun z=>.inl (h3.mpr z)⟩,h4⟩
theorem Jp:rotS turn<9:=by unfold rotS;omega
theorem Wy(t:Nat):(Xf nu cl may turn t).length=9:=by
 have:=Jp turn;unfold Xf;rw[zs8,zu8,zur,zs4,ztr];omega
theorem Mm(t k:Nat)(hk:k<9):(Xf nu cl may turn t)[k]?=some (pmS nu cl may turn t ((k+rotS turn)%9)):=by
 have hs:=Jp turn;unfold Xf;generalize rotS turn=s at hs;have g:∀ j,j<9->((List.range 9).map (pmS nu cl may turn t))[j]?=some (pmS nu cl may turn t j):=fun j hj=>by
  rw[zs7,zt9 hj];rfl
 rw[List.getElem?_append,zu8,zs4,ztr];split
 ·rw[List.getElem?_drop,g _ ⋯,show (k+s)%9=s+k by omega]
 ·rw[List.getElem?_take,if_pos ⋯,g _ ⋯,show (k+s)%9=k-(9-s) by omega]
end
theorem Lp{Rs:List (List Row)}{n g c h gu d:Int}{o:Bool}{rest:Int}:(Ku Rs n g c h gu d o rest).isEmpty=(!o && !decide (g<d) && !(decide (c=h)||decide (c=gu)) && !(Tt Rs n h rest||Tt Rs n gu rest)):=by
 unfold Ku;generalize (Tt Rs n h rest||Tt Rs n gu rest)=b1;generalize (decide (c=h)||decide (c=gu))=b2;generalize decide (g<d)=b3;cases o<;>cases b1<;>cases b2<;>cases b3<;>rfl
theorem ze3{Rs:List (List Row)}{n c rest:Int}(h:(Rs.length:Int)<=rest):Tt Rs n c rest=true↔∃ rs∈Rs,rs.any (hit n c)=true:=by
 unfold Tt;have e:(if (0:Int)>(Rs.length:Nat)-rest then 0 else ((Rs.length:Nat):Int)-rest)=0:=by split<;>omega
 rw[e,decide_eq_true_iff,Int.natCast_pos,zf1];constructor
 ·rintro⟨j,r,h1,h2,_⟩;exact⟨r,ztb h1,h2⟩
 ·rintro⟨rs,h1,h2⟩;obtain⟨j,hj,rfl⟩:=zt2 h1;exact⟨j,_,zs5 hj,h2,by omega⟩
section
variable{nu cl:Nat->Int}{may:List (List Int)}{tn:Nat->Int}
structure Mn(nu cl:Nat->Int)(may:List (List Int))(tn:Nat->Int)(S:Sea)(t:Nat):Prop where
 ppl:S.ppl=Q4 nu cl
 out:S.out=[]
 cur:S.cur=none
 led:S.led.length=t
 old:S.old.length=t
 rest:(t:Int)<=S.rest
 hits:∀ j,j<9->∀ x,(∃ rs∈S.led,rs.any (hit (nu j) x)=true)↔∃ t',t' < t/\(x=(pmS nu cl may (tn t') t' j).1\/x=(pmS nu cl may (tn t') t' j).2.1)
structure Wd(nu cl:Nat->Int):Prop where
 nu:∀ i j,i<9->j<9->nu i=nu j->i=j
 cl:∀ i j,i<22->j<22->cl i=cl j->i=j
theorem Mn.late(W:Wd nu cl)(h:Mn nu cl may tn S t)(ht:t<=5)(hj:j<9)(hu:u<22):Tt S.led (nu j) (cl u) S.rest=true↔∃ t',t' < t/\((u=2*t'/\barB nu may j u=true)\/(u=2*t'+1/\barB nu may j u=true)\/((u=10+2*t'\/u=11+2*t')/\(cl u=(pmS nu cl may (tn t') t' j).1\/cl u=(pmS nu cl may (tn t') t' j).2.1))):=by
 rw[ze3 (by rw[h.led];exact h.rest),h.hits j hj];constructor
 ·rintro⟨t',ht',e⟩;refine⟨t',ht',?_⟩;obtain⟨p,q,e1,e2,_,n,h1,h2,h3,h4⟩:=Eb nu cl may (tn t') t' j;have hpq:u=p\/u=q:=by
   rw[e1,e2] at e;exact e.imp (fun z=>W.cl _ _ hu ⋯ z) (fun z=>W.cl _ _ hu ⋯ z)
  rcases(by omega:u=2*t'\/u=2*t'+1\/u=10+2*t'\/u=11+2*t') with z|z|z
  ·exact .inl ⟨z,by rw[z];exact h3.mp ⋯⟩
  ·exact .inr (.inl ⟨z,by rw[z];exact h4.mp ⋯⟩)
  ·exact .inr (.inr ⟨z,e⟩)
 ·rintro⟨t',ht',e⟩;refine⟨t',ht',?_⟩;obtain⟨p,q,e1,e2,_,n,h1,h2,h3,h4⟩:=Eb nu cl may (tn t') t' j;rcases e with ⟨z,b⟩|⟨z,b⟩|⟨_,e⟩
  ·rw[z] at b ⊢;rw[e1,e2];exact(h3.mpr b).imp (fun y=>by rw[y]) (fun y=>by rw[y])
  ·rw[z] at b ⊢;rw[e1,e2];exact(h4.mpr b).imp (fun y=>by rw[y]) (fun y=>by rw[y])
  ·exact e
theorem Mn.row(W:Wd nu cl)(h:Mn nu cl may tn S t)(ht:t<5)(hj:j<9)(x:Int):x∈mayM S (pmS nu cl may (tn t) t j)↔∃ i,i<9/\j<=i/\x=nu i:=by
 obtain⟨u,v,e1,e2,e3,n,h1,h2,h3,h4⟩:=Eb nu cl may (tn t) t j;have nl:∀ i w,i<9->(w=2*t\/w=2*t+1\/w=10+2*t\/w=11+2*t)->Tt S.led (nu i) (cl w) S.rest=false:=fun i w hi hw=>by
  rw[<- Bool.not_eq_true,h.late W ⋯ hi ⋯];rintro⟨t',ht',e⟩;omega
 have nc:∀ w,(w=2*t\/w=2*t+1\/w=10+2*t\/w=11+2*t)->decide (cl 21=cl w)=false:=fun w hw=>ztd fun z=>by
  have:=W.cl _ _ ⋯ ⋯ z;omega
 unfold mayM;rw[h.ppl,h.out];unfold Q4;constructor
 ·intro hx;obtain⟨y,hy,rfl⟩:=zte.mp hx;obtain⟨hy1,hy2⟩:=zt1.mp hy;obtain⟨i,hi,rfl⟩:=zte.mp hy1;have hi:=zt5.mp hi;refine⟨i,hi,?_,rfl⟩;rw[Lp] at hy2;simp only[zus,zvb,decide_eq_false_iff_not,e3] at hy2;omega
 ·rintro⟨i,hi,hji,rfl⟩;refine zte.mpr ⟨(nu i,(i:Int)+1,cl 21),zt1.mpr ⟨zte.mpr ⟨i,zt5.mpr hi,rfl⟩,?_⟩,rfl⟩;rw[Lp,e1,e2,e3,nl i u hi h1,nl i v hi h2,nc u h1,nc v h2,ztd (show ¬ (i:Int)+1<(j:Int)+1 by omega)];rfl
end
section
variable{nu cl:Nat->Int}{may:List (List Int)}{tn:Nat->Int}
theorem ze4{S:Sea}{ms:List P3}{k:Nat}{m:P3}(h:ms[k]?=some m):(mayS S ms)[k]?=some (mayM S m):=by
 unfold mayS;rw[zs7,h];rfl
theorem Mn.draw{S:Sea}{t:Nat}(W:Wd nu cl)(h:Mn nu cl may tn S t)(ht:t<5){gv:List V}(F:Ya (mayS S (Xf nu cl may (tn t) t)) gv)(T:Wl (mayS S (Xf nu cl may (tn t) t)) gv):∀ k,k<9->gv[k]?=some (.int (nu ((k+rotS (tn t))%9))):=by
 have hl:(mayS S (Xf nu cl may (tn t) t)).length=9:=by unfold mayS;rw[zs4,Wy]
 have hs:=Jp (tn t);intro k hk;refine zic (m:=9) (nu:=nu) (ix:=fun k=>(k+rotS (tn t))%9) (fun i j hi hj e=>W.nu i j hi hj e) (fun k _=>by show (k+rotS (tn t))%9<9;omega) (fun k l hk hl' e=>?_) (fun i hi=>?_) (fun k r hr x=>?_) F T k ⋯
 ·rw[hl] at hk hl';have e:(k+rotS (tn t))%9=(l+rotS (tn t))%9:=e;omega
 ·refine⟨(i+9-rotS (tn t))%9,by omega,?_⟩;show ((i+9-rotS (tn t))%9+rotS (tn t))%9=i;omega
 ·have hk9:k<9:=by rw[<- hl];exact(zs6.mp hr).1
  rw[ze4 (Mm nu cl may (tn t) t k hk9)] at hr;cases hr;exact h.row W ht ⋯ x
theorem Ec(hl:gv.length=9)(hg:∀ k,k<9->gv[k]?=some (.int (nu ((k+rotS (tn t))%9))))(W:Wd nu cl)(hj:j<9)(x:Int):(Xz ⟨Xf nu cl may (tn t) t,mr,gv,gp⟩).any (hit (nu j) x)=true↔(x=(pmS nu cl may (tn t) t j).1\/x=(pmS nu cl may (tn t) t j).2.1):=by
 have hs:=Jp (tn t);have row:∀ k,k<9->(Xz ⟨Xf nu cl may (tn t) t,mr,gv,gp⟩)[k]?=some (Ij (pmS nu cl may (tn t) t ((k+rotS (tn t))%9)) (.int (nu ((k+rotS (tn t))%9)))):=fun k hk=>by
  unfold Xz;rw[List.getElem?_zipWith,Mm nu cl may (tn t) t k hk,hg k hk]
 have len:(Xz ⟨Xf nu cl may (tn t) t,mr,gv,gp⟩).length=9:=by
  unfold Xz;rw[List.length_zipWith,Wy,hl];rfl
 have ht:∀ i,i<9->(hit (nu j) x (Ij (pmS nu cl may (tn t) t i) (.int (nu i)))=true↔i=j/\((pmS nu cl may (tn t) t i).1=x\/(pmS nu cl may (tn t) t i).2.1=x)):=fun i hi=>by
  unfold hit Ij;show (decide (some (nu i)=some (nu j))&&(decide ((pmS nu cl may (tn t) t i).1=x)||decide ((pmS nu cl may (tn t) t i).2.1=x)))=true↔_;rw[zus,Bool.or_eq_true,decide_eq_true_iff,decide_eq_true_iff,decide_eq_true_iff];constructor
  ·rintro⟨z,y⟩;exact⟨W.nu _ _ hi hj (Option.some.inj z),y⟩
  ·rintro⟨z,y⟩;exact⟨by rw[z],y⟩
 rw[List.any_eq_true];constructor
 ·rintro⟨r,hr,hh⟩;obtain⟨k,hk,rfl⟩:=zt2 hr;have h1:=row k ⋯;rw[zs5 hk] at h1;rw[Option.some.inj h1] at hh;obtain⟨z,y⟩:=(ht _ ⋯).mp hh;rw[z] at y;exact y.imp Eq.symm Eq.symm
 ·intro y;have h1:=row ((j+9-rotS (tn t))%9) ⋯;have e:((j+9-rotS (tn t))%9+rotS (tn t))%9=j:=by omega
  rw[e] at h1;exact⟨_,ztb h1,(ht j hj).mpr ⟨rfl,y.imp Eq.symm Eq.symm⟩⟩
theorem Mn.close(W:Wd nu cl)(h:Mn nu cl may tn S t)(ht:t<5)(hr:(t:Int)+1<=S.rest)(F:Ya (mayS S (Xf nu cl may (tn t) t)) gv)(T:Wl (mayS S (Xf nu cl may (tn t) t)) gv):Mn nu cl may tn (Mj (V5 S (Xf nu cl may (tn t) t) gv) ⟨Xf nu cl may (tn t) t,mayS S (Xf nu cl may (tn t) t),gv,[]⟩) (t+1):=by
 have hg:=h.draw W ht F T;have hl:gv.length=9:=by rw[F.len];unfold mayS;rw[zs4,Wy]
 refine⟨h.ppl,h.out,rfl,?_,?_,hr,fun j hj x=>?_⟩
 ·show (S.led++[_]).length=t+1;rw[zs8,h.led];rfl
 ·show (S.old++[_]).length=t+1;rw[zs8,h.old];rfl
 show (∃ rs∈S.led++[_],_)↔_;constructor
 ·rintro⟨rs,hrs,hh⟩;rcases ztg.mp hrs with z|z
  ·obtain⟨t',ht',y⟩:=(h.hits j hj x).mp ⟨rs,z,hh⟩;exact⟨t',by omega,y⟩
  ·rw[zs9.mp z] at hh;exact⟨t,by omega,(Ec hl hg W hj x).mp hh⟩
 ·rintro⟨t',ht',y⟩;by_cases z:t'=t
  ·subst z;exact⟨_,zth _ (zs9.mpr rfl),(Ec hl hg W hj x).mpr y⟩
  ·obtain⟨rs,h1,h2⟩:=(h.hits j hj x).mpr ⟨t',by omega,y⟩;exact⟨rs,ztu _ h1,h2⟩
end
section
variable{nu cl:Nat->Int}{may:List (List Int)}{tn:Nat->Int}
def Wz(cl:Nat->Int)(may:List (List Int)):List P3:=(List.range may.length).map fun k=>(cl k,cl 20,1)
theorem Mn.pattern(W:Wd nu cl)(h:Mn nu cl may tn S 5)(hm:may.length<=9)(hrow:∀ r∈may,r=((List.range 9).map nu).filter fun x=>decide (x∈r)):mayS S (Wz cl may)=may:=by
 have one:∀ k,k<may.length->mayM S (cl k,cl 20,1)=may.getD k []:=fun k hk=>by
  have lk:∀ j,j<9->Tt S.led (nu j) (cl k) S.rest=barB nu may j k:=fun j hj=>by
   have e:=h.late W (ztc _) hj (u:=k) ⋯;cases hb:barB nu may j k
   ·rw[<- Bool.not_eq_true,e];rintro⟨t',ht',y⟩;rw[hb] at y;rcases y with ⟨_,y⟩|⟨_,y⟩|⟨y,_⟩
    ·cases y
    ·cases y
    ·omega
   ·rw[e,hb];rcases(by omega:k=2*(k/2)\/k=2*(k/2)+1) with z|z
    ·exact⟨k/2,by omega,.inl ⟨z,rfl⟩⟩
    ·exact⟨k/2,by omega,.inr (.inl ⟨z,rfl⟩)⟩
  have l20:∀ j,j<9->Tt S.led (nu j) (cl 20) S.rest=false:=fun j hj=>by
   rw[<- Bool.not_eq_true,h.late W (ztc _) hj ⋯];rintro⟨t',ht',y⟩;omega
  have c1:decide (cl 21=cl k)=false:=ztd fun z=>by
   have:=W.cl _ _ ⋯ ⋯ z;omega
  have c2:decide (cl 21=cl 20)=false:=ztd fun z=>by
   have:=W.cl _ _ ⋯ ⋯ z;omega
  have eg:may.getD k []=may[k]'hk:=by rw[ztq,zs5 hk];rfl
  have hr:=hrow _ (ztw hk);rw[eg,hr,<- hr];unfold mayM;rw[h.ppl,h.out];unfold Q4;rw[zve,zud]
  conv=>rhs;rw[hr,zve]
  rw[show ((fun x:P3=>x.1)∘fun j:Nat=>((nu j,(j:Int)+1,cl 21):P3))=nu from rfl]
  congr 1
  refine zuz fun j hj=>?_;have hj:=zt5.mp hj;show (Ku S.led (nu j) ((j:Int)+1) (cl 21) (cl k) (cl 20) 1 (pIn [] (atV S) (nu j,(j:Int)+1,cl 21)) S.rest).isEmpty=decide (nu j∈may[k]'hk);rw[Lp,lk j hj,l20 j hj,c1,c2,ztd (show ¬ (j:Int)+1<1 by omega)];show (!false && !false && !(false||false) && !(barB nu may j k||false))=_;unfold barB;rw[zta hk,eg];simp
 refine List.ext_getElem? fun k=>?_;unfold mayS Wz;rw[zud,zs7];by_cases hk:k<may.length
 ·rw[zt9 hk,zs5 hk];show some (mayM S (cl k,cl 20,1))=_;rw[one k hk,ztq,zs5 hk];rfl
 ·rw[zup (by rw[ztr];omega),zup ⋯];rfl
end
inductive ze5(K:Frag)(vs:List V)(H:Hp)(Q:VK)(_:XK):Prop where
 | mk(ln lm lc:Addr)(nu cl:Nat->Int)(ls:List Addr)(may:List (List Int))(t:Nat)(turn:Int)(_:vs=[.ref ln,.ref lm,.int t,.ref lc,.int turn])(_:H ln=some (.lst (((List.range 9).map nu).map V.int)))(_:H lm=some (.lst (ls.map V.ref)))(_:ILs H ls may)(_:may.length<=9)(_:(∀ r∈may,r.length<=100))(_:t<=4)(_:H lc=some (.lst (((List.range 22).map cl).map V.int)))(_:∀ l ts H',H' l=some (.lst ts)->TupL H' ts ((Xf nu cl may turn t).map pV)->Same H H'->H l=none->Q (.ref l) H')
structure zj3(nu:Nat->Int)(may:List (List Int))(S:Sea):Prop where
 cur:∃ s,S.cur=some s/\s.may=may/\s.gaps=[]
 led:S.led.length=5
 out:S.out=[]
 ppl:S.ppl.map (·.1)=(List.range 9).map nu
 sok:SOk ((List.range 9).map nu) 30 S
 old:O3 30 S
inductive zbq(K:Frag)(ca:CA)(vs:List V)(H:Hp)(Q:VK)(_:XK):Prop where
 | mk(A:SAd)(S:Sea)(ln lm lc:Addr)(nu cl:Nat->Int)(ls:List Addr)(may:List (List Int))(cell:Int)(_:vs=[.ref A.p,.ref ln,.ref lm,.ref lc,.int cell])(_:Zv ca H A S)(_:(∃ r q:Nat,S=Dh r q/\6<=r/\r<=60/\5<=q/\q<=10))(_:Wd nu cl)(_:(∀ j,1<=nu j/\nu j<=999))(_:(∀ j,1<=cl j/\cl j<=99))(_:H ln=some (.lst (((List.range 9).map nu).map V.int)))(_:H lm=some (.lst (ls.map V.ref)))(_:ILs H ls may)(_:may.length<=9)(_:(∀ r∈may,r=((List.range 9).map nu).filter fun x=>decide (x∈r)))(_:H lc=some (.lst (((List.range 22).map cl).map V.int)))(_:ln∉A.fp)(_:lm∉A.fp)(_:lc∉A.fp)(_:(∀ x∈ls,x∉A.fp))(_:∀ A' S' H',Zv ca H' A' S'->zj3 nu may S'->S'.len=S.len->FrN A A' H H'->Q (.bl true) H')
inductive Bz(K:Frag)(ca:CA)(vs:List V)(H:Hp)(Q:VK)(_:XK):Prop where
 | mk(A:SAd)(S:Sea)(s:Z3)(lm lg:Addr)(ls:List Addr)(nu:List Int)(n:Nat)(_:vs=[.ref A.p,.ref lm,.ref lg])(_:Zv ca H A S)(_:S.cur=some s)(_:S.led.length=5)(_:SOk nu n S)(_:O3 n S)(_:n<=500)(_:H lm=some (.lst (ls.map V.ref)))(_:ILs H ls s.may)(_:H lg=some (.lst s.gv))(_:∀ H',Same H H'->Q (.bl true) H')
theorem TupL.dropN(h:TupL H ts rs):∀ k:Nat,TupL H (ts.drop k) (rs.drop k):=by
 induction h with
 | nil=>intro k;rw[List.drop_nil,List.drop_nil];exact .nil
 | cons a r ih =>
   intro k;cases k with
   | zero=>exact .cons a r
   | succ k=>exact ih k
theorem TupL.takeN(h:TupL H ts rs):∀ k:Nat,TupL H (ts.take k) (rs.take k):=by
 induction h with
 | nil=>intro k;rw[List.take_nil,List.take_nil];exact .nil
 | cons a r ih =>
   intro k;cases k with
   | zero=>exact .nil
   | succ k=>exact .cons a (ih k)
theorem zcz(xs:List V):(xs.filter fun x=>decide (x=V.non)).length=(Wq xs).length:=by
 have h:∀ m,m<=xs.length->((xs.take m).filter fun x=>decide (x=V.non)).length=((List.range m).filter fun i=>decide (xs[i]?=some .non)).length:=fun m=>by
  induction m with
  | zero=>intro _;rfl
  | succ m ih =>
    intro hm;have e:xs[m]?=some (xs[m]'⋯):=zs5 ⋯;rw[Uu e,zu5,zul,zul,zs8,zs8,ih ⋯]
    congr 1
    rw[zt8,zt8,zva,zva,e];by_cases z:xs[m]'⋯=V.non
    ·rw[if_pos (zta z),if_pos (zta (by rw[z]))];rfl
    ·rw[if_neg (by rw[ztd z];exact nofun),if_neg (by rw[ztd (fun y=>z (Option.some.inj y))];exact nofun)];rfl
 have:=h xs.length (ztc _);rw[zto] at this;exact this
theorem B0(c:Int)(hi:i<22)(hj:j<22)(h:Pl c i=Pl c j):i=j:=by
 unfold Pl at h;have hs:E1 c=1\/E1 c=2\/E1 c=5\/E1 c=10\/E1 c=50\/E1 c=97\/E1 c=98:=by
  unfold E1;have h0:0<=c%7:=by omega
  have h1:c%7<7:=by omega
  generalize c%7=r at h0 h1;obtain⟨k,rfl⟩:∃ k:Nat,r=k:=⟨r.toNat,by omega⟩;rw[ztl];rcases(by omega:k=0\/k=1\/k=2\/k=3\/k=4\/k=5\/k=6) with e|e|e|e|e|e|e<;>rw[e]<;>simp
 generalize c/7=x at h;rcases hs with e|e|e|e|e|e|e<;>rw[e] at h<;>omega +splitMinMax
theorem zkv(c d:Int):Wd (numS c) (Pl d):=⟨fun i j hi hj e=>Cy c ⋯ ⋯ e,fun i j hi hj e=>B0 d hi hj e⟩
def Wh(nu:List Int)(S:Sea):List Int:=nu.filter fun n=>decide ((6,n)∉S.out)
theorem B1(h:S.out=[]):Wh nu S=nu:=by
 unfold Wh;rw[h];exact List.filter_eq_self.mpr fun n _=>zta zue
theorem zc0(h:S'.out=S.out++[(6,n)]):Wh nu S'=(Wh nu S).filter fun x=>decide (x≠n):=by
 unfold Wh;rw[List.filter_filter,h];refine zuz fun x _=>?_;rw[<- Bool.decide_and];refine decide_eq_decide.mpr ?_;rw[ztg,zs9,not_or,Prod.mk.injEq];constructor
 ·rintro⟨a,b⟩;exact⟨fun z=>b ⟨rfl,z⟩,a⟩
 ·rintro⟨a,b⟩;exact⟨b,fun z=>a z.2⟩
theorem zbr(r:List Int)(x:Int):((r.map V.int).filter fun v=>!decide (v=.int x)).map id=(r.filter fun n=>decide (n≠x)).map V.int:=by
 rw[List.map_id,zve]
 congr 1
 refine zuz fun n _=>?_;by_cases z:n=x
 ·subst z;simp
 ·rw[zta z];show (!decide (V.int n=V.int x))=true;rw[ztd (fun q=>z (V.int.inj q))];rfl
structure Dm(nu:List Int)(n:Nat)(S:Sea):Prop where
 ok:SOk nu n S
 old:O3 n S
 led:S.led.length=5
 ppl:S.ppl.map (·.1)=nu
theorem Dm.at(h:Dm nu n S):atV S=6:=by unfold atV;rw[h.led];rfl
inductive E40(ok:Addr->Prop)(H:Hp)(nu:List Int)(t:Addr)(S:Sea):Prop where
 | mk (lm lg lh lv:Addr) (ls:List Addr) (ts:List V) (s:Z3) (hc:S.cur=some s) (h:H t=some (.tup [.ref lm,.ref lg,.ref lh,.ref lv])) (hm:H lm=some (.lst (ls.map V.ref))) (im:ILs H ls s.may) (hg:H lg=some (.lst s.gv)) (hh:H lh=some (.lst ((Wh nu S).map V.int))) (hv:H lv=some (.lst ts)) (gl:Wg ok H ts s.gaps) (om:ok lm) (og:ok lg) (oh:ok lh) (ov:ok lv) (ol:∀ l∈ls,ok l):E40 ok H nu t S
inductive Qk(ok:Addr->Prop)(H:Hp)(nu:List Int):List V->Sea->Nat->Prop
 | base {t:Addr} {S:Sea} (e:E40 ok H nu t S) (s:Dm nu 30 S) (o:S.out=[]):Qk ok H nu [.ref t] S 0
 | step {vs:List V} {S S':Sea} {n:Nat} {t:Addr} (r:Qk ok H nu vs S n) (e:E40 ok H nu t S') (s:Dm nu (30+(n+1)) S') (st:Pt S S'):Qk ok H nu (vs++[.ref t]) S' (n+1)
section
variable{ok:Addr->Prop}{H H':Hp}{nu:List Int}{t:Addr}{S S':Sea}{vs:List V}{n:Nat}
theorem E40.keep(k:∀ x o,ok x->H x=some o->H' x=some o)(kt:∀ t xs,H t=some (.tup xs)->H' t=some (.tup xs))(e:E40 ok H nu t S):E40 ok H' nu t S:=by
 obtain⟨lm,lg,lh,lv,ls,ts,s,hc,h,hm,im,hg,hh,hv,gl,om,og,oh,ov,ol⟩:=e;exact⟨lm,lg,lh,lv,ls,ts,s,hc,kt _ _ h,k _ _ om hm,im.keep fun l hl o q=>k _ _ (ol l hl) q,k _ _ og hg,k _ _ oh hh,k _ _ ov hv,gl.keep k kt,om,og,oh,ov,ol⟩
theorem E40.same(s:Same H H')(e:E40 ok H nu t S):E40 ok H' nu t S:=e.keep (fun x o _ q=>s x o q) fun t xs q=>s t _ q
theorem Qk.keep(k:∀ x o,ok x->H x=some o->H' x=some o)(kt:∀ t xs,H t=some (.tup xs)->H' t=some (.tup xs))(r:Qk ok H nu vs S n):Qk ok H' nu vs S n:=by
 induction r with
 | base e s o=>exact .base (e.keep k kt) s o
 | step r e s st ih=>exact .step ih (e.keep k kt) s st
theorem Qk.same(s:Same H H')(r:Qk ok H nu vs S n):Qk ok H' nu vs S n:=r.keep (fun x o _ q=>s x o q) fun t xs q=>s t _ q
theorem Qk.last(r:Qk ok H nu vs S n):∃ vs0 t,vs=vs0++[.ref t]/\vs0.length=n/\E40 ok H nu t S/\Dm nu (30+n) S/\(n=0->S.out=[]):=by
 have hl:vs.length=n+1:=by
  induction r with
  | base e s o=>rfl
  | step r e s st ih=>rw[zs8,ih];rfl
 cases r with
 | base e s o=>exact⟨[],_,rfl,rfl,e,s,fun _=>o⟩
 | step r e s st=>exact⟨_,_,rfl,by rw[zs8] at hl;exact Nat.succ.inj hl,e,s,fun z=>nomatch z⟩
theorem Qk.pop(r:Qk ok H nu vs S n)(h:n≠0):∃ m vs0 t S0,n=m+1/\vs=vs0++[.ref t]/\Qk ok H nu vs0 S0 m/\Pt S0 S:=by
 cases r with
 | base e s o=>exact absurd rfl h
 | step r e s st=>exact⟨_,_,_,_,rfl,rfl,r,st⟩
end
theorem Kq(h:Pt S0 S)(e:S.std=std++[(d,s)]):A8 S d S0.ppl S0.out/\{ S with ppl:=S0.ppl,out:=S0.out,cur:=s,std:=std }=S0:=by
 obtain⟨d0,a1,a2,a3,a4,a5,a6⟩:=h;rw[a1] at e;obtain⟨e1,e2⟩:=List.append_inj' e rfl;injection e2 with e2 _;injection e2 with e3 e4;subst e1 e3 e4;refine⟨a2,?_⟩;cases S0;cases S;simp at a3 a4 a5 a6 ⊢;exact⟨a3,a4,a5,a6⟩
def gapV(gv:List V)(n:Int):List V:=gv.map fun v=>if v=.int n then .non else v
theorem ze6(h:∀ i:Nat,gv[i]?≠some (V.int n)):gapV gv n=gv:=by
 unfold gapV
 conv=>rhs;rw[<- List.map_id gv]
 refine zun fun v hv=>if_neg fun z=>?_;obtain⟨i,hi,e⟩:=zt2 hv;exact h i (by rw[zs5 hi,e,z])
theorem zgf(F:Ya rows gv)(h:gv[p]?=some (.int n)):gapV gv n=gv.set p .non:=by
 refine List.ext_getElem? fun i=>?_;unfold gapV;rw[zs7,List.getElem?_set];have hp:=(zs6.mp h).1;by_cases z:p=i
 ·subst z;rw[h,if_pos rfl,if_pos hp];exact congrArg some (if_pos rfl)
 ·rw[if_neg z];cases e:gv[i]? with
  | none=>rfl
  | some v=>exact congrArg some (if_neg fun y=>z (F.inj p i n h (by rw[e,y])))
section
variable{H':Hp}{nu:List Int}{m:Nat}{S:Sea}{s:Z3}{n:Int}{l:Addr}
theorem Ed(o:Dm nu m S)(hc:S.cur=some s)(hn:n∈Wh nu S):Bq S (.away (atV S) n):=by
 unfold Wh at hn;obtain⟨h1,h2⟩:=zt1.mp hn;have h3:=o.ok.lt (by rw[hc];exact nofun);have h4:atV S=(S.led.length:Int)+1:=rfl;exact⟨by omega,by omega,by rw[o.ppl];exact h1,by rw[o.at];exact of_decide_eq_true h2⟩
theorem Ee(o:Dm nu m S)(hc:S.cur=some s)(hn:n∈Wh nu S)(af:Ry H' S (.away (atV S) n) S' v)(hl:S'.led=S.led)(hp:S'.ppl=S.ppl):Dm nu (m+1) S'/\Pt S S':=by
 have g:=Ed o hc hn;obtain⟨h1,h2⟩:=Pu o.ok g af nofun nofun;refine⟨⟨h1,(Ot o.ok o.old af).mono (Nat.le_succ _),by rw[hl];exact o.led,by rw[hp];exact o.ppl⟩,?_⟩;rcases h2 with h2|h2
 ·exact absurd h2.1 nofun
 ·exact h2.2
end
end G
namespace L2
open PySem PySem.Spec PyProof.Rows
theorem B2{M:Model}{A:Around}{E:Value->Shared->Prop}:∀ (names:List (Str×NameKind)) {cells:List (Str×Addr)} {s:Shared} {Q:List (Str×Addr)->Shared->Prop},names.filter (fun y=>y.2 == .cell)=[]->Q cells s ->
  wpAny M A (forIn names cells fun x r=>match x with|(name,kind)=>if (kind == NameKind.cell)=true then do let c <- alloc { cls:=.type "cell",data:=.cell none };pure (ForInStep.yield ((name,c) :: r)) else pure (ForInStep.yield r)) Q E s
 | [],_,_,_,_,h=>wpAny_pure h
 | (n,k) :: r,cells,s,Q,e,h=>by
   have hk:(k == NameKind.cell)=false:=by
    cases z:(k == NameKind.cell) with
    | false=>rfl
    | true=>rw[zuj (by exact z)] at e;cases e
   rw[zuk (by rw[hk];exact nofun)] at e;rw[List.forIn_cons];dsimp only;rw[if_neg (by rw[hk];exact nofun)];exact wpAny_bind (wpAny_pure (B2 r e h))
theorem B3{M:Model}{A:Around}{E:Value->Shared->Prop}{x:Str}:∀ (names:List (Str×NameKind)) {cells:List (Str×Addr)} {s:Shared} {Q:List (Str×Addr)->Shared->Prop},names.filter (fun y=>y.2 == .cell)=[(x,.cell)]->Q ((x,s.heap.objs.size) :: cells) { s with heap:=s.heap.push { cls:=.type "cell",data:=.cell none } } ->
  wpAny M A (forIn names cells fun x r=>match x with|(name,kind)=>if (kind == NameKind.cell)=true then do let c <- alloc { cls:=.type "cell",data:=.cell none };pure (ForInStep.yield ((name,c) :: r)) else pure (ForInStep.yield r)) Q E s
 | [],_,_,_,e,_=>nomatch e
 | (n,k) :: r,cells,s,Q,e,h=>by
   rw[List.forIn_cons];dsimp only;cases hk:(k == NameKind.cell) with
   | false =>
     rw[zuk (by rw[hk];exact nofun)] at e;rw[if_neg nofun];exact wpAny_bind (wpAny_pure (B3 r e h))
   | true =>
     rw[zuj (by exact hk)] at e;obtain⟨e1,e2⟩:=List.cons.inj e;cases e1;rw[if_pos rfl];exact wpAny_bind (wpAny_bind (wpAny_alloc (wpAny_pure (B2 r e2 h))))
theorem S5{M:Model}{A:Around}{E:Value->Shared->Prop}{s:Shared}{scope:Scope}{g:Addr}{cl:List (Str×Addr)}{qual:Str}{env:Env}{x:Str}{Q:Env->Shared->Prop}(hone:scope.names.filter (fun y=>y.2 == .cell)=[(x,.cell)])
  (h:Q (newEnv scope s.heap.objs.size g ((x,s.heap.objs.size+1) :: cl) qual none .none (some env) builtinsNs) { s with heap:=(s.heap.push { cls:=.type "dict",data:=.dict #[] }).push { cls:=.type "cell",data:=.cell none } }) :
  wpAny M A (newFunctionEnv scope g cl [] qual none .none (some env)) Q E s:=by
 unfold newFunctionEnv;refine wpAny_bind (wpAny_alloc (wpAny_bind (B3 _ hone ?_)));rw[Heap.size_push];exact wpAny_bind (wpAny_pure (wpAny_pure h))
theorem zkw:StrKeys #[]:=fun e h=>by simp at h
def Y0(X:Cx)(pn:List (Addr×Obj))(x:Str)(Nc:List Str)(scope:Scope)(cl:List (Str×Addr))(s₀:Shared)(H₀:Hp)(fp:List Addr)(C:Addr):Cx :=
 { X with N:=Nc,s₀:=s₀,H₀:=H₀,env:=compEnvC scope cl C X.env,outer:=X.stack,stack:=X.stack,ex:=fp,fn:=fun y=>y == x,pn:=pn,xe:=fun _ _=>False,lk:=[] }
section
variable{X:Cx}{elt iter tg:Expr}{x:Str}{pos:Pos}{ifs:List Expr}{scope:Scope}{cl:List (Str×Addr)}{ys:List Str}{js:List Nat}{g:TG}
structure O4(X:Cx)(x:Str)(scope:Scope)(cl:List (Str×Addr))(ys:List Str)(js:List Nat):Prop where
 clos:closureFor scope X.env=pure cl
 kind:scope.kind=.function
 names:∀ y∈scope.names,y.2=.local->scope.names.lookup y.1=some .local
 one:scope.names.filter (fun y=>y.2 == .cell)=[(x,.cell)]
 own:(relabel scope X.env).names.lookup x=some .cell
 nd:(x :: ys).Nodup
 at_:js.map (X.N[·]?)=ys.map some
 free:Kt (fun y=>X.env.kindOf y=some .cell/\(relabel scope X.env).names.lookup y=some .cell/\cl.lookup y=X.env.cells.lookup y) ys
 only:Kt (fun p=>X.env.cells.lookup p.1=some p.2) cl
 vis:∀ y∈scope.names,y.2=.free->y.1∈ys
theorem O4.skip(c:O4 X x scope cl ys js)(h:y∈ys):List.lookup y ((x,c0) :: cl)=cl.lookup y:=by
 have n:y≠x:=fun z=>(zt0.mp c.nd).1 (z▸h);rw[zt3,zty.mpr n]
theorem O4.same(c:O4 X x scope cl ys js)(h:List.lookup y ((x,c0) :: cl)=some a):(y=x/\a=c0)\/(y≠x/\X.env.cells.lookup y=some a):=by
 by_cases z:y=x
 ·rw[zt3,beq_iff_eq.mpr z] at h;exact .inl ⟨z,(Option.some.inj h).symm⟩
 ·rw[zt3,zty.mpr z] at h;exact .inr ⟨z,c.only.get (PySem.mem_of_lookup h)⟩
theorem ze7(c:O4 X x scope cl ys js)(I:Inv X pins σ H s)(hf:∀ b∈fp,FpOk X pins H b)(hex:∀ b∈fp,b<s.heap.objs.size)(hC:s.heap.objs.size<=C)(h0:s.heap.objs.size<=c0) :
  (Y0 X pn x Nc scope ((x,c0) :: cl) s H fp C).Ok where
 mod:=I.ok.mod
 kind:=c.kind
 glob:=I.ok.glob
 blt:=I.ok.blt
 above:=hC
 inj:=fun y z a h1 h2=>by
  have no:∀ {w:Str},X.env.cells.lookup w≠some c0:=fun {w} e=>by
   obtain⟨_,o,ho,_⟩:=I.cell w c0 e;exact absurd (ztn (Heap.lt_size ho) h0) (zum _)
  rcases c.same h1 with ⟨rfl,rfl⟩|⟨_,e1⟩<;>rcases c.same h2 with ⟨rfl,e⟩|⟨_,e2⟩
  ·rfl
  ·exact absurd e2 no
  ·rw[e] at e1;exact absurd e1 no
  ·exact I.ok.inj y z a e1 e2
 has:=fun y h=>by
  obtain⟨k,m,q⟩:=Qa h;rcases q with rfl|rfl
  ·have m2:(y,NameKind.cell)∈scope.names.filter (fun y=>y.2 == .cell):=zt1.mpr ⟨m,rfl⟩;rw[c.one] at m2;cases zs9.mp m2;exact⟨c0,by show List.lookup x ((x,c0) :: cl)=_;rw[zt3,beq_self_eq_true]⟩
  ·obtain⟨a1,a2,a3⟩:=c.free.get (c.vis _ m rfl);obtain⟨a,ha⟩:=I.ok.has y (.inl a1);exact⟨a,(c.skip (c.vis _ m rfl)).trans (a3.trans ha)⟩
 cab:=fun y a h1 h2=>by
  have e:y=x:=eq_of_beq h1;rcases c.same h2 with ⟨_,rfl⟩|⟨n,_⟩
  ·exact h0
  ·exact absurd e n
 hd:=I.ok.hd
 frames:=I.ok.frames
 stk:=.inl rfl
 exf:=fun b hb=>by
  obtain⟨f0,f1,f2,f3,f4,f5⟩:=hf b hb;refine⟨zts (ztn (hex b hb) hC),fun y a h=>?_⟩;rcases c.same h with ⟨_,rfl⟩|⟨_,e⟩
  ·exact Ne.symm (zts (ztn (hex b hb) h0))
  ·exact f4 y a e
 bs:=I.bs
 bsz:=ztk I.ok.bsz I.sz
 noex:=fun b o q hb=>by
  obtain⟨f0,f1,f2,f3,f4,f5⟩:=hf b hb;rcases f3 with z|z
  ·exact I.ok.noex b o q z
  ·exact absurd (ztn (Heap.lt_size (I.ok.bs b o q).1) z) (zum _)
 exfs:=fun b hb m=>by
  obtain⟨f0,f1,f2,f3,f4,f5⟩:=hf b hb;exact(ztf.mp (I.stkSub b m)).elim f1 f2
 funs:=I.stack
 frf:=I.stkFree
theorem zc1(c:O4 X x scope cl ys js)(I:Inv X pins σ H s)(hf:∀ b∈fp,FpOk X pins H b)(hex:∀ b∈fp,b<s.heap.objs.size)(hC:s.heap.objs.size<=C)(h0:s.heap.objs.size<=c0)(hc0:h1.IsCell c0 none)
  (hns:h1.Ns C m1) (old:∀ b o,s.heap.get? b=some o->h1.get? b=some o) :
  Inv (Y0 X (X.pn++pins) x (x :: ys) scope ((x,c0) :: cl) s H fp C) [] (cs0 [x] js σ) H { s with heap:=h1,toks:=t1 }:=by
 obtain⟨m,hn,hl⟩:=I.loc;have jl:js.length=ys.length:=by have:=congrArg List.length c.at_;simpa using this
 refine⟨ze7 c I hf hex hC h0,rfl,I.bare,Un.kept old,⟨m1,hns,fun i y v e1 e2 e3=>?_⟩,fun y a h=>?_,I.hok.fresh hC,fun y a h=>((c.same h).elim (fun z=>by rw[z.2];exact I.hok.fresh h0) fun z=>I.freeC y a z.2),fun p hp=>?_,I.hok.kept old,by simp[jl,Y0,cs0]⟩
 ·have e2:=e2.resolve_right (X4 _);unfold cs0 at e2;by_cases hi:i < [x].length
  ·rw[zt7 (by rw[zs4];exact hi),zs7,zs5 hi] at e2;cases e2
  ·rw[zt4 (by rw[zs4];omega),zs4] at e2;have e1:ys[i - [x].length]?=some y:=by
    have e1:([x]++ys)[i]?=some y:=e1;rw[zt4 ⋯] at e1;exact e1
   generalize i - [x].length=k at e1 e2;rw[zs7] at e2;cases hj:js[k]? with
   | none=>rw[hj] at e2;cases e2
   | some j =>
     rw[hj] at e2;have ej:X.N[j]?=some y:=by
      have q:=congrArg (·[k]?) c.at_;simp only[zs7,hj,e1,zua] at q;exact Option.some.inj q
     have ev:σ[j]?=some (some v):=by
      simp only[zua,Option.some.injEq] at e2;cases hσ:σ[j]? with
      | none=>rw[hσ] at e2;cases e2
      | some o=>rw[hσ] at e2;rw[show o=some v from e2]
     obtain⟨a1,a2,a3⟩:=c.free.get (ztb e1);obtain⟨u,r,l⟩:=hl j y v ej (.inl ev) (.inr (.inl a1));refine⟨u,r,.inr ⟨.inl a2,?_⟩⟩;rcases l with ⟨k1,_⟩|⟨_,b,e,z⟩
     ·rw[a1] at k1;cases k1
     ·obtain⟨o,ho,hd⟩:=z;exact⟨b,(c.skip (ztb e1)).trans (a3.trans e),o,old _ _ ho,hd⟩
 ·rcases c.same h with ⟨_,rfl⟩|⟨_,e⟩
  ·exact⟨_,hc0⟩
  ·obtain⟨v,o,ho,hd⟩:=I.cell y a e;exact⟨v,o,old _ _ ho,hd⟩
 ·obtain⟨e,n,ne,nf,d⟩:=I.pin p (by simpa [Y0] using hp);refine⟨old _ _ e,n,zts (ztn (Heap.lt_size e) hC),fun m=>?_,d⟩;exact(ztf.mp (I.stkSub _ m)).elim ne nf
theorem zac{pins:List (Addr×Obj)}{σ:St}{H:Hp}{s:Shared}{tt:TT}{te:TE}{it:Addr}{fp:List Addr}{tn:Nat->Heap->Prop}{J:It}{W:Nat->Nat->List V->Hp->Prop}{m0:Nat}{Q:VK}{E:Value->Shared->Prop}{RR:Value->Addr->Result->Shared->Prop}
  (hcm:X.calm=true) (c:O4 X x scope cl ys js) (ht:∀ pn s₀ H₀ fp C c0,PTs (Y0 X pn x (x :: ys) scope ((x,c0) :: cl) s₀ H₀ fp C) ifs tt) (hgt:∀ pn s₀ H₀ fp C c0,PG (Y0 X pn x (x :: ys) scope ((x,c0) :: cl) s₀ H₀ fp C) tg g) (he:∀ pn s₀ H₀ fp C c0,PE (Y0 X pn x (x :: ys) scope ((x,c0) :: cl) s₀ H₀ fp C) elt te)
  (I:Inv X pins σ H s) (T:Gh X.prog X.w X.K tg J fp it tn) (st0:tn 0 s.heap) (hf:∀ b∈fp,FpOk X pins H b) (w0:W 0 m0 [] H)
  (turn:∀ i m ys H,W i m ys H->(J.stop i H/\ys.length<=sizeLine/\∀ p,H p=none->Q (.ref p) (upd H p (.lst ys))) \/
   (J.go i H/\ys.length<sizeLine/\∃ N:List V->Hp->Prop,(∀ ys' H',N ys' H'->∃ m',m' < m/\W (i+1) m' ys' H')/\∀ u H',J.yld i H u H'->g u (cs0 [x] js σ) H' fun σ2 H1=>Sn [x] js σ σ2/\tt σ2 H1 fun b H2=>if b=true then te σ2 H2 fun y H3=>N (ys++[y]) H3 else N ys H2))
  (hRR:∀ D C s' m,s'.heap.Ns C m->(∀ h',Heap.SameBut C s'.heap h'->∃ H',Inv X pins σ H' { s' with heap:=h' }/\Q (.ref D) H')->(∃ H',Inv X pins σ H' s'/\Q (.ref D) H'/\H' C=none)->s.heap.objs.size<=C->RR (.ref D) C (.ok .next) s') :
  wpAny (model X.prog X.w) X.A (newList []) (fun acc s₃=>wpAny (model X.prog X.w) X.A (newFunctionEnv scope X.env.globals cl [] X.env.qual none .none (some X.env)) (fun cenv s₄ =>
   codeAny (model X.prog X.w) X.A (.compStart (.ListComp elt [⟨tg,iter,ifs,0⟩] scope pos) 0 (.ref it) acc { cenv with scope:=relabel scope X.env }) (RR acc cenv.locals) s₄) E s₃) E s:=by
 refine wpAny_newObj_type (S5 c.one ?_);dsimp only;generalize hH2:s.heap.push { cls:=.type "list",dict:=none,data:=.seq ([]:List Value).toArray }=G;generalize hD:s.heap.objs.size=D;have hC:G.objs.size=D+1:=by rw[<- hH2,Heap.size_push,hD]
 generalize hCe:G.objs.size=C;have hCD:C=D+1:=hCe.symm.trans hC;generalize hc0:C+1=c0;have hsG:(G.push { cls:=.type "dict",data:=.dict #[] }).objs.size=c0:=by rw[Heap.size_push,hCe,hc0]
 have hcl:(((G.push { cls:=.type "dict",data:=.dict #[] }).push { cls:=.type "cell",data:=.cell none })).IsCell c0 none:=⟨_,by rw[<- hsG];exact Heap.get?_push_size _ rfl,rfl⟩;have hns₁:(((G.push { cls:=.type "dict",data:=.dict #[] }).push { cls:=.type "cell",data:=.cell none })).Ns C (fun _=>none):=⟨_,_,_,Heap.get?_push_of_some _ (by rw[<- hCe];exact Heap.get?_push_size _ rfl),rfl,zkw,fun _=>rfl⟩;have hpsh:∀ b o,G.get? b=some o->(((G.push { cls:=.type "dict",data:=.dict #[] }).push { cls:=.type "cell",data:=.cell none })).get? b=some o:=fun b o e=>Heap.get?_push_of_some _ (Heap.get?_push_of_some _ e);generalize ((G.push { cls:=.type "dict",data:=.dict #[] }).push { cls:=.type "cell",data:=.cell none })=h₁ at hcl hns₁ hpsh ⊢;have hDC:D≠C:=by omega
 have below:∀ b o,s.heap.get? b=some o->b<D:=fun b o e=>by rw[<- hD];exact Heap.lt_size e
 have ltC:∀ b:Addr,b<D->b≠C:=fun b h=>zts (hCD▸zuv h);have ltD:∀ b:Addr,b<D->b≠D:=fun b h=>zts h;have old:∀ b o,s.heap.get? b=some o->h₁.get? b=some o:=fun b o e=>hpsh b o (hH2▸Heap.get?_push_of_some _ e);have hacc:h₁.PlainList D #[]:=⟨_,hpsh _ _ (by rw[<- hH2,<- hD];exact Heap.get?_push_size _ rfl)⟩;have hD0:D<c0:=by omega
 have cne:∀ y a,List.lookup y ((x,c0) :: cl)=some a->a=c0\/X.env.cells.lookup y=some a:=fun y a h=>(c.same h).imp (·.2) (·.2);have hex:∀ b∈fp,b<s.heap.objs.size:=fun b hb=>by
  obtain⟨o,e,_⟩:=T.obj _ _ st0 b hb;exact Heap.lt_size e
 have lt0:∀ b∈fp,b<D:=fun b hb=>by rw[<- hD];exact hex b hb
 have freshD:s.heap.get? D=none:=Heap.get?_none_of_le ⋯;have freshC:s.heap.get? C=none:=Heap.get?_none_of_le ⋯;have frE:∀ {H':Hp},(∀ b∈fp,H' b=none)->∀ {o:Obj} {b:Addr},b∈fp->FpOk (Y0 X (X.pn++pins) x (x :: ys) scope ((x,c0) :: cl) s H fp C) [(D,o)] H' b:=fun {H'} hn {o b} hb=>by
  obtain⟨f0,f1,f2,f3,f4,f5⟩:=hf b hb;refine⟨hn b hb,?_,?_,.inl hb,fun y a h=>((cne y a h).elim (fun z=>by rw[z];exact Ne.symm (zts (Nat.lt_trans (lt0 b hb) hD0))) fun z=>f4 y a z),fun p hp=>?_⟩
  ·exact ltC b (lt0 b hb)
  ·exact fun m=>(ztf.mp (I.stkSub b m)).elim f1 f2
  ·rcases ztg.mp hp with z|z
   ·exact f5 p z
   ·rw[zs9.mp z];exact Ne.symm (ltD b (lt0 b hb))
 have pinD:∀ {σ':St} {H':Hp} {s':Shared} {o:Obj},Inv (Y0 X (X.pn++pins) x (x :: ys) scope ((x,c0) :: cl) s H fp C) [] σ' H' s'->s'.heap.get? D=some o->(∀ v,o.data≠.cell v)->H' D=none->Inv (Y0 X (X.pn++pins) x (x :: ys) scope ((x,c0) :: cl) s H fp C) [(D,o)] σ' H' s':=fun {σ' H' s' o} Ic e nc n =>
  Ic.pins_of fun p hp=>by
   rw[zs9.mp hp];refine⟨e,n,hDC,fun m=>?_,nc⟩;obtain⟨_,ob,hob,_⟩:=I.stack.mem m;exact absurd (below D ob hob) (zum _)
 have loop:∀ s₃:Shared,s₃={ s with heap:=h₁ } ->
   codeAny (model X.prog X.w) X.A (.compLoop (.ListComp elt [⟨tg,iter,ifs,0⟩] scope pos) 0 (.ref it) (.ref D) (compEnvC scope ((x,c0) :: cl) C X.env)) (RR (.ref D) C) s₃:=by
  rintro s₃ rfl;have I0:=zc1 (t1:=s.toks) c I hf hex (by omega:s.heap.objs.size<=C) (by omega:s.heap.objs.size<=c0) hcl hns₁ old;refine Tv (fun n s'=>∃ i H' zs its,Inv (Y0 X (X.pn++pins) x (x :: ys) scope ((x,c0) :: cl) s H fp C) [] (cs0 [x] js σ) H' s'/\tn i s'.heap/\(∀ b∈fp,H' b=none)/\s'.heap.PlainList D (its:List Value).toArray/\Vals zs its/\H' D=none/\W i n zs H') ?_ m0
   ⟨0,H,[],[],I0,T.keep _ _ _ st0 fun b hb o e=>old b o e,fun b hb=>(hf b hb).1,hacc,.nil,I.hok.fresh ⋯,w0⟩
  rintro n s3 ⟨i,H3,zs,its,I3,st3,fr3,⟨n3,pl3⟩,rv3,fD3,w3⟩;have I3':=pinD I3 pl3 (by intro v z;cases z) fD3;rcases turn i n zs H3 w3 with ⟨stop,hsz,fin⟩|⟨go,hsz,Nx,hNx,step⟩
  ·refine wpAny_mono (T.done (Y0 X (X.pn++pins) x (x :: ys) scope ((x,c0) :: cl) s H fp C) rfl rfl rfl hcm i _ s3 _ H3 (fun _ _=>False) I3' (fun b hb=>frE fr3 hb) st3 stop) (fun r s4 ⟨hr,I4⟩=>?_) fun _ _ z=>z.elim;subst hr;have plD:s4.heap.get? D=some _:=(I4.pin (D,{ cls:=Value.type "list",data:=.seq its.toArray n3 }) (zth _ ztz)).1;obtain⟨m4,hn4,_⟩:=I4.loc;have okU:∀ h',(∀ b o,b≠C->s4.heap.get? b=some o->h'.get? b=some o)->Inv X pins σ (upd H3 D (.lst zs)) { s4 with heap:=h' }:=fun h' k1=>by
    have u4:Un (frs X.stack) fp H H3 s.heap s4.heap:=I4.base;have neC:∀ b o,s.heap.get? b=some o->b≠C:=fun b o e=>ltC b (below b o e);have neD:∀ b o,s.heap.get? b=some o->b≠D:=fun b o e=>ltD b (below b o e);have trD:∀ b u,H3 b=some u->b≠D:=fun b u e z=>by rw[z,fD3] at e;cases e
    have trC:∀ b u,H3 b=some u->b≠C:=fun b u e z=>by rw[z,show H3 C=none from I4.free] at e;cases e
    have un:Un (frs X.stack) fp H (upd H3 D (.lst zs)) s.heap h':=by
     refine⟨fun b o e n hb hx=>k1 b o (neC b o e) (u4.keep b o e n hb hx),fun b o e n hb hx=>?_,fun b o e n hx=>?_,fun b o e hx=>?_,fun b xs e=>?_,fun b ob u e=>?_,fun b ps e=>?_⟩
     ·obtain⟨sl,z⟩:=u4.slot b o e n hb hx;exact⟨sl,k1 b _ (neC b o e) z⟩
     ·rw[Zh (neD b o e)];exact u4.free b o e n hx
     ·obtain⟨o',z⟩:=u4.there b o e hx;exact⟨o',k1 b o' (neC b o e) z⟩
     ·have z:=u4.tups b xs e;rw[Zh (trD b _ z)];exact z
     ·have z:=u4.frzs b ob u e;rw[Zh (trD b _ z)];exact z
     ·obtain⟨more,z⟩:=u4.tbls b ps e;exact⟨more,by rw[Zh (trD b _ z)];exact z⟩
    refine I.call' (s':={ s4 with heap:=h' }) (ch:=fp) (show s4.os=s.os from I4.os) un (fun b u e=>?_) I4.bare fun b hb=>?_
    ·by_cases hb:b=D
     ·subst hb;rw[Ze] at e;cases e;exact⟨hsz,its,n3,rv3,k1 _ _ hDC plD⟩
     ·rw[Zh hb] at e;refine(I4.hok b u e).stay (fun d v hd q=>?_) (fun d q=>by rw[Zh (trD d _ q)];exact q) fun d xs q=>by rw[Zh (trD d _ q)];exact q
      rcases hd with z|z
      ·exact k1 d v (by rw[z];exact trC b u e) q
      ·exact k1 d v (trC d _ z) q
    ·obtain⟨f0,f1,f2,f3,f4,f5⟩:=hf b hb;exact⟨f3,f1,f4,f5⟩
   refine hRR D C s4 m4 hn4 (fun h' hs'=>⟨_,okU h' (fun b o hb e=>hs'.extBut b o hb e),fin D fD3⟩) ⟨_,okU s4.heap (fun _ _ _ e=>e),fin D fD3,?_⟩ ⋯
   ·rw[Zh (Ne.symm hDC)];exact I4.free
  ·refine wpAny_mono (T.item (Y0 X (X.pn++pins) x (x :: ys) scope ((x,c0) :: cl) s H fp C) rfl rfl rfl hcm i _ s3 _ H3 (fun _ _=>False) I3' (fun b hb=>frE fr3 hb) st3 go) (fun r s4 ⟨u,hr,h4⟩=>?_) fun _ _ z=>z.elim;subst hr;refine wpAny_mono h4 (fun _ s5 h5=>?_) fun _ _ z=>z.elim;obtain⟨xv,H5,I5,r5,y5,st5,fr5⟩:=h5;have I5':=I5.pinned (fun b hb=>frE fr5 hb) (T.obj _ _ st5);refine wpAny_mono (hgt _ _ _ _ _ _ _ s5 _ H5 xv u _ I5' r5 (step xv H5 y5)) (fun _ s6 ⟨σ6,H6,I6,own6,q6⟩=>?_) fun _ _ z=>z.elim;refine wpAny_mono (ht _ _ _ _ _ _ _ s6 _ H6 _ I6 q6) (fun ok s7 ⟨H7,I7,q7⟩=>?_) fun _ _ z=>z.elim;have keepF:∀ {σ8:St} {H8:Hp} {s8:Shared},Inv (Y0 X (X.pn++pins) x (x :: ys) scope ((x,c0) :: cl) s H fp C) ([(D,{ cls:=Value.type "list",data:=.seq its.toArray n3 })]++Pf fp s5.heap) σ8 H8 s8->tn (i+1) s8.heap/\(∀ b∈fp,H8 b=none)/\s8.heap.PlainList D its.toArray/\H8 D=none:=fun {σ8 H8 s8} I8=>by
    refine⟨T.keep _ _ _ st5 fun b hb o e=>(I8.pin (b,o) (zth _ (zth _ (Uq hb e)))).1,fun b hb=>?_,⟨n3,(I8.pin (D,_) (zth _ ztz)).1⟩,(I8.pin (D,_) (zth _ ztz)).2.1⟩;obtain⟨o,e,d⟩:=T.obj _ _ st5 b hb;exact(I8.pin (b,o) (zth _ (zth _ (Uq hb e)))).2.1
   have bare:∀ {σ8:St} {H8:Hp} {s8:Shared},Inv (Y0 X (X.pn++pins) x (x :: ys) scope ((x,c0) :: cl) s H fp C) ([(D,{ cls:=Value.type "list",data:=.seq its.toArray n3 })]++Pf fp s5.heap) σ8 H8 s8->Inv (Y0 X (X.pn++pins) x (x :: ys) scope ((x,c0) :: cl) s H fp C) [] σ8 H8 s8:=fun I8=>I8.pins_of fun _ z=>(nomatch z)
   cases ok with
   | false =>
     simp only[zux,if_false] at q7 ⊢;obtain⟨m',hm',w7⟩:=hNx _ _ q7;obtain⟨a1,a2,a3,a4⟩:=keepF I7;exact⟨m',hm',i+1,H7,zs,its,own6.weak (bare I7),a1,a2,a3,rv3,a4,w7⟩
   | true =>
     simp only[if_true] at q7 ⊢;refine wpAny_mono (he _ _ _ _ _ _ _ s7 _ H7 _ I7 q7) (fun y s8 ⟨yv,H8,I8,r8,q8⟩=>?_) fun _ _ z=>z.elim;obtain⟨m',hm',w8⟩:=hNx _ _ q8;obtain⟨a1,a2,a3,a4⟩:=keepF I8;have szI:its.toArray.size<=sizeLine:=by rw[ztj,<- rv3.length];omega
     refine wpAny_list_append_plain (hsz:=szI) a3 fun h9 pl9 sb9=>?_;have I8b:=own6.weak (bare I8);refine⟨m',hm',i+1,H8,zs++[yv],its++[y],?_,T.keep _ _ _ a1 fun b hb o e=>(sb9.2 b (ltD b (lt0 b hb))).trans e,a2,by rw[List.push_toArray] at pl9;exact pl9,rv3.append (.cons r8 .nil),a4,w8⟩;refine I8b.turned (t':=s8.toks) (it:=D) (fun b o hb e=>(sb9.2 b hb).trans e) a4 hDC (.inr (show s.heap.objs.size<=D by omega)) (fun y' a h=>?_) fun p hp=>?_
     ·rcases cne y' a h with rfl|e
      ·exact Ne.symm (zts hD0)
      ·obtain⟨v,o,ho,_⟩:=I.cell y' a e;exact ltD a (below a o ho)
     ·obtain⟨e,_⟩:=I.pin p (by simpa [Y0] using hp);exact ltD _ (below _ _ e)
 exact codeAny_compStart_list (loop _ rfl) (T.self _ 0 _ _ _ (T.keep _ _ _ st0 fun b hb o e=>old b o e) (loop _ rfl))
variable{wi:TI}{tt:TT}{te:TE}{px:Pos}
theorem B4{pins:List (Addr×Obj)}{σ:St}{H:Hp}{s:Shared}{tt:TT}{te:TE}{it:Addr}{fp:List Addr}{tn:Nat->Heap->Prop}{J:It}{W:Nat->Nat->List V->Hp->Prop}{m0:Nat}{Q:VK}{E:Value->Shared->Prop}{RR:Value->Addr->Result->Shared->Prop}
  (hcm:X.calm=true) (c:O4 X x scope cl ys js) (ht:∀ pn s₀ H₀ fp C c0,PTs (Y0 X pn x (x :: ys) scope ((x,c0) :: cl) s₀ H₀ fp C) ifs tt) (he:∀ pn s₀ H₀ fp C c0,PE (Y0 X pn x (x :: ys) scope ((x,c0) :: cl) s₀ H₀ fp C) elt te)
  (I:Inv X pins σ H s) (T:Gh X.prog X.w X.K (.Name x px) J fp it tn) (st0:tn 0 s.heap) (hf:∀ b∈fp,FpOk X pins H b) (w0:W 0 m0 [] H)
  (turn:∀ i m ys H,W i m ys H->(J.stop i H/\ys.length<=sizeLine/\∀ p,H p=none->Q (.ref p) (upd H p (.lst ys))) \/
   (J.go i H/\ys.length<sizeLine/\∃ N:List V->Hp->Prop,(∀ ys' H',N ys' H'->∃ m',m' < m/\W (i+1) m' ys' H')/\∀ x H',J.yld i H x H'->tt (cs js σ x) H' fun b H2=>if b=true then te (cs js σ x) H2 fun y H3=>N (ys++[y]) H3 else N ys H2))
  (hRR:∀ D C s' m,s'.heap.Ns C m->(∀ h',Heap.SameBut C s'.heap h'->∃ H',Inv X pins σ H' { s' with heap:=h' }/\Q (.ref D) H')->(∃ H',Inv X pins σ H' s'/\Q (.ref D) H'/\H' C=none)->s.heap.objs.size<=C->RR (.ref D) C (.ok .next) s') :
  wpAny (model X.prog X.w) X.A (newList []) (fun acc s₃=>wpAny (model X.prog X.w) X.A (newFunctionEnv scope X.env.globals cl [] X.env.qual none .none (some X.env)) (fun cenv s₄ =>
   codeAny (model X.prog X.w) X.A (.compStart (.ListComp elt [⟨.Name x px,iter,ifs,0⟩] scope pos) 0 (.ref it) acc { cenv with scope:=relabel scope X.env }) (RR acc cenv.locals) s₄) E s₃) E s :=
 zac (g:=Uo 0) hcm c ht (fun _ _ _ _ C c0=>U2 (X:=Y0 X _ x (x :: ys) scope ((x,c0) :: cl) _ _ _ C) c.nd rfl (.inr c.own) ⟨.inl (beq_self_eq_true x),X4⟩) he I T st0 hf w0 (fun i m ys H w=>(turn i m ys H w).imp id fun ⟨a,b,N,n1,n2⟩=>⟨a,b,N,n1,fun y H' hy=>⟨⟨[some y],rfl,rfl⟩,n2 y H' hy⟩⟩) hRR
theorem B5{y:Str}{py spos:Pos}{i:Nat}(hN:X.N.Nodup)(hy:X.N[i]?=some y)(hk:X.env.scope.names.lookup y=some .local)(hcm:X.calm=true)(c:O4 X x scope cl ys js)(hi:PI X (.Name x px) iter wi)(ht:∀ pn s₀ H₀ fp C c0,PTs (Y0 X pn x (x :: ys) scope ((x,c0) :: cl) s₀ H₀ fp C) ifs tt)
  (he:∀ pn s₀ H₀ fp C c0,PE (Y0 X pn x (x :: ys) scope ((x,c0) :: cl) s₀ H₀ fp C) elt te)
  (hsw:swapsWith (.ListComp elt [⟨.Name x px,iter,ifs,0⟩] scope pos) (some (.Name y py)) spos.line X.env=pure true:=by rfl) (hs:∀ x,foldedSetIterable iter X.env x=pure x:=by intro _;rfl)
  (hf:D8 X i y:=by first|exact⟨.inr rfl,X4⟩|assumption|exact⟨.inr rfl,by assumption⟩) :
  PS X (.Assign [.Name y py] (.ListComp elt [⟨.Name x px,iter,ifs,0⟩] scope pos) spos) (zdb (zdz wi js tt te) (Uo i)):=by
 intro pins s σ H D0 I h;rw[exec_Assign_Name_used _ _ _ _ hsw];refine wpAny_bind (wpAny_standAt (wpAny_bind ?_));show wpAny _ X.A (do let _ <- comprehension (.ListComp elt [⟨.Name x px,iter,ifs,0⟩] scope pos) scope X.env _ (newList []) false (eval iter X.env) (some (assign (.Name y py) X.env))) _ _ s;refine wpAny_bind (wpAny_mono (wpAny_comprehension_free (use:=some (assign (.Name y py) X.env)) (Q:=fun _ s'=>SP X pins D0 .next s') rfl hs c.clos c.kind c.names
  (thn (hi pins s σ H _ I h) fun v s1 h1=>thn h1 fun itv s2 h2=>?_)) (fun _ s' hq=>wpAny_pure (wpAny_pure hq)) fun _ _ e=>e)
 obtain⟨it,fp,tn,J,H2,e,I2,T,st2,f2,W,⟨m0,w0⟩,turn⟩:=h2;subst e;refine B4 (Q:=fun x H1=>D0.nx (σ.set i (some x)) H1) (RR:=fun acc C=>compPost (model X.prog X.w) X.A X.xe (some (assign (.Name y py) X.env)) (fun _ s'=>SP X pins D0 .next s') acc C) hcm c ht he I2 T st2 f2 w0 turn fun D C s' m hn _ hS hC=>?_;obtain⟨H',I',q,fC⟩:=hS;show wpAny _ X.A (assign (.Name y py) X.env (.ref D)) _ _ _;have ltC:∀ b o,s2.heap.get? b=some o->b≠C:=fun b o e=>zts (ztn (Heap.lt_size e) hC);have neL:C≠X.env.locals:=by
  obtain⟨_,⟨o,_,_,ho,_⟩,_⟩:=I2.loc;exact Ne.symm (ltC _ o ho)
 have neK:∀ z a,X.env.cells.lookup z=some a->a≠C:=fun z a e=>by
  obtain⟨_,o,ho,_⟩:=I2.cell z a e;exact ltC a o ho
 refine wpAny_assign_Name (M0 I' hN hy (.inl hk) (v:=.ref D) (show RelV (.ref D) (.ref D) from rfl) (fun s4 I4 ⟨a,hs4,ha⟩=>?_) hf);have naC:C≠a:=by
  rcases ha with ha|ha
  ·rw[ha];exact neL
  ·exact Ne.symm (neK _ _ ha)
 refine⟨m,hn.sameBut hs4 naC,fun h5 hs5=>⟨_,H',?_,q⟩⟩;refine I4.turned (t':=s4.toks) (it:=C) (fun b o hb e=>hs5.extBut b o hb e) fC neL (.inr (ztk I2.sz hC)) neK fun p hp=>?_;obtain⟨e,_⟩:=I2.pin p hp;exact ltC _ _ e
end
end L2
namespace K40
open PySem PySem.Spec PyProof.Rows L2 G
def top(i:Nat):Stmt:=PySem.Challenge.pw_whistlebook_k40_whole_any_pattern.main.body.getD i (.Pass ⟨0,0,0,0⟩)
structure Ad where
 zoq:Addr
 zl1:Addr
 zme:Addr
 zl5:Addr
 zl9:Addr
 zl8:Addr
 zm9:Addr
 zmh:Addr
 zmi:Addr
 zm0:Addr
 zmp:Addr
 zmj:Addr
 zn2:Addr
 znd:Addr
 zlx:Addr
 zmd:Addr
 zli:Addr
 zlj:Addr
 zlg:Addr
 zle:Addr
abbrev ca(a:Ad):CA:=⟨a.zle,a.zlg,a.zlj,a.zli,a.zl1,a.zme,a.zl5,a.zl9,a.zl8,a.zm9,a.zmh,a.zmi,a.zm0,a.zmp,a.zmj,a.zn2,a.znd,a.zlx,a.zmd⟩
structure Tx(K:Frag)(mg:Str->Option Value)(a:Ad):Prop where
 zmb:Cls K a.zli
 zoo:Xt K a.zli "rounds"
 zna:Xt K a.zli "meetings"
 zl2:Cls K a.zlj
 zml:Xt K a.zlj "entries"
 zln:Cls K a.zlg
 znf:Xt K a.zlg "listed"
 zpq:Xt K a.zlg "lists"
 zno:Xt K a.zlg "given"
 zpu:Xt K a.zlg "gaps"
 zlf:Cls K a.zle
 zo7:Xt K a.zle "length"
 zqn:Xt K a.zle "rest"
 zmx:Xt K a.zle "roster"
 zm3:Xt K a.zle "ledger"
 zn4:Xt K a.zle "absent"
 zoz:Xt K a.zle "sheets"
 zma:Xt K a.zle "sheet"
 zmq:Xt K a.zle "standing"
 zql:Q9 K mg "OutOfRange" a.zl1
 zps:Q9 K mg "TooManyMatches" a.zl8
 zqs:Q9 K mg "SameClub" a.zm9
 zp5:Q9 K mg "KnownReferee" a.zme
 zpp:Q9 K mg "TooManyReferees" a.zl5
 zpy:Q9 K mg "UnknownReferee" a.zl9
 zqe:Q9 K mg "NoSuchMatch" a.zmh
 zqm:Q9 K mg "SeasonOver" a.zmp
 zqw:Q9 K mg "DrawnUp" a.zn2
 zqf:Q9 K mg "NoSuchRound" a.zmi
 zp9:Q9 K mg "TooManyDeeds" a.zmd
 zp1:Q9 K mg "NotDrawn" a.znd
 zqp:Q9 K mg "RoundOver" a.zm0
 zqd:Q9 K mg "AwayAlready" a.zmj
 zpd:Q9 K mg "NothingToTakeBack" a.zlx
 zqq:mg "max"=none
 zlq:mg "len"=none
 zox:mg "tuple"=none
 zmk:mg "list"=none
 zoa:mg "enumerate"=none
 zlw:mg "range"=none
 zo8:mg "sorted"=none
 zqx:mg "zip"=none
 zlp:mg "isinstance"=none
 zqv:mg "int"=none
 zqt:mg "bool"=none
 zqy:mg "abs"=none
 zqk:mg "min"=none
 gc_BookError:mg "BookError"=some (.ref a.zoq)
 gc_OutOfRange:mg "OutOfRange"=some (.ref a.zl1)
 gc_KnownReferee:mg "KnownReferee"=some (.ref a.zme)
 gc_TooManyReferees:mg "TooManyReferees"=some (.ref a.zl5)
 gc_UnknownReferee:mg "UnknownReferee"=some (.ref a.zl9)
 gc_TooManyMatches:mg "TooManyMatches"=some (.ref a.zl8)
 gc_SameClub:mg "SameClub"=some (.ref a.zm9)
 gc_NoSuchMatch:mg "NoSuchMatch"=some (.ref a.zmh)
 gc_NoSuchRound:mg "NoSuchRound"=some (.ref a.zmi)
 gc_RoundOver:mg "RoundOver"=some (.ref a.zm0)
 gc_SeasonOver:mg "SeasonOver"=some (.ref a.zmp)
 gc_AwayAlready:mg "AwayAlready"=some (.ref a.zmj)
 gc_DrawnUp:mg "DrawnUp"=some (.ref a.zn2)
 gc_NotDrawn:mg "NotDrawn"=some (.ref a.znd)
 gc_NothingToTakeBack:mg "NothingToTakeBack"=some (.ref a.zlx)
 gc_TooManyDeeds:mg "TooManyDeeds"=some (.ref a.zmd)
 gc_Ledger:mg "Ledger"=some (.ref a.zli)
 gc_Roster:mg "Roster"=some (.ref a.zlj)
 gc_Sheet:mg "Sheet"=some (.ref a.zlg)
 gc_Season:mg "Season"=some (.ref a.zle)
 zog:∃ t,mg "MOST_NUMBER"=some (.int 999 t)
 znr:∃ t,mg "MOST_GRADE"=some (.int 9 t)
 zng:∃ t,mg "MOST_CLUB"=some (.int 99 t)
 zmy:∃ t,mg "MOST_REFEREES"=some (.int 30 t)
 zm4:∃ t,mg "MOST_MATCHES"=some (.int 20 t)
 zok:∃ t,mg "MOST_ROUNDS"=some (.int 60 t)
 zo3:∃ t,mg "MOST_REST"=some (.int 10 t)
 znq:∃ t,mg "MOST_DEEDS"=some (.int 100 t)
end K40
set_option maxHeartbeats 64000000
namespace K40
open PySem PySem.Spec PyProof.Rows L2 G
local macro_rules | `(tactic| walk_at "rd")=>`(tactic| repeat (first|(refine⟨_,rfl,?_⟩)|(refine⟨_,_,rfl,rfl,?_⟩)|(refine And.intro (show CMul _ _ from Or.inr (And.intro (by decide) (by decide))) ?_)|(refine And.intro (show CMul _ _ from Or.inl (And.intro (by decide) (by decide))) ?_)|(refine And.intro (show CDiv _ _ from(And.intro (by decide) (by decide))) ?_)|(refine And.intro (show CPow _ _ from(And.intro (by decide) (And.intro (by decide) (by decide)))) ?_)|(refine And.intro (show (0:Int)<_ from(by decide)) ?_)))
local macro_rules | `(tactic| walk_at "if")=>`(tactic| dsimp only[Uo,List.set])
local macro_rules | `(tactic| walk_at "ar")=>`(tactic| (intro _ _ _ _ h;first|(cases h;subst_vars;rfl)|repeat (first|(obtain⟨h1,_⟩:=h;subst h1;rfl)|(obtain⟨_,h⟩:=h))))
section
variable{P:Program}{w:World}{K:Frag}{mg:Str->Option Value}{base:Heap}{a:Ad}{f:Addr}{fd:FuncData}
abbrev Ql:Stmt:=top 2
theorem O5:Zk ["number","club","ledger","rest","rested"] ["number","club","ledger","rest"] (Zi Ql):=fnS
theorem Gs(F:Fun K "met_lately" "met_lately" Ql f fd)(T:Tx K mg a)(zll:Zt P w K mg base a.zli "over" 1 ["self"] (Le a.zli))(zop:Zt P w K mg base a.zli "met" 1 ["self","number","club"] (zgn a.zli)):FnOk P w K mg base (CX1 P w) 2 f fd ["number","club","ledger","rest"] (Cw a.zli):=by
 refine F.okX O5 ⋯ fun _ _ _ _ H _ Q E hr h=>?_;obtain⟨p,lr,ld,Rs,n,c,rest,rfl,LA,h⟩:=h;refine⟨_,(Zb (pS 4 O5.nd (Zm (zby rfl) (by rfl) T.zqq PyProof.Rows.boot_max (Za (Zu El (Yr (pv 2) T.zmb zll (hr.mono ⋯) Zj) (pv 3)) (Za Zf Zc))))
 (Zd (Zl (Yx Q0 (Y1 (pv 2) T.zmb zop (hr.mono ⋯) Zj (Za (pv 0) (Za (pv 1) Zc))) (pv 4) (Zq _))))),?_⟩
 obtain⟨⟨dx,hp⟩,_,_⟩:=id LA;refine⟨_,rfl,p,dx,_,rfl,hp,J1 ⋯ ⋯,p,lr,ld,Rs,rfl,LA,_,rfl,_,_,rfl,rfl,_,_,rfl,?_⟩;refine⟨_,rfl,p,dx,_,rfl,hp,J1 ⋯ ⋯,_,rfl,_,rfl,p,lr,ld,Rs,n,c,rfl,LA,fun H' s'=>⟨_,rfl,_,_,rfl,rfl,h H' s'⟩⟩
abbrev Lq:Stmt:=top 3
theorem W0:Zk ["referee","match","out","ledger","rest","number","grade","club","home","guest","asked","told"] ["referee","match","out","ledger","rest"] (Zi Lq):=fnS
theorem zad(F:Fun K "reasons" "reasons" Lq f fd)(T:Tx K mg a)(znp:Z1 P w K mg base "met_lately" 2 ["number","club","ledger","rest"] (Cw a.zli)):FnOk P w K mg base (CX1 P w) 3 f fd ["referee","match","out","ledger","rest"] (Fs K a.zli):=by
 refine F.okX W0 ⋯ fun _ _ _ _ H _ Q E hr h=>?_;obtain⟨t1,t2,p,lr,ld,Rs,n,g,c,h,gu,d,rest,o,rfl,h1,h2,LA,hq⟩:=h;refine⟨_,(Zb (pS 5 W0.nd (pI (iU K) (pv 0) Zf))
 (Zb (pS 6 W0.nd (pI (iU K) (pv 0) Zf))
 (Zb (pS 7 W0.nd (pI (iU K) (pv 0) Zf))
 (Zb (pS 8 W0.nd (pI (iU K) (pv 1) Zf))
 (Zb (pS 9 W0.nd (pI (iU K) (pv 1) Zf))
 (Zb (pS 10 W0.nd (pI (iU K) (pv 1) Zf))
 (Zb (pS 11 W0.nd (Yl Zc))
 (Zb (Zx (Ye (pv 2))
  (Zd (Yo (pv 11) Up))
  Zn)
 (Zb (Zx (Zp Q0 (pv 10) (pv 6) (Zq _))
  (Zd (Yo (pv 11) Up))
  Zn)
 (Zb (Zx (PW.pt (We (Zp X8 (pv 7) (pv 8) (Zq _)) (Xn (Zp X8 (pv 7) (pv 9) (Zq _)))))
  (Zd (Yo (pv 11) Up))
  Zn)
 (Zb (Zx (PW.pt (We (Ye (pF znp hr (Za (pv 5) (Za (pv 8) (Za (pv 3) (Za (pv 4) Zc)))))) (Xn (Ye (pF znp hr (Za (pv 5) (Za (pv 9) (Za (pv 3) (Za (pv 4) Zc)))))))))
  (Zd (Yo (pv 11) Up))
  Zn)
 (Zd (Zl (pv 11)))))))))))))),?_⟩
 show let y1:TS:=_;let y2:TS:=Zw _ y1;let y3:TS:=Zw _ y2;let y4:TS:=Zw _ y3;let y5:TS:=Zw _ y4;let y6:TS:=Zw _ y5;let y7:TS:=Zw _ y6;let y8:TS:=Zw _ y7;let y9:TS:=Zw _ y8;let y10:TS:=Zw _ y9;let y11:TS:=Zw _ y10;Zw _ y11 _ _ _;intro y1 y2 y3 y4 y5 y6 y7 y8 y9 y10 y11;refine⟨_,rfl,t1,_,_,_,rfl,rfl,SqT.of h1,(show atI [V.int n,V.int g,V.int c] 0=some _ from rfl),_,rfl,t1,_,_,_,rfl,rfl,SqT.of h1,(show atI [V.int n,V.int g,V.int c] 1=some _ from rfl),_,rfl,t1,_,_,_,rfl,rfl,SqT.of h1,(show atI [V.int n,V.int g,V.int c] 2=some _ from rfl),?_⟩;refine⟨_,rfl,t2,_,_,_,rfl,rfl,SqT.of h2,(show atI [V.int h,V.int gu,V.int d] 0=some _ from rfl),_,rfl,t2,_,_,_,rfl,rfl,SqT.of h2,(show atI [V.int h,V.int gu,V.int d] 1=some _ from rfl),_,rfl,t2,_,_,_,rfl,rfl,SqT.of h2,(show atI [V.int h,V.int gu,V.int d] 2=some _ from rfl),?_⟩;refine⟨by show 0<=sizeLine;decide,fun l hl=>?_⟩;refine al (upd _ l _) hl rfl fun H1 TH1 s1=>?_;have q1:H1 l=some (.lst (([]:List Str).map V.str)):=TH1;walk_at "if";have b1:=Av o "away";have b2:=Av (decide (g<d)) "grade";have b3:=Av (decide (c=h)||decide (c=gu)) "club";refine Jk (b:=o) (H0:=H) (E4 fun Q q=>⟨_,rfl,_,rfl,q⟩) hl s1 q1 ⋯ rfl (fun H2 s2 q2 _=>?_);rw[List.nil_append] at q2;refine Jk (b:=decide (g<d)) (H0:=H) (E4 fun Q q=>⟨_,rfl,_,rfl,_,_,rfl,rfl,_,rfl,q⟩) hl s2 q2 ⋯ rfl (fun H3 s3 q3 _=>?_);refine Jk (b:=decide (c=h)||decide (c=gu)) (H0:=H) (E4 (Vh (fun Q q=>⟨_,rfl,_,rfl,rfl,_,rfl,Pk▸q⟩) (fun Q q=>⟨_,rfl,_,rfl,rfl,_,rfl,Pk▸q⟩))) hl s3 q3 (by rw[zs8];omega) rfl (fun H4 s4 q4 _=>?_);refine Jk (b:=Tt Rs n h rest||Tt Rs n gu rest) (H0:=H) (zd6 (fun Q q=>⟨_,rfl,_,rfl,_,rfl,_,rfl,p,lr,ld,Rs,n,h,rest,rfl,LA.same s4,fun H5 s5=>⟨_,rfl,q H5 s5⟩⟩) (fun H5 s5 Q q=>⟨_,rfl,_,rfl,_,rfl,_,rfl,p,lr,ld,Rs,n,gu,rest,rfl,LA.same (s4.trans s5),fun H6 s6=>⟨_,rfl,q H6 s6⟩⟩)) hl s4 q4 (by rw[zs8,zs8];omega) rfl (fun H5 s5 q5 _=>?_);refine⟨_,rfl,hq l H5 ?_ s5 hl⟩;unfold Ku;rw[q5,zuo,zuo]
abbrev Ua:Stmt:=Z0 (top 23) 0
theorem Np:Zk ["self"] ["self"] (Zi Ua):=fnS
theorem Nq(F:Fun K "__init__" "Ledger.__init__" Ua f fd)(T:Tx K mg a):FnOk P w K mg base (CX1 P w) 1 f fd ["self"] (za4 a.zli):=by
 refine F.okX Np ⋯ fun _ _ _ _ H _ Q E hr h=>?_;obtain⟨p,dx,rfl,hp,h⟩:=h;refine⟨_,(Zb (Y6 (K:=K) rfl (pv 0) (Yl Zc) rfl)
 (Zd (Y6 (K:=K) rfl (pv 0) Cm rfl))),?_⟩
 refine⟨by show 0<=sizeLine;decide,fun lr hlr=>?_⟩;have np:p≠lr:=Zg hp hlr;refine⟨_,rfl,p,a.zli,dx,[],rfl,(by rw[Zh np];exact hp),T.zmb,T.zoo,⋯,?_⟩;intro ld hld;have n1:ld≠p:=fun z=>by rw[z,Ze] at hld;cases hld
 have n2:ld≠lr:=fun z=>by rw[z,Zh (Ne.symm np),Ze] at hld;cases hld
 have hld0:H ld=none:=by rw[Zh n1,Zh n2] at hld;exact hld
 refine⟨_,rfl,p,a.zli,dx,[("rounds",.ref lr)],rfl,(by rw[Zh (Ne.symm n1),Ze];rfl),T.zmb,T.zna,(by show 1<1000;decide),?_⟩;rw[zjk];refine h lr ld _ ⟨⟨dx,Ze⟩,⟨[],?_,.nil⟩,⟨[],?_,fun n c=>rfl,zt6 _⟩⟩ (fun b o e hb=>?_) hlr hld0 (Ne.symm n2)
 ·rw[Zh (Ne.symm np),Zh (Ne.symm n2),Zh (Ne.symm np),Ze]
 ·rw[Zh n1,Ze]
 ·rw[Zh hb,Zh (Zg e hld0),Zh hb,Zh (Zg e hlr)];exact e
abbrev T2:Stmt:=Z0 (top 23) 1
theorem Xp:Zk ["self","rows","at","home","guest","grade","referee"] ["self","rows"] (Zi T2):=fnS
theorem Kw(F:Fun K "write" "Ledger.write" T2 f fd)(T:Tx K mg a):FnOk P w K mg base (CX1 P w) 1 f fd ["self","rows"] (Bd a.zli):=by
 refine F.okX Xp ⋯ fun _ _ _ _ H _ Q E hr h=>?_;obtain⟨p,lr,ld,Rs,b,ts,rs,rfl,LA,hb,nb,tl,hl,hl2,h⟩:=h;have hu:=Vg hr;refine⟨_,(Zb (Yo (Zr (K:=K) rfl (pv 0) rfl) (Xo (J0 (K:=K) rfl) (by rfl) T.zox PyProof.Rows.boot_tuple (Za (pv 1) Zc)))
 (Zb (pS 2 Xp.nd (Zm (cL K) (by rfl) T.zlq PySem.boot_len (Za (Zr (K:=K) rfl (pv 0) rfl) Zc)))
 (Zd (Yf PassesOwn.leaving rfl (Z4 (K:=K) rfl (pv 1)) (V2 (K:=K) (n:=4) rfl rfl (Z6 (pN 3 Xp.nd) (Z6 (pN 4 Xp.nd) (Z6 (pN 5 Xp.nd) (Z6 (pN 6 Xp.nd) V0)))))
  (Zd (Zx (Zp Si (pv 6) Y3 (Zq _))
   (Zb (V1 hu (Zr (K:=K) rfl (pv 0) rfl) (Xg (Za (pv 6) (Za (pv 3) Zc))) (pv 2) rfl)
   (Zd (V1 hu (Zr (K:=K) rfl (pv 0) rfl) (Xg (Za (pv 6) (Za (pv 4) Zc))) (pv 2) rfl)))
   Zn)))))),?_⟩
 obtain⟨⟨dx,hp⟩,⟨rr,hlr,rl⟩,⟨kvs,hd,mt,kl⟩⟩:=LA;have hlen:ts.length=rs.length:=by rw[tl.length,zs4]
 have nrd:lr≠ld:=Xm hlr hd (by intro z;cases z);have nrp:p≠lr:=Xm hp hlr (by intro z;cases z);have npd:p≠ld:=Xm hp hd (by intro z;cases z);have nbd:b≠ld:=Xm hb hd (by intro z;cases z);refine⟨_,rfl,p,a.zli,dx,_,_,rfl,hp,T.zmb,T.zoo,Ld,lr,rr,rfl,hlr,_,rfl,b,ts,rfl,.inl ⟨SqL.of hb,fun t ht=>⟨rr,(by rw[Zh (Zg hlr ht)];exact hlr),Yn (by rw[rl.length];omega),?_⟩⟩⟩;have ntr:t≠lr:=Ne.symm (Zg hlr ht);have k1:∀ x o,H x=some o->x≠lr->upd (upd H t (.tup ts)) lr (.lst (rr++[.ref t])) x=some o:=fun x o e n=>by rw[Zh n,Zh (Zg e ht)];exact e
 have t1:∀ x xs,H x=some (.tup xs)->upd (upd H t (.tup ts)) lr (.lst (rr++[.ref t])) x=some (.tup xs):=fun x xs e=>k1 x _ e (Xm e hlr (by intro z;cases z));have r1:upd (upd H t (.tup ts)) lr (.lst (rr++[.ref t])) lr=some (.lst (rr++[.ref t])):=Ze;have rl1:Ov (upd (upd H t (.tup ts)) lr (.lst (rr++[.ref t]))) (rr++[.ref t]) (Rs++[rs]):=(rl.mono t1).snoc (by rw[Zh ntr,Ze]) (tl.mono t1);have tl1:=tl.mono t1;generalize upd (upd H t (.tup ts)) lr (.lst (rr++[.ref t]))=H1 at k1 t1 r1 rl1 tl1;have hp1:=k1 _ _ hp nrp;have hb1:=k1 _ _ hb nb;have hd1:=k1 _ _ hd (Ne.symm nrd);refine⟨_,rfl,p,a.zli,dx,_,_,rfl,hp1,T.zmb,T.zoo,Ld,lr,_,rfl,.inl (SqL.of r1),?_⟩;have hN:(((rr++[V.ref t]).length:Nat):Int)=((Rs.length+1:Nat):Int):=by rw[zs8,rl.length];rfl
 rw[hN];refine⟨_,rfl,b,rfl,⟨_,SqL.of hb1⟩,Xi (K:=K) (a:=b) (xs:=ts) (fun i σ H'=>(∃ v1 v2 v3 v4,σ=[some (.ref p),some (.ref b),some (.int ((Rs.length+1:Nat):Int)),v1,v2,v3,v4])/\(∀ x o,H1 x=some o->x≠ld->H' x=some o) /\
  ∃ kvs',H' ld=some (.dT kvs')/\Cv kvs' (Lg Rs rs i)/\kvs'.length<=2*(tot Rs+i)) ⟨⟨_,_,_,_,rfl⟩,fun _ _ e _=>e,kvs,hd1,by rw[zcf];exact mt,by omega⟩ (fun i σ H' _ ⟨_,k,_⟩=>SqL.of (k _ _ hb1 nbd)) ?_ ?_⟩
 ·rintro i x σ H' hx ⟨⟨v1,v2,v3,v4,rfl⟩,k2,kvs',hd2,mt2,kl2⟩;obtain⟨tr,r,rfl,hr3,htr⟩:=zhw tl1 hx;have hi:i<rs.length:=(zs6.mp hr3).1;have htr2:=k2 _ _ htr (Xm htr hd1 (by intro z;cases z));refine⟨tr,_,rfl,SqT.of htr2,rfl,_,_,rfl,_,_,rfl,_,_,rfl,_,_,rfl,rfl,?_⟩;refine⟨_,rfl,rfl,_,rfl,?_⟩;cases hw:r.w with
  | none =>
    refine iteF ?_;exact⟨⟨_,_,_,_,rfl⟩,k2,kvs',hd2,by rw[zcg hr3 hw];exact mt2,by omega⟩
  | some w =>
    refine iteT ?_;have hp2:=k2 _ _ hp1 npd;refine⟨_,rfl,_,rfl,p,a.zli,dx,_,_,rfl,hp2,T.zmb,T.zna,Pn,_,rfl,_,rfl,sz2,fun t2 ht2=>⟨ld,_,rfl,DPut.t (k:=[inl w,inl r.h]) (by rw[Zh (Zg hd2 ht2)];exact hd2) Ze ((Nat.lt_trans (zu4 (show _<=200000 by omega) ⋯) Rv)),?_⟩⟩;have k3:∀ x o,H1 x=some o->x≠ld->upd (upd H' t2 (.tup [oV (some w),.int r.h])) ld (.dT (putK kvs' [inl w,inl r.h] (.int ((Rs.length+1:Nat):Int)))) x=some o:=fun x o e n=>by
     have:=k2 x o e n;rw[Zh n,Zh (Zg this ht2)];exact this
    have hd3:upd (upd H' t2 (.tup [oV (some w),.int r.h])) ld (.dT (putK kvs' [inl w,inl r.h] (.int ((Rs.length+1:Nat):Int)))) ld=some (.dT (putK kvs' [inl w,inl r.h] (.int ((Rs.length+1:Nat):Int)))):=Ze;have l3:=Xr kvs' ([inl w,inl r.h]:List Key) (.int ((Rs.length+1:Nat):Int));generalize upd (upd H' t2 (.tup [oV (some w),.int r.h])) ld (.dT (putK kvs' [inl w,inl r.h] (.int ((Rs.length+1:Nat):Int))))=H3 at k3 hd3;have hp3:=k3 _ _ hp1 npd;refine⟨_,rfl,_,rfl,p,a.zli,dx,_,_,rfl,hp3,T.zmb,T.zna,Pn,_,rfl,_,rfl,sz2,fun t4 ht4=>⟨ld,_,rfl,DPut.t (k:=[inl w,inl r.g]) (by rw[Zh (Zg hd3 ht4)];exact hd3) Ze ((Nat.lt_trans (zu4 (show _<=200000 by omega) ⋯) Rv)),?_⟩⟩;refine⟨⟨_,_,_,_,rfl⟩,fun x o e n=>?_,_,Ze,?_,?_⟩
    ·have:=k3 x o e n;rw[Zh n,Zh (Zg this ht4)];exact this
    ·rw[<- zch hr3 hw];exact(mt2.put w r.h _ (Nat.succ_pos _)).put w r.g _ (Nat.succ_pos _)
    ·have:=Xr (putK kvs' ([inl w,inl r.h]:List Key) (.int ((Rs.length+1:Nat):Int))) ([inl w,inl r.g]:List Key) (.int ((Rs.length+1:Nat):Int));omega
 ·rintro σ H' ⟨⟨v1,v2,v3,v4,rfl⟩,k2,kvs',hd2,mt2,kl2⟩;rw[hlen] at mt2 kl2;rw[zd4] at mt2;refine h H' ⟨⟨dx,k2 _ _ hp1 npd⟩,⟨_,k2 _ _ r1 nrd,rl1.mono fun x xs e=>k2 _ _ e (Xm e hd1 (by intro z;cases z))⟩,kvs',hd2,mt2,by rw[zd3];exact kl2⟩ fun x o e n1 n2=>k2 x o (k1 x o e n1) n2
abbrev S6:Stmt:=Z0 (top 23) 2
theorem Iv:Zk ["self"] ["self"] (Zi S6):=fnS
theorem Iw(F:Fun K "over" "Ledger.over" S6 f fd)(T:Tx K mg a):FnOk P w K mg base (CX1 P w) 1 f fd ["self"] (Le a.zli):=by
 refine F.okX Iv ⋯ fun _ _ _ _ H _ Q E hr h=>?_;obtain⟨p,lr,ld,Rs,rfl,LA,h⟩:=h;refine⟨_,(Zd (Zl (Zm (cL K) (by rfl) T.zlq PySem.boot_len (Za (Zr (K:=K) rfl (pv 0) rfl) Zc)))),?_⟩;obtain⟨⟨dx,hp⟩,⟨rr,hlr,rl⟩,_⟩:=LA;refine⟨_,rfl,p,a.zli,dx,_,_,rfl,hp,T.zmb,T.zoo,Ld,lr,_,rfl,.inl (SqL.of hlr),?_⟩;rw[rl.length];exact h
abbrev Qm:Stmt:=Z0 (top 23) 4
theorem Gu:Zk ["self","number","club"] ["self","number","club"] (Zi Qm):=fnS
theorem Gv(F:Fun K "met" "Ledger.met" Qm f fd)(T:Tx K mg a):FnOk P w K mg base (CX1 P w) 1 f fd ["self","number","club"] (zgn a.zli):=by
 refine F.okX Gu ⋯ fun _ _ _ _ H _ Q E hr h=>?_;obtain⟨p,lr,ld,Rs,n,c,rfl,LA,h⟩:=h;have hu:=Vg hr;refine⟨_,(Zd (Zl (zdr hu (Zr (K:=K) rfl (pv 0) rfl) (Xg (Za (pv 1) (Za (pv 2) Zc))) Zf ⟨rfl,rfl,rfl,rfl⟩))),?_⟩;obtain⟨⟨dx,hp⟩,_,⟨kvs,hd,mt,kl⟩⟩:=LA;refine⟨_,rfl,p,a.zli,dx,_,_,rfl,hp,T.zmb,T.zna,Pn,ld,rfl,.inr ⟨kvs,.inl hd⟩,_,rfl,_,rfl,sz2,fun t ht=>⟨_,DGet.t (k:=[inl n,inl c]) (by rw[Zh (Zg hd ht)];exact hd) Ze,?_⟩⟩;have e:((valV kvs ([inl n,inl c]:List Key)).getD (.int 0))=.int (metS Rs n c:Nat):=by
  rw[mt n c];split
  ·rename_i z;rw[z];rfl
  ·rfl
 rw[e];exact h _ (Zo ht)
abbrev S7:Stmt:=top 25
theorem Iy:Zk ["value","least","most"] ["value","least","most"] (Zi S7):=fnS
theorem Iz(F:Fun K "check_range" "check_range" S7 f fd)(T:Tx K mg a):FnOk P w K mg base (CX1 P w) 1 f fd ["value","least","most"] (Mg a.zl1):=by
 refine F.okX Iy ⋯ fun _ _ _ _ H _ Q E hr h=>?_;obtain⟨v,lo,m,rfl,s1,s2,s3,h⟩:=h;refine⟨_,(Zd (Zx (PW.pt (We (Zp Kd (pv 0) (pv 1) (Zq _)) (Xn (Zp Q0 (pv 0) (pv 2) (Zq _)))))
  (Zd (Xe Xd rfl T.zql rfl (Za (Vk (Zy (Vb (pv 0)) (Zy (Xu ⋯) (Zy (Vb (pv 1)) (Zy (Xu ⋯) (Zy (Vb (pv 2)) Vj))))) ⋯) Zc)))
  Zn)),?_⟩
 walk_at "rd";refine itD (fun h1=>?_) (fun h1=>?_)
 ·rw[if_pos (Or.inl h1)] at h;refine iteT ?_;walk_at "rd";refine⟨.inl ⟨_,rfl,s1⟩,_,rfl,.inl ⟨_,rfl,s2⟩,_,rfl,.inl ⟨_,rfl,s3⟩,fun z=>⟨sz1,h⟩⟩
 ·walk_at "rd";refine itD (fun h2=>?_) (fun h2=>?_)
  ·rw[if_pos (Or.inr h2)] at h;walk_at "rd";refine⟨.inl ⟨_,rfl,s1⟩,_,rfl,.inl ⟨_,rfl,s2⟩,_,rfl,.inl ⟨_,rfl,s3⟩,fun z=>⟨sz1,h⟩⟩
  ·rw[if_neg (fun z=>z.elim h1 h2)] at h;exact h
abbrev S8:Stmt:=top 35
theorem Px:Zk ["matches","count"] ["matches"] (Zi S8):=fnS
theorem I9(F:Fun K "check_count" "check_count" S8 f fd)(T:Tx K mg a):FnOk P w K mg base (CX1 P w) 1 f fd ["matches"] (Bl K (ca a)):=by
 refine F.okX Px ⋯ fun _ _ _ _ H _ Q E hr h=>?_;obtain⟨b,ts,rfl,hs,hl,h1,h2⟩:=h;refine⟨_,(Zb (pS 1 Px.nd (Zm (cL K) (by rfl) T.zlq PySem.boot_len (Za (pv 0) Zc)))
 (Zd (Zx (Zp Q0 (pv 1) (Wo rfl T.zm4) (Zq _))
  (Zd (Xe Xd rfl T.zps rfl (Za (Vk (Zy (Vb (pv 1)) (Zy (Xu ⋯) (Zy (Vb (Wo rfl T.zm4)) Vj))) ⋯) Zc)))
  Zn))),?_⟩
 refine⟨_,rfl,b,_,rfl,.inl hs,?_⟩;walk_at "rd";refine itD (fun hc=>?_) (fun hc=>?_)
 ·walk_at "rd";exact⟨.inl ⟨_,rfl,Z9 ⋯ ⋯⟩,.inl ⟨_,rfl,Yg ⋯⟩,fun z=>⟨sz1,h1 ⋯⟩⟩
 ·exact h2 ⋯
abbrev T3:Stmt:=top 36
theorem Vl:Zk ["matches","home","guest","grade"] ["matches"] (Zi T3):=fnS
theorem Kx(F:Fun K "check_ranges" "check_ranges" T3 f fd)(T:Tx K mg a)(zlo:Z1 P w K mg base "check_range" 1 ["value","least","most"] (Mg a.zl1)):FnOk P w K mg base (CX1 P w) 2 f fd ["matches"] (F8 K (ca a)):=by
 refine F.okX Vl ⋯ fun _ _ _ _ H _ Q E hr h=>?_;obtain⟨b,ts,Ms,rfl,hs,tl,sm,h1,h2⟩:=h;refine⟨_,(Zd (Yf PassesOwn.leaving rfl (Z4 (K:=K) rfl (pv 0)) (V2 (K:=K) (n:=3) rfl rfl (Z6 (pN 1 Vl.nd) (Z6 (pN 2 Vl.nd) (Z6 (pN 3 Vl.nd) V0))))
  (Zb (Z2 (pF zlo hr (Za (pv 1) (Za Zf (Za (Wo rfl T.zng) Zc)))))
  (Zb (Z2 (pF zlo hr (Za (pv 2) (Za Zf (Za (Wo rfl T.zng) Zc)))))
  (Zd (Z2 (pF zlo hr (Za (pv 3) (Za Zf (Za (Wo rfl T.znr) Zc)))))))))),?_⟩
 have hlen:ts.length=Ms.length:=by rw[tl.length,zs4]
 let jv1:Nat->L2.St->Hp->Prop:=fun i σ H'=>H'=H/\(∃ v1 v2 v3,σ=[some (.ref b),v1,v2,v3])/\∀ m∈Ms.take i,¬ badM m
 refine⟨_,rfl,b,rfl,⟨_,hs⟩,Xi (K:=K) (a:=b) (xs:=ts) jv1 ⟨rfl,⟨_,_,_,rfl⟩,by simp⟩ (fun i σ H' _ ⟨e,_⟩=>e▸hs) ?_ ?_⟩
 ·rintro i x σ H' hx ⟨rfl,⟨v1,v2,v3,rfl⟩,hi⟩;obtain⟨t,m,rfl,hm,ht⟩:=zd9 tl hx;have hmem:=ztb hm;obtain⟨s1,s2,s3⟩:=sm m hmem;have bad:badM m->E (.ref a.zl1) none H':=fun hb=>h1 ⟨m,hmem,hb⟩;refine⟨t,_,rfl,SqT.of ht,rfl,_,_,rfl,_,_,rfl,_,_,rfl,rfl,?_⟩;refine⟨_,rfl,_,1,99,rfl,s1,Yg ⋯,Yg ⋯,?_⟩;refine Ew (fun b1=>bad (by unfold badM;omega)) (fun b1=>?_);refine⟨_,rfl,_,1,99,rfl,s2,Yg ⋯,Yg ⋯,?_⟩;refine Ew (fun b2=>bad (by unfold badM;omega)) (fun b2=>?_);refine⟨_,rfl,_,1,9,rfl,s3,Yg ⋯,Yg ⋯,?_⟩;refine Ew (fun b3=>bad (by unfold badM;omega)) (fun b3=>?_);exact⟨rfl,⟨_,_,_,rfl⟩,F7 hm hi (by unfold badM;omega)⟩
 ·rintro σ H' ⟨rfl,⟨v1,v2,v3,rfl⟩,hi⟩;rw[hlen,zto] at hi;exact h2 fun ⟨m,hm,hb⟩=>hi m hm hb
abbrev S9:Stmt:=top 37
theorem Ub:Zk ["matches","home","guest","grade"] ["matches"] (Zi S9):=fnS
theorem He(F:Fun K "check_clubs" "check_clubs" S9 f fd)(T:Tx K mg a):FnOk P w K mg base (CX1 P w) 1 f fd ["matches"] (Bm K (ca a)):=by
 refine F.okX Ub ⋯ fun _ _ _ _ H _ Q E hr h=>?_;obtain⟨b,ts,Ms,rfl,hs,tl,sm,h1,h2⟩:=h;refine⟨_,(Zd (Yf PassesOwn.leaving rfl (Z4 (K:=K) rfl (pv 0)) (V2 (K:=K) (n:=3) rfl rfl (Z6 (pN 1 Ub.nd) (Z6 (pN 2 Ub.nd) (Z6 (pN 3 Ub.nd) V0))))
  (Zd (Zx (Zp X8 (pv 1) (pv 2) (Zq _))
   (Zd (Xe Xd rfl T.zqs rfl (Za (Vk (Zy (Xu ⋯) (Zy (Vb (pv 1)) (Zy (Xu ⋯) Vj))) ⋯) Zc)))
   Zn)))),?_⟩
 have hlen:ts.length=Ms.length:=by rw[tl.length,zs4]
 let jv2:Nat->L2.St->Hp->Prop:=fun i σ H'=>H'=H/\(∃ v1 v2 v3,σ=[some (.ref b),v1,v2,v3])/\∀ m∈Ms.take i,¬ (m.1=m.2.1)
 refine⟨_,rfl,b,rfl,⟨_,hs⟩,Xi (K:=K) (a:=b) (xs:=ts) jv2 ⟨rfl,⟨_,_,_,rfl⟩,by simp⟩ (fun i σ H' _ ⟨e,_⟩=>e▸hs) ?_ ?_⟩
 ·rintro i x σ H' hx ⟨rfl,⟨v1,v2,v3,rfl⟩,hi⟩;obtain⟨t,m,rfl,hm,ht⟩:=zd9 tl hx;have hmem:=ztb hm;obtain⟨s1,s2,s3⟩:=sm m hmem;refine⟨t,_,rfl,SqT.of ht,rfl,_,_,rfl,_,_,rfl,_,_,rfl,rfl,?_⟩;refine⟨_,rfl,_,rfl,rfl,_,rfl,?_⟩;refine itV (fun he=>?_) (fun he=>?_)
  ·exact⟨_,rfl,.inl ⟨_,rfl,s1⟩,fun z=>⟨sz1,h1 ⟨m,hmem,he⟩⟩⟩
  ·exact⟨rfl,⟨_,_,_,rfl⟩,F7 (p:=fun m=>m.1=m.2.1) hm hi he⟩
 ·rintro σ H' ⟨rfl,⟨v1,v2,v3,rfl⟩,hi⟩;rw[hlen,zto] at hi;exact h2 fun ⟨m,hm,hb⟩=>hi m hm hb
abbrev Lr:Stmt:=top 38
theorem zae:Zk ["matches"] ["matches"] (Zi Lr):=fnS
theorem zaf(F:Fun K "checked" "checked" Lr f fd)(T:Tx K mg a)(zoh:Z1 P w K mg base "check_count" 1 ["matches"] (Bl K (ca a)))(zn8:Z1 P w K mg base "check_ranges" 2 ["matches"] (F8 K (ca a)))(zoj:Z1 P w K mg base "check_clubs" 1 ["matches"] (Bm K (ca a))):FnOk P w K mg base (CX1 P w) 3 f fd ["matches"] (Il K (ca a)):=by
 refine F.okX zae ⋯ fun _ _ _ _ H _ Q E hr h=>?_;obtain⟨b,ts,Ms,rfl,hs,tl,sm,hl,h1,h2,h3,h4⟩:=h;refine⟨_,(Zb (Z2 (pF zoh hr (Za (pv 0) Zc)))
 (Zb (Z2 (pF zn8 hr (Za (pv 0) Zc)))
 (Zb (Z2 (pF zoj hr (Za (pv 0) Zc)))
 (Zd (Zl (Xo (Xv (K:=K) rfl) (by rfl) T.zmk PyProof.Rows.boot_list (Za (pv 0) Zc))))))),?_⟩
 have hlen:ts.length=Ms.length:=by rw[tl.length,zs4]
 refine⟨_,rfl,b,ts,rfl,hs,by omega,fun hc=>h1 ⋯,fun hc=>?_⟩;refine⟨_,rfl,b,ts,Ms,rfl,hs,tl,sm,fun hb=>h2 ⋯ hb,fun hb=>?_⟩;refine⟨_,rfl,b,ts,Ms,rfl,hs,tl,sm,fun hb2=>h3 ⋯ hb hb2,fun hb2=>?_⟩;exact⟨_,rfl,b,ts,rfl,.inl hs,h4 ⋯ hb hb2⟩
abbrev Uc:Stmt:=Z0 (top 40) 0
theorem Nr:Zk ["self"] ["self"] (Zi Uc):=fnS
theorem Nt(F:Fun K "__init__" "Roster.__init__" Uc f fd)(T:Tx K mg a):FnOk P w K mg base (CX1 P w) 1 f fd ["self"] (zbf (ca a)):=by
 refine F.okX Nr ⋯ fun _ _ _ _ H _ Q E hr h=>?_;obtain⟨p,dx,rfl,hp,h⟩:=h;refine⟨_,(Zd (Y6 (K:=K) rfl (pv 0) Tp rfl)),?_⟩;intro d hd;exact⟨_,rfl,p,a.zlj,dx,[],rfl,(by rw[Zh (Zg hp hd)];exact hp),T.zl2,T.zml,⋯,h d hd⟩
abbrev Vr:Stmt:=Z0 (top 40) 1
theorem Ow:Zk ["self","number","grade","club"] ["self","number","grade","club"] (Zi Vr):=fnS
theorem Ox(F:Fun K "check_new" "Roster.check_new" Vr f fd)(T:Tx K mg a)(zlo:Z1 P w K mg base "check_range" 1 ["value","least","most"] (Mg a.zl1)):FnOk P w K mg base (CX1 P w) 2 f fd ["self","number","grade","club"] (Nj (ca a)):=by
 refine F.okX Ow ⋯ fun _ _ _ _ H _ Q E hr h=>?_;obtain⟨p,d,R,n,g,c,rfl,RA,sm,h⟩:=h;have hu:=Vg hr;refine⟨_,(Zb (Z2 (pF zlo hr (Za (pv 1) (Za Zf (Za (Wo rfl T.zog) Zc)))))
 (Zb (Z2 (pF zlo hr (Za (pv 2) (Za Zf (Za (Wo rfl T.znr) Zc)))))
 (Zb (Z2 (pF zlo hr (Za (pv 3) (Za Zf (Za (Wo rfl T.zng) Zc)))))
 (Zb (Zx (Sw (Jv hu (pv 1) (Zr (K:=K) rfl (pv 0) rfl)))
  (Zd (Xe Xd rfl T.zp5 rfl (Za (Vk (Zy (Xu ⋯) (Zy (Vb (pv 1)) (Zy (Xu ⋯) Vj))) ⋯) Zc)))
  Zn)
 (Zd (Zx (Zp zan (Zm zca (by rfl) T.zlq PySem.boot_len (Za (Zr (K:=K) rfl (pv 0) rfl) Zc)) (Wo rfl T.zmy) (Zq _))
  (Zd (Xe Xd rfl T.zpp rfl (Za (Vk (Zy (Xu ⋯) (Zy (Vb (Wo rfl T.zmy)) (Zy (Xu ⋯) Vj))) ⋯) Zc)))
  Zn)))))),?_⟩
 obtain⟨sn,sg,sc⟩:=sm;obtain⟨⟨dx,kvs,hp,hd,en⟩,nd⟩:=id RA;have bad:∀ {A B:Prop},(badI n g c->(if badI n g c then A else B)->A):=fun hb z=>by rw[if_pos hb] at z;exact z
 refine⟨_,rfl,n,1,999,rfl,sn,Yg ⋯,Yg ⋯,?_⟩;refine Ew (fun b1=>bad (by unfold badI;omega) h) (fun b1=>?_);refine⟨_,rfl,g,1,9,rfl,sg,Yg ⋯,Yg ⋯,?_⟩;refine Ew (fun b2=>bad (by unfold badI;omega) h) (fun b2=>?_);refine⟨_,rfl,c,1,99,rfl,sc,Yg ⋯,Yg ⋯,?_⟩;refine Ew (fun b3=>bad (by unfold badI;omega) h) (fun b3=>?_);rw[if_neg (by unfold badI;omega)] at h;refine⟨_,rfl,_,rfl,p,a.zlj,dx,_,_,rfl,hp,T.zl2,T.zml,Vq,d,_,rfl,DGet.k (k:=inl n) hd,_,rfl,?_⟩;rw[en.isSome nd];refine itD (fun hn=>?_) (fun hn=>?_)
 ·rw[if_pos hn] at h;exact⟨_,rfl,.inl ⟨_,rfl,sn⟩,fun z=>⟨sz1,h⟩⟩
 rw[if_neg hn] at h;refine⟨_,rfl,p,a.zlj,dx,_,_,rfl,hp,T.zl2,T.zml,Vq,d,_,rfl,hd,_,_,rfl,rfl,_,rfl,?_⟩;rw[en.length];refine itD (fun hz=>?_) (fun hz=>?_)
 ·rw[if_pos ⋯] at h;exact⟨.inl ⟨_,rfl,Yg ⋯⟩,fun z=>⟨sz1,h⟩⟩
 rw[if_neg ⋯] at h;exact h
abbrev W2:Stmt:=Z0 (top 40) 2
theorem Pa:Zk ["self","number"] ["self","number"] (Zi W2):=fnS
theorem Pb(F:Fun K "check_known" "Roster.check_known" W2 f fd)(T:Tx K mg a):FnOk P w K mg base (CX1 P w) 1 f fd ["self","number"] (Qg (ca a)):=by
 refine F.okX Pa ⋯ fun _ _ _ _ H _ Q E hr h=>?_;obtain⟨p,d,R,n,rfl,RA,sn,h⟩:=h;have hu:=Vg hr;refine⟨_,(Zd (Zx (Sw (Rp hu (pv 1) (Zr (K:=K) rfl (pv 0) rfl)))
  (Zd (Xe Xd rfl T.zpy rfl (Za (Vk (Zy (Xu ⋯) (Zy (Vb (pv 1)) (Zy (Xu ⋯) Vj))) ⋯) Zc)))
  Zn)),?_⟩
 obtain⟨⟨dx,kvs,hp,hd,en⟩,nd⟩:=id RA;refine⟨_,rfl,_,rfl,p,a.zlj,dx,_,_,rfl,hp,T.zl2,T.zml,Vq,d,_,rfl,DGet.k (k:=inl n) hd,_,rfl,?_⟩;rw[en.isSome nd];by_cases hn:n∈R.map (·.1)
 ·rw[zta hn];rw[if_pos hn] at h;exact iteF h
 ·rw[ztd hn];rw[if_neg hn] at h;exact iteT ⟨_,rfl,.inl ⟨_,rfl,sn⟩,fun z=>⟨sz1,h⟩⟩
abbrev Qn:Stmt:=Z0 (top 40) 3
theorem Gw:Zk ["self","number","grade","club"] ["self","number","grade","club"] (Zi Qn):=fnS
theorem Gx(F:Fun K "add" "Roster.add" Qn f fd)(T:Tx K mg a)(zl3:Zt P w K mg base a.zlj "check_new" 2 ["self","number","grade","club"] (Nj (ca a))):FnOk P w K mg base (CX1 P w) 3 f fd ["self","number","grade","club"] (zes (ca a)):=by
 refine F.okX Gw ⋯ fun _ _ _ _ H _ Q E hr h=>?_;obtain⟨p,d,R,n,g,c,rfl,RA,sm,hl,h⟩:=h;have hu:=Vg hr;refine⟨_,(Zb (Z2 (Y1 (pv 0) T.zl2 zl3 (hr.mono ⋯) Zj (Za (pv 1) (Za (pv 2) (Za (pv 3) Zc)))))
 (Zd (V1 hu (Zr (K:=K) rfl (pv 0) rfl) (pv 1) (Xg (Za (pv 2) (Za (pv 3) Zc))) rfl))),?_⟩
 obtain⟨⟨dx,kvs,hp,hd,en⟩,nd⟩:=id RA;refine⟨_,rfl,p,dx,_,rfl,hp,Xj.no ⋯,_,rfl,_,rfl,_,rfl,p,d,R,n,g,c,rfl,RA,sm,?_⟩;refine it2 h (fun _ z=>z) fun hb h=>it2 h (fun _ z=>z) fun hn h=>it2 h (fun _ z=>z) fun hz h=>?_;refine⟨_,rfl,_,rfl,sz2,fun t ht=>?_⟩;have ntp:p≠t:=Zg hp ht;have ntd:d≠t:=Zg hd ht;have npd:p≠d:=Xm hp hd (by intro z;cases z);refine⟨_,rfl,p,a.zlj,dx,_,_,rfl,(by rw[Zh ntp];exact hp),T.zl2,T.zml,Vq,_,rfl,d,_,rfl,DPut.k (k:=inl n) (by rw[Zh ntd];exact hd) (Yn (by rw[en.length];exact hl)),?_⟩;rw[zct (en.val_none hn)];refine h _ ⟨⟨dx,_,(by rw[Zh npd,Zh ntp];exact hp),Ze,?_⟩,?_⟩ fun b o e hb=>(by rw[Zh hb,Zh (Zg e ht)];exact e)
 ·refine Vp.snoc (by rw[Zh (Ne.symm ntd)];exact Ze) (en.mono fun b xs e=>?_);rw[Zh (Xm e hd (by intro z;cases z)),Zh (Zg e ht)];exact e
 ·rw[zti];exact Jj nd hn
abbrev Tb:Stmt:=Z0 (top 40) 4
theorem Ls:Zk ["self","number"] ["self","number"] (Zi Tb):=fnS
theorem Lu(F:Fun K "strike" "Roster.strike" Tb f fd)(T:Tx K mg a):FnOk P w K mg base (CX1 P w) 1 f fd ["self","number"] (C9 (ca a)):=by
 refine F.okX Ls ⋯ fun _ _ _ _ H _ Q E hr h=>?_;obtain⟨p,d,R,n,g,c,rfl,RA,h⟩:=h;refine⟨_,(Zd (Z2 (zds (Zr (K:=K) rfl (pv 0) rfl) (pv 1) ⟨rfl,rfl,rfl,rfl⟩))),?_⟩;obtain⟨⟨dx,kvs,hp,hd,en⟩,nd⟩:=id RA;have npd:p≠d:=Xm hp hd (by intro z;cases z);obtain⟨t,e1,e2⟩:=en.val_some nd (show (n,g,c)∈R++[(n,g,c)] by simp);have hn:n∉R.map (·.1):=by
  rw[zti,List.nodup_append] at nd;exact fun z=>nd.2.2 n z n (by simp) rfl
 refine⟨_,rfl,p,a.zlj,dx,_,_,rfl,hp,T.zl2,T.zml,Vq,d,rfl,.inl ⟨kvs,.inl hd⟩,_,rfl,kvs,inl n,_,hd,rfl,e1,?_⟩;refine h _ ⟨⟨dx,_,(by rw[Zh npd];exact hp),Ze,(en.unsnoc hn).mono fun b xs e=>?_⟩,?_⟩ fun b o e hb=>(by rw[Zh hb];exact e)
 ·rw[Zh (Xm e hd (by intro z;cases z))];exact e
 ·rw[zti,List.nodup_append] at nd;exact nd.1
abbrev Uw:Stmt:=Z0 (top 40) 6
theorem Mo:Zk ["self"] ["self"] (Zi Uw):=fnS
theorem Mp(F:Fun K "numbers" "Roster.numbers" Uw f fd)(T:Tx K mg a):FnOk P w K mg base (CX1 P w) 1 f fd ["self"] (Ih (ca a)):=by
 refine F.okX Mo ⋯ fun _ _ _ _ H _ Q E hr h=>?_;obtain⟨p,d,R,rfl,RA,h⟩:=h;refine⟨_,(Zd (Zl (Xo (Nb rfl) (by rfl) T.zmk PyProof.Rows.boot_list (Za (Zr (K:=K) rfl (pv 0) rfl) Zc)))),?_⟩;obtain⟨⟨dx,kvs,hp,hd,en⟩,nd⟩:=id RA;refine⟨_,rfl,p,a.zlj,dx,_,_,rfl,hp,T.zl2,T.zml,Vq,d,kvs,rfl,.inl hd,fun l hl=>?_⟩;rw[en.keys];exact h l hl
abbrev T4:Stmt:=Z0 (top 40) 7
theorem Ky:Zk ["self","number"] ["self","number"] (Zi T4):=fnS
theorem Kz(F:Fun K "entry" "Roster.entry" T4 f fd)(T:Tx K mg a)(zly:Zt P w K mg base a.zlj "check_known" 1 ["self","number"] (Qg (ca a))):FnOk P w K mg base (CX1 P w) 2 f fd ["self","number"] (Ba (ca a)):=by
 refine F.okX Ky ⋯ fun _ _ _ _ H _ Q E hr h=>?_;obtain⟨p,d,R,n,rfl,RA,sn,h1,h2⟩:=h;have hu:=Vg hr;refine⟨_,(Zb (Z2 (Y1 (pv 0) T.zl2 zly (hr.mono ⋯) Zj (Za (pv 1) Zc)))
 (Zd (Zl (pD hu (Zr (K:=K) rfl (pv 0) rfl) (pv 1))))),?_⟩
 obtain⟨⟨dx,kvs,hp,hd,en⟩,nd⟩:=id RA;refine⟨_,rfl,p,dx,_,rfl,hp,Xj.no ⋯,_,rfl,p,d,R,n,rfl,RA,sn,?_⟩;refine Ew (fun hn=>?_) (fun hn=>h1 hn);obtain⟨⟨m,g,c⟩,q,rfl⟩:=zte.mp hn;obtain⟨t,e1,e2⟩:=en.val_some nd q;exact⟨_,rfl,p,a.zlj,dx,_,_,rfl,hp,T.zl2,T.zml,Vq,_,rfl,d,_,rfl,(by rw[<- e1];exact DGet.k (k:=inl m) hd),h2 g c t q e2⟩
abbrev Tc:Stmt:=Z0 (top 40) 10
theorem Lv:Zk ["self","number"] ["self","number"] (Zi Tc):=fnS
theorem Lw(F:Fun K "person" "Roster.person" Tc f fd)(T:Tx K mg a)(znz:Zt P w K mg base a.zlj "entry" 2 ["self","number"] (Ba (ca a))):FnOk P w K mg base (CX1 P w) 3 f fd ["self","number"] (Bb (ca a)):=by
 refine F.okX Lv ⋯ fun _ _ _ _ H _ Q E hr h=>?_;obtain⟨p,d,R,n,rfl,RA,sn,h1,h2⟩:=h;refine⟨_,(Zd (Zl (Zu (Bc (K:=K) rfl) (Xg (Za (pv 1) Zc)) (Y1 (pv 0) T.zl2 znz (hr.mono ⋯) Zj (Za (pv 1) Zc))))),?_⟩;obtain⟨⟨dx,kvs,hp,hd,en⟩,nd⟩:=id RA;refine⟨_,rfl,sz1,fun t1 ht1=>?_⟩;refine al (upd _ t1 _) ht1 rfl fun H1 q1 s1=>?_;refine⟨_,rfl,p,dx,_,rfl,s1 _ _ hp,Xj.no ⋯,_,rfl,p,d,R,n,rfl,RA.same s1,sn,fun hn=>h1 hn H1 s1,fun g c t q ht=>?_⟩;refine⟨t1,t,_,_,rfl,rfl,SqT.of q1,SqT.of ht,by simp,by show 1+2<=sizeLine;exact sz3,fun z=>absurd z (by simp),fun _ t2 ht2=>?_⟩;exact h2 g c t2 _ q Ze (s1.trans (Zo ht2)) (s1.free ht2)
abbrev Hf:Stmt:=top 4
theorem zc2:Zk ["people","match","out","ledger","rest"] ["people","match","out","ledger","rest"] (Zi Hf):=fnS
theorem zc3(F:Fun K "takers" "takers" Hf f fd)(T:Tx K mg a)(zpx:Z1 P w K mg base "reasons" 3 ["referee","match","out","ledger","rest"] (Fs K a.zli)):FnOk P w K mg base (CX1 P w) 4 f fd ["people","match","out","ledger","rest"] (Cz K a.zli):=by
 refine F.okX zc2 ⋯ fun _ _ _ _ H _ Q E hr h=>?_;obtain⟨lp,lo,tm,p,lr,ld,Rs,ts,Ms,os,h,gu,d,rest,rfl,hp,tl,ho,hoo,ht,LA,hl,hq⟩:=h;refine⟨_,(Zd (Zl (Wv rfl (cT ["match","ledger","rest","out"] [1,3,4,2]) (Z4 (K:=K) rfl (pv 0)) (fun _ _ _ _ _=>Sk (Yj (Fn (K:=K) rfl (zaz zpx (hr.mono ⋯) Ct rfl (Za (pv 0) (Za (pv 1) (Za (Yx (Ur (K:=K) rfl) (pI (iU K) (pv 0) Zf) (pv 4) (by with_unfolding_all rfl)) (Za (pv 2) (Za (pv 3) Zc)))))) (fun _=>rfl)))) (fun _ _ _ _ _=>(pI (iU K) (pv 0) Zf))))),?_⟩;have hlen:ts.length=Ms.length:=by rw[tl.length,zs4]
 refine⟨_,rfl,lp,rfl,⟨_,SqL.of hp⟩,?_⟩;refine Wi (K:=K) (a:=lp) (xs:=ts) (fun i ys H'=>Same H H'/\ys=((Ms.take i).filter (Po Rs h gu d os rest)).map fun m=>V.int m.1) ⟨Same.refl _,rfl⟩ (fun i ys H' _ ⟨s,_⟩=>SqL.of (s _ _ hp)) (by rw[hlen];exact szN hl) (fun i ys H' ⟨_,e⟩=>by rw[e,zs4];exact ztk (zub _ _) (zu1 _ _)) ?_ ?_
 ·rintro i x ys H' hx ⟨sm,rfl⟩;obtain⟨t,m,rfl,hm,htt⟩:=zd9 tl hx;have htt':=sm _ _ htt;refine⟨_,rfl,_,rfl,_,rfl,t,_,_,_,rfl,rfl,SqT.of htt',(show atI (pV m) 0=some _ from rfl),_,rfl,lo,os,rfl,.inl (SqL.of (sm _ _ ho)),rfl,zut.mpr (fun y hy=>Ts (hoo y hy)),_,rfl,_,rfl,t,tm,p,lr,ld,Rs,m.1,m.2.1,m.2.2,h,gu,d,rest,inV (.int m.1) os,rfl,htt',sm _ _ ht,LA.same sm,fun l H2 hl2 s2 _=>?_⟩;refine⟨_,.inl ⟨_,SqL.of hl2,rfl⟩,?_⟩;have e:((Ku Rs m.1 m.2.1 m.2.2 h gu d (inV (.int m.1) os) rest).map V.str).isEmpty=Po Rs h gu d os rest m:=by unfold Po;rw[List.isEmpty_map]
  have hys:∀ ys',((Ms.take (i+1)).filter (Po Rs h gu d os rest)).map (fun m=>V.int m.1)=((Ms.take i).filter (Po Rs h gu d os rest)).map (fun m=>V.int m.1)++ys'↔ys'=if Po Rs h gu d os rest m then [V.int m.1] else []:=fun ys'=>by
   rw[zuf,hm,zul,zti,List.append_cancel_left_eq];cases q:Po Rs h gu d os rest m<;>simp[q,eq_comm]
  dsimp only;rw[e];refine itB (fun hb=>?_) (fun hb=>?_)
  ·rw[Bool.not_not] at hb;refine⟨_,rfl,t,_,_,_,rfl,rfl,SqT.of (s2 _ _ htt'),(show atI (pV m) 0=some _ from rfl),sm.trans s2,?_⟩;exact((hys [V.int m.1]).mpr (by rw[hb];rfl)).symm
  ·rw[Bool.not_not] at hb;refine⟨sm.trans s2,?_⟩;have:=(hys []).mpr (by rw[hb];rfl);rw[zui] at this;exact this.symm
 ·rintro ys H' ⟨sm,rfl⟩ l hl';rw[hlen,zto];exact hq l _ Ze (sm.trans (Zo hl')) (sm.free hl')
abbrev T5:Stmt:=top 42
theorem Vm:Zk ["given","taken","place","number"] ["given"] (Zi T5):=fnS
theorem K0(F:Fun K "places_taken" "places_taken" T5 f fd)(T:Tx K mg a):FnOk P w K mg base (CX1 P w) 1 f fd ["given"] (E8 K):=by
 refine F.okX Vm ⋯ fun _ _ _ _ H _ Q E hr h=>?_;obtain⟨b,gs,rfl,hb,ho,hinj,hl,h⟩:=h;have hu:=Vg hr;refine⟨_,(Zb (pS 1 Vm.nd Tp)
 (Zb (Yf PassesOwn.leaving rfl (zba (K:=K) rfl rfl T.zoa (Za (pv 0) Zc)) (V2 (K:=K) (n:=2) rfl rfl (Z6 (pN 2 Vm.nd) (Z6 (pN 3 Vm.nd) V0)))
  (Zd (Zx (Zp Si (pv 3) Y3 (Zq _))
   (Zd (V1 hu (pv 1) (pv 3) (pv 2) rfl))
   Zn)))
 (Zd (Zl (pv 1))))),?_⟩
 have line:100<sizeLine:=by rw[sizeLine_eq];decide
 intro d hd
 let jv1:Nat->L2.St->Hp->Prop:=fun i σ' H'=>(∃ u v,σ'=[some (.ref b),some (.ref d),u,v])/\Same H H'/\∃ kvs,H' d=some (.dK kvs)/\kvs.length<=i/\(∀ (n:Int) (j:Nat),j<i->gs[j]?=some (.int n)->valV kvs (inl n:Key)=some (.int (j:Nat)))/\(∀ n:Int,(∀ j:Nat,j<i->gs[j]?≠some (.int n))->valV kvs (inl n:Key)=none)
 refine⟨_,rfl,b,rfl,⟨gs,SqL.of (Zo hd _ _ hb)⟩,zeg (xs:=gs) jv1
  ⟨⟨none,none,rfl⟩,Zo hd,[],Ze,ztc _,fun n j hj=>absurd hj (zu2 _),fun n _=>rfl⟩ (fun i σ' H' hi p=>SqL.of (p.2.1 _ _ hb)) (fun i x t σ' H' hx p htn=>?_) (fun σ' H' p=>?_)⟩
 ·obtain⟨⟨u,v,rfl⟩,hs,kvs,hk,hkl,h1,h2⟩:=p;have s2:=hs.trans (Zo (o:=.tup [.int (i:Nat),x]) htn);have hk2:=Zo (o:=.tup [.int (i:Nat),x]) htn _ _ hk;refine⟨t,_,rfl,SqT.of Ze,rfl,_,_,rfl,_,_,rfl,rfl,?_⟩;generalize upd H' t (.tup [.int (i:Nat),x])=H2 at s2 hk2;have hi:i<gs.length:=(zs6.mp hx).1;refine Y7 (b:=!decide (x=.non)) (fun Q k=>⟨_,rfl,rfl,_,rfl,k⟩) ?_;rcases ho x (ztb hx) with rfl|⟨n,rfl⟩
  ·refine iteF (Zz ⟨⟨_,_,rfl⟩,s2,kvs,hk2,by omega,fun n j hj hg=>?_,fun n hn=>h2 n fun j hj=>hn j ⋯⟩);by_cases e:j=i
   ·subst e;rw[hx] at hg;cases hg
   ·exact h1 n j ⋯ hg
  ·refine iteT ⟨_,rfl,_,rfl,_,rfl,d,_,rfl,DPut.k (k:=inl n) hk2 ⋯,⟨_,_,rfl⟩,?_,_,Ze,?_,fun m j hj hg=>?_,fun m hm=>?_⟩
   ·exact Z8 hd s2
   ·exact ztk (Xr kvs _ _) ⋯
   ·rw[U3];by_cases e:j=i
    ·subst e;rw[hx] at hg;cases hg;rw[if_pos rfl]
    ·have hne:¬ ((inl m:Key)=inl n):=fun z=>by
      rw[inl.inj z] at hg;exact e (hinj j i n hg hx)
     rw[if_neg hne];exact h1 m j ⋯ hg
   ·have hne:¬ ((inl m:Key)=inl n):=fun z=>by
     rw[inl.inj z] at hm;exact hm i ⋯ hx
    rw[U3,if_neg hne];exact h2 m fun j hj=>hm j ⋯
 ·obtain⟨⟨u,v,rfl⟩,hs,kvs,hk,hkl,h1,h2⟩:=p;exact⟨_,rfl,h d kvs H' hk ⟨fun n j hj=>h1 n j (zs6.mp hj).1 hj,fun n hn=>h2 n fun j _=>hn j⟩ hs hd⟩
abbrev Qo:Stmt:=top 43
theorem X0:Zk ["may","taken","start","into","waiting","done","place","number"] ["may","taken","start"] (Zi Qo):=fnS
theorem Gy(F:Fun K "steps_into" "steps_into" Qo f fd)(T:Tx K mg a):FnOk P w K mg base (CX1 P w) 1 f fd ["may","taken","start"] (Az K):=by
 refine F.okX X0 ⋯ fun _ _ _ _ H _ Q E hr h=>?_;obtain⟨l,d,ls,rows,kvs,gs,p,rfl,hl,il,hrl,hd,tk,FP,hp,h⟩:=h;have hu:=Vg hr;refine⟨_,(Zb (pS 3 X0.nd (zas (Cn (pv 2) Y3 zar) rfl rfl (by simp) ⋯))
 (Zb (pS 4 X0.nd (Yl (Za (pv 2) Zc)))
 (Zb (pS 5 X0.nd Zf)
 (Zb (N7 PassesOwn.leaving (Zp Kd (pv 5) (Zm (cL K) (by rfl) T.zlq PySem.boot_len (Za (pv 4) Zc)) (Zq _))
  (Zb (pS 6 X0.nd (pI (iL K) (pv 4) (pv 5)))
  (Zb (pS 5 X0.nd (Zu Yk (pv 5) Zf))
  (Zd (Yf PassesOwn.leaving rfl (Z4 (K:=K) rfl (pI (iL K) (pv 0) (pv 6))) (pN 7 X0.nd)
   (Zd (Zx (PW.pt (M3 (Sw (Jv hu (pv 7) (pv 1))) (Oi (Sw (Rp hu (pD hu (pv 1) (pv 7)) (pv 3))))))
    (Zb (V1 hu (pv 3) (pD hu (pv 1) (pv 7)) (Xg (Za (pv 6) (Za (pv 7) Zc))) rfl)
    (Zd (Yo (pv 4) (pD hu (pv 1) (pv 7)))))
    Zn)))))))
 (Zd (Zl (pv 3))))))),?_⟩
 show let y1:TS:=_;let y2:TS:=Zw _ y1;let y3:TS:=_;let y4:TS:=Zw (Ej _ (Zw _ y2)) y3;let y5:TS:=Zw _ y4;let y6:TS:=Zw _ y5;Zw _ y6 _ _ _;intro y1 y2 y3 y4 y5 y6;have line0:200<sizeLine:=by rw[sizeLine_eq];decide
 intro ld hld;refine⟨_,rfl,Ze,[(inl (p:Int),.non)],rfl,(by show 1<=15;decide),?_⟩;have s0:Same H (upd (upd H ld (.dK [])) ld (.dK (Vo [] [(inl (p:Int),.non)]))):=Z8 hld (Zo hld);have q0:upd (upd H ld (.dK [])) ld (.dK (Vo [] [(inl (p:Int),.non)])) ld=some (.dK [((inl (p:Int):Key),V.non)]):=Ze;generalize upd (upd H ld (.dK [])) ld (.dK (Vo [] [(inl (p:Int),.non)]))=H1 at s0 q0;refine⟨_,rfl,sz1,fun ln hln=>?_⟩;refine al (upd _ ln _) hln rfl fun H2 TH2 s1=>?_;have e1:H2 ln=some (.lst (Yc [p])):=TH2;have q1:=s1 _ _ q0;have s01:=s0.trans s1;have nln:ld≠ln:=Zg q0 hln;have fln:H ln=none:=s0.free hln;have hbound:∀ line:List Nat,line.Nodup->(∀ c∈line,c<rows.length)->line.length<=rows.length:=fun line nd hc=>by
  have:=nd.length_le_of_subset (l₂:=List.range rows.length) fun c hcc=>zt5.mpr (hc c hcc);rw[ztr] at this;exact this
 refine⟨fun m σ' H'=>∃ (line:List Nat) (dep:Nat->Nat) (fr:Nat->Option (Nat×Int)) (into:List (Key×V)) (dn:Nat) (v6 v7:Option V),m=rows.length-dn/\dn<=line.length/\σ'=[some (.ref l),some (.ref d),some (.int p),some (.ref ld),some (.ref ln),some (.int (dn:Nat)),v6,v7]/\Same H H'/\H' ld=some (.dK into)/\H' ln=some (.lst (Yc line))/\Xy H' into line fr/\Bfs rows gs p line dep/\Done rows gs line dep dn/\Tu rows gs p line dep fr/\(∀ q∈line,q<rows.length)/\∀ here,line[dn]?=some here->∀ x∈line,dep x<=dep here+1,
  ⟨_,[p],fun _=>0,fun _=>none,_,0,_,_,rfl,zt6 _,rfl,s01,q1,e1,A0 _ _,Fv rows gs p,fun i q hi=>absurd hi (zu2 _),A4,by simpa using hp,fun here _ x _=>zt6 _⟩,?_⟩
 rintro m σ Ha ⟨line,dep,fr,into,dn,v6,v7,rfl,hdn,rfl,sa,hda,hna,io,B,Dn,fo,hlt,near⟩;have hll:=hbound _ B.nodup hlt;have hnl:(Yc line).length=line.length:=by unfold Yc;rw[zs4]
 refine⟨_,rfl,_,rfl,ln,_,rfl,.inl (SqL.of hna),_,_,rfl,rfl,_,rfl,?_⟩;rw[hnl];by_cases hlt2:dn<line.length
 ·rw[zta (show ((dn:Nat):Int)<(line.length:Nat) by omega)];refine iteT ?_;obtain⟨here,hh⟩:∃ here,line[dn]?=some here:=⟨_,zs5 hlt2⟩;have hhm:=ztb hh;have hhere:=hlt here hhm;have hhv:(Yc line)[dn]?=some (.int (here:Nat)):=by unfold Yc;rw[zs7,hh];rfl
  refine⟨fun σ' H'=>∃ (line:List Nat) (dep:Nat->Nat) (fr:Nat->Option (Nat×Int)) (into:List (Key×V)) (v6 v7:Option V),dn+1<=line.length/\σ'=[some (.ref l),some (.ref d),some (.int p),some (.ref ld),some (.ref ln),some (.int ((dn+1:Nat):Int)),v6,v7]/\Same H H'/\H' ld=some (.dK into)/\H' ln=some (.lst (Yc line))/\Xy H' into line fr/\Bfs rows gs p line dep/\Done rows gs line dep (dn+1)/\Tu rows gs p line dep fr/\(∀ q∈line,q<rows.length)/\∀ here,line[dn+1]?=some here->∀ x∈line,dep x<=dep here+1,
   (by rintro σ' H' ⟨line,dep,fr,into,v6,v7,a1,a2⟩;exact⟨rows.length-(dn+1),by omega,line,dep,fr,into,dn+1,v6,v7,rfl,a1,a2⟩),?_⟩
  have hr':rows[here]?=some (rows[here]'hhere):=zs5 hhere;generalize (rows[here]'hhere)=r at hr';obtain⟨lr,e2,e3⟩:=il.getR hr';have hl':(ls.map V.ref)[here]?=some (.ref lr):=by rw[zs7,e2];rfl
  refine⟨_,rfl,_,rfl,ln,_,_,_,rfl,rfl,SqL.of hna,Zs hhv,?_⟩;refine⟨_,rfl,_,_,rfl,rfl,?_⟩;refine⟨_,rfl,_,rfl,l,_,_,_,rfl,rfl,SqL.of (sa _ _ hl),Zs hl',lr,rfl,⟨_,SqL.of (sa _ _ e3)⟩,?_⟩
  let jv2:Nat->L2.St->Hp->Prop:=fun j σ' H'=>∃ (line:List Nat) (dep:Nat->Nat) (fr:Nat->Option (Nat×Int)) (into:List (Key×V)) (v7:Option V),σ'=[some (.ref l),some (.ref d),some (.int p),some (.ref ld),some (.ref ln),some (.int ((dn+1:Nat):Int)),some (.int (here:Nat)),v7]/\Same H H'/\H' ld=some (.dK into)/\H' ln=some (.lst (Yc line))/\Xy H' into line fr/\Bfs rows gs p line dep/\Done rows gs line dep dn/\Tu rows gs p line dep fr/\(∀ q∈line,q<rows.length)/\line[dn]?=some here/\(∀ x∈line,dep x<=dep here+1)/\∀ n∈r.take j,∀ q':Nat,gs[q']?=some (.int n)->q'∈line
  refine Xi (K:=K) (a:=lr) (xs:=r.map V.int) jv2
   ⟨line,dep,fr,into,_,rfl,sa,hda,hna,io,B,Dn,fo,hlt,hh,near here hh,by simp⟩ (by rintro j σ' H' _ ⟨_,_,_,_,_,_,z,_⟩;exact SqL.of (z _ _ e3)) ?_ ?_
  ·rintro j y σ' Hx hy ⟨line,dep,fr,into,w7,rfl,sx,hdx,hnx,io,B,Dn,fo,hlt,hh,near,pr⟩;have hj:j<r.length:=by have:=(zs6.mp hy).1;rw[zs4] at this;exact this
   have hhm:=ztb hh;have hrj:r[j]?=some (r[j]'hj):=zs5 hj;have etk:r.take (j+1)=r.take j++[r[j]'hj]:=ztp hj;generalize (r[j]'hj)=n at hrj etk;have ey:y=.int n:=by rw[zs7,hrj] at hy;exact(Option.some.inj hy).symm
   subst ey;have hnr:=ztb hrj;have hll:=hbound _ B.nodup hlt;have prev:(∀ q':Nat,gs[q']?=some (.int n)->q'∈line)->∀ m∈r.take (j+1),∀ q':Nat,gs[q']?=some (.int m)->q'∈line:=fun k m hm=>by
    rw[etk] at hm;rcases ztg.mp hm with z|z
    ·exact pr m z
    ·rw[zs9.mp z];exact k
   rcases tk.iff n with ⟨q',hq',hv⟩|⟨hno,hv⟩
   ·by_cases hin:q'∈line
    ·refine Y7 (b:=false) (fun Q k=>?_) (iteF (Zz ⟨line,dep,fr,into,_,rfl,sx,hdx,hnx,io,B,Dn,fo,hlt,hh,near,prev fun q2 h2=>by rw[FP.inj q2 q' n h2 hq'];exact hin⟩));refine⟨_,rfl,_,rfl,d,_,rfl,DGet.k (k:=inl n) (sx _ _ hd),_,rfl,?_⟩;rw[hv];refine iteT ⟨_,rfl,_,rfl,d,_,rfl,hv▸DGet.k (k:=inl n) (sx _ _ hd),_,rfl,ld,_,rfl,DGet.k (k:=inl (q':Int)) hdx,_,rfl,?_⟩;rw[(io.has q').mpr hin];exact k
    ·have hnin:(valV into (inl (q':Int):Key)).isSome=false:=by
      rw[Bool.eq_false_iff];exact fun z=>hin ((io.has q').mp z)
     have hq'l:q' < rows.length:=by
      have:=(zs6.mp hq').1;rw[FP.len] at this;exact this
     have ha:adjN rows gs here n q':=⟨⟨r,hr',hnr⟩,hq'⟩;obtain⟨B',old,all⟩:=B.app (dn:=dn) hh near ha hin;refine Y7 (b:=true) (fun Q k=>?_) (iteT ?_)
     ·refine⟨_,rfl,_,rfl,d,_,rfl,DGet.k (k:=inl n) (sx _ _ hd),_,rfl,?_⟩;rw[hv];refine iteT ⟨_,rfl,_,rfl,d,_,rfl,hv▸DGet.k (k:=inl n) (sx _ _ hd),_,rfl,ld,_,rfl,DGet.k (k:=inl (q':Int)) hdx,_,rfl,?_⟩;rw[hnin];exact k
     ·refine⟨_,rfl,_,rfl,sz2,fun t ht=>?_⟩;refine al (upd _ t _) ht rfl fun Ht et t1=>?_;have st:=sx.trans t1;have hdt:=t1 _ _ hdx;have hnt:=t1 _ _ hnx;have iot:=io.same t1;refine⟨_,rfl,_,rfl,_,rfl,d,_,rfl,hv▸DGet.k (k:=inl n) (st _ _ hd),ld,_,rfl,DPut.k (k:=inl (q':Int)) hdt ?_,?_⟩
      ·have:=io.len;omega
      have sd:Same H (upd Ht ld (.dK (putK into (inl (q':Int)) (.ref t)))):=Z8 hld st;have ed:upd Ht ld (.dK (putK into (inl (q':Int)) (.ref t))) ld=some (.dK (putK into (inl (q':Int)) (.ref t))):=Ze;have en:upd Ht ld (.dK (putK into (inl (q':Int)) (.ref t))) ln=some (.lst (Yc line)):=by rw[Zh (Ne.symm nln)];exact hnt
      have iod:Xy (upd Ht ld (.dK (putK into (inl (q':Int)) (.ref t)))) (putK into (inl (q':Int)) (.ref t)) (line++[q']) (Kl fr q' (here,n)) :=
       (iot.app hin et).mono fun c xs e=>by rw[Zh (Xm e hdt (fun z=>nomatch z))];exact e
      generalize upd Ht ld (.dK (putK into (inl (q':Int)) (.ref t)))=Hd at sd ed en iod;have hsz:(Yc line).length<sizeLine:=by unfold Yc;rw[zs4];omega
      refine⟨_,rfl,ln,_,rfl,en,_,rfl,_,rfl,d,_,rfl,hv▸DGet.k (k:=inl n) (sd _ _ hd),_,en,hsz,line++[q'],Xx dep q' (dep here+1),Kl fr q' (here,n),putK into (inl (q':Int)) (.ref t),_,rfl,Z8 fln sd,?_,?_,?_,B',Dn.app ?_ ⟨_,rfl⟩ old,fo.app hin B.memp hhm ha,?_,?_,?_,?_⟩
      ·rw[Zh nln];exact ed
      ·rw[Ze];unfold Yc;rw[zti];rfl
      ·exact iod.mono fun c xs e=>by rw[Zh (Xm e en (fun z=>nomatch z))];exact e
      ·have:=(zs6.mp hh).1;omega
      ·intro q hq;rcases ztg.mp hq with z|z
       ·exact hlt q z
       ·rw[zs9.mp z];exact hq'l
      ·rw[zt7 (zs6.mp hh).1];exact hh
      ·intro x hx;rw[old here hhm];exact all x hx
      ·intro m hm q2 h2;rw[etk] at hm;rcases ztg.mp hm with z|z
       ·exact ztu _ (pr m z q2 h2)
       ·rw[zs9.mp z] at h2;rw[FP.inj q2 q' n h2 hq'];exact zth _ (zs9.mpr rfl)
   ·refine Y7 (b:=false) (fun Q k=>?_) (iteF (Zz ⟨line,dep,fr,into,_,rfl,sx,hdx,hnx,io,B,Dn,fo,hlt,hh,near,prev fun q2 h2=>absurd h2 (hno q2)⟩));refine⟨_,rfl,_,rfl,d,_,rfl,DGet.k (k:=inl n) (sx _ _ hd),_,rfl,?_⟩;rw[hv];exact iteF k
  ·rintro σ' Hx ⟨line,dep,fr,into,w7,rfl,sx,hdx,hnx,io,B,Dn,fo,hlt,hh,near,pr⟩;rw[zs4,zto] at pr;have hlt3:=(zs6.mp hh).1;refine⟨line,dep,fr,into,_,_,by omega,rfl,sx,hdx,hnx,io,B,fun i q hi hq n q' ha=>?_,fo,hlt,fun here2 hh2 x hx=>?_⟩
   ·by_cases e:i=dn
    ·rw[e,hh] at hq;cases hq;obtain⟨⟨r2,h1,h2⟩,h3⟩:=ha;rw[hr'] at h1;cases h1;have hm:=pr n h2 q' h3;exact⟨hm,near q' hm⟩
    ·exact Dn i q ⋯ hq n q' ha
   ·have:=B.sorted dn (dn+1) here here2 ⋯ hh hh2;have:=near x hx;omega
 ·rw[ztd (show ¬ (((dn:Nat):Int)<(line.length:Nat)) by omega)];refine iteF ⟨_,rfl,?_⟩;have e:dn=line.length:=by omega
  subst e;exact h ld into line dep fr Ha hda io B Dn fo hlt sa hld
abbrev T6:Stmt:=top 44
theorem Q5:Zk ["numbers","taken","number"] ["numbers","taken"] (Zi T6):=fnS
theorem K3(F:Fun K "free_referee" "free_referee" T6 f fd)(T:Tx K mg a):FnOk P w K mg base (CX1 P w) 1 f fd ["numbers","taken"] (Fy K):=by
 refine F.okX Q5 ⋯ fun _ _ _ _ H _ Q E hr h=>?_;obtain⟨l,d,r,kvs,rfl,hl,hd,h⟩:=h;have hu:=Vg hr;refine⟨_,(Zb (Yf PassesOwn.leaving rfl (Z4 (K:=K) rfl (pv 0)) (pN 2 Q5.nd)
  (Zd (Zx (Sw (Rp hu (pv 2) (pv 1)))
   (Zd (Zl (pv 2)))
   Zn)))
 (Zd (Zl Y3))),?_⟩
 let jv3:Nat->L2.St->Hp->Prop:=fun i σ' H'=>(∃ u,σ'=[some (.ref l),some (.ref d),u])/\H'=H/\∀ n∈r.take i,(valV kvs (inl n:Key)).isSome=true
 refine⟨_,rfl,l,rfl,⟨_,SqL.of hl⟩,Xi (xs:=r.map V.int) jv3
  ⟨⟨none,rfl⟩,rfl,by simp⟩ (fun i σ' H' hi p=>by rw[p.2.1];exact SqL.of hl) (fun i x σ' H' hx p=>?_) (fun σ' H' p=>?_)⟩
 ·obtain⟨⟨u,rfl⟩,rfl,hp⟩:=p;have hi:i<r.length:=by have:=(zs6.mp hx).1;rw[zs4] at this;exact this
  have e:x=.int (r[i]'hi):=by
   rw[zs7,zs5 hi] at hx;exact(Option.some.inj hx).symm
  subst e;refine Y7 (b:=!(valV kvs (inl (r[i]'hi):Key)).isSome) (fun Q k=>⟨_,rfl,_,rfl,d,_,rfl,DGet.k (k:=inl (r[i]'hi)) hd,_,rfl,k⟩) ?_;cases hv:valV kvs (inl (r[i]'hi):Key) with
  | none=>exact iteT ⟨_,rfl,h (some (r[i]'hi)) (fun n hn=>by cases hn;exact⟨ztw hi,hv⟩) (fun z=>nomatch z)⟩
  | some y =>
    refine iteF (Zz ⟨⟨_,rfl⟩,rfl,fun n hn=>?_⟩);rw[ztp hi] at hn;rcases ztg.mp hn with z|z
    ·exact hp n z
    ·rw[zs9.mp z,hv];rfl
 ·obtain⟨⟨u,rfl⟩,rfl,hp⟩:=p;rw[zs4,zto] at hp;exact h none (fun n z=>nomatch z) fun _=>hp
abbrev Hg:Stmt:=top 45
theorem Ou:Zk ["into","place","number","steps","step"] ["into","place","number"] (Zi Hg):=fnS
theorem zc4(F:Fun K "traced" "traced" Hg f fd)(T:Tx K mg a):FnOk P w K mg base (CX1 P w) 1 f fd ["into","place","number"] (C3 K):=by
 refine F.okX Ou ⋯ fun _ _ _ _ H _ Q E hr h=>?_;obtain⟨t,q,p,w,rows,gs,into,line,dep,fr,rfl,ht,io,fo,d0,hp,hq,hdq,h⟩:=h;have hu:=Vg hr;refine⟨_,(Zb (pS 3 Ou.nd (Yl (Za (Xg (Za (pv 1) (Za (pv 2) Zc))) Zc)))
 (Zb (pS 4 Ou.nd (pD hu (pv 0) (pv 1)))
 (Zb (N7 PassesOwn.leaving (Zp Si (pv 4) Y3 (Zq _))
  (Zb (Yo (pv 3) (pv 4))
  (Zd (pS 4 Ou.nd (pD hu (pv 0) (pI (iU K) (pv 4) Zf))))))
 (Zb (Z2 (Aq PySem.F.plainAttrs_list PySem.F.slot_list_reverse PySem.F.type_list_reverse As (pv 3)))
 (Zd (Zl (pv 3))))))),?_⟩
 have line0:200<sizeLine:=by rw[sizeLine_eq];decide
 have get:∀ {H':Hp},Same H H'->∀ k:Nat,DGet H' t (.int (k:Nat)) (valV into (inl (k:Int):Key)):=fun {H'} hs k=>.inl ⟨into,inl (k:Int),ht.imp (hs _ _) (fun ⟨o,e⟩=>⟨o,hs _ _ e⟩),rfl,rfl⟩;have fr0:∀ c∈line,fr c=none->c=p:=fun c hc hf=>by
  by_cases e:c=p
  ·exact e
  ·obtain⟨par,n,h1,_⟩:=fo.2 c hc e;rw[hf] at h1;cases h1
 have some_of:∀ c∈line,∃ v,valV into (inl (c:Int):Key)=some v:=fun c hc=>zuw.mp ((io.has c).mpr hc);refine⟨_,rfl,_,rfl,sz2,fun m hm=>⟨sz1,fun lt hlt=>?_⟩⟩;have s1:=Zo (o:=.tup [.int (q:Nat),oV w]) hm;have e1:upd H m (.tup [.int (q:Nat),oV w]) m=some (.tup (Wf (q,w))):=Ze;generalize upd H m (.tup [.int (q:Nat),oV w])=H1 at s1 e1 hlt;refine al (upd _ lt _) hlt rfl fun H2 e2 s2=>?_;have e3:=s2 _ _ e1;have s3:=s1.trans s2;have hltn:H lt=none:=s1.free hlt;obtain⟨v0,hv0⟩:=some_of q hq;refine⟨_,rfl,_,rfl,t,v0,rfl,hv0▸get s3 q,?_⟩;refine⟨fun mm σ' H'=>∃ (cur:Nat) (st:List (Nat×Option Int)) (ts:List V) (v:V),mm=dep cur/\cur∈line/\valV into (inl (cur:Int):Key)=some v/\σ'=[some (.ref t),some (.int (q:Nat)),some (oV w),some (.ref lt),some v]/\Same H H'/\H' lt=some (.lst ts)/\TupL H' ts (st.reverse.map Wf)/\Ch rows gs cur st q w/\st.length+dep cur=dep q+1,
  ⟨_,q,[(q,w)],_,v0,rfl,hq,hv0,rfl,s3,e2,.cons e3 .nil,.one q w,by show 1+dep q=_;omega⟩,?_⟩
 rintro mm σ' Ha ⟨cur,st,ts,v,rfl,hc,hv,rfl,sa,hta,htl,hch,hlen⟩;have htsl:ts.length=st.length:=by have:=htl.length;rw[zs4,zu7] at this;exact this
 refine⟨_,rfl,rfl,_,rfl,?_⟩;cases hf:fr cur with
 | none =>
   have hcp:=fr0 cur hc hf;subst hcp;have hvn:=io.none cur hc hf;rw[hv] at hvn;cases hvn;refine iteF ?_;refine⟨_,rfl,.inl ⟨rfl,_,SqL.of hta⟩,lt,ts,rfl,rfl,hta,_,rfl,?_⟩;refine h lt ts.reverse st _ Ze ?_ hch ⋯ (Z8 hltn sa) hltn;have hr:=htl.reverse;rw[<- List.map_reverse,List.reverse_reverse] at hr;exact hr.mono fun c xs e=>by rw[Zh (Xm e hta (fun z=>nomatch z))];exact e
 | some x =>
   obtain⟨par,n⟩:=x;obtain⟨tt,h1,h2⟩:=io.some cur hc par n hf;rw[hv] at h1;cases h1;have hcp:cur≠p:=fun z=>by rw[z,fo.1] at hf;cases hf
   obtain⟨par',n',h3,h4,h5,h6⟩:=fo.2 cur hc hcp;rw[hf] at h3;cases h3;obtain⟨v',hv'⟩:=some_of par h4;refine iteT ?_;refine⟨fun σ' H'=>∃ (st:List (Nat×Option Int)) (ts:List V),σ'=[some (.ref t),some (.int (q:Nat)),some (oV w),some (.ref lt),some v']/\Same H H'/\H' lt=some (.lst ts)/\TupL H' ts (st.reverse.map Wf)/\Ch rows gs par st q w/\st.length+dep par=dep q+1,
    fun σ' H' ⟨st,ts,a1,a2,a3,a4,a5,a6⟩=>⟨dep par,by omega,par,st,ts,v',rfl,h4,hv',a1,a2,a3,a4,a5,a6⟩,?_⟩
   have s4:Same H (upd Ha lt (.lst (ts++[V.ref tt]))):=Z8 hltn sa;refine⟨_,rfl,lt,_,rfl,hta,_,rfl,_,hta,by omega,?_⟩;refine⟨_,rfl,_,rfl,tt,_,_,_,rfl,rfl,SqT.of (s4 _ _ h2),rfl,t,v',rfl,hv'▸get s4 par,(par,some n) :: st,ts++[V.ref tt],rfl,s4,Ze,?_,.step h5 hch,?_⟩
   ·rw[zuu,zti];exact(htl.mono fun c xs e=>by rw[Zh (Xm e hta (fun z=>nomatch z))];exact e).snoc (s4 _ _ h2)
   ·rw[ztt];omega
abbrev Dp:Stmt:=top 46
theorem Py:Zk ["may","given","place","taken","into","reached","number"] ["may","given","place"] (Zi Dp):=fnS
theorem ze8(F:Fun K "chain" "chain" Dp f fd)(T:Tx K mg a)(zmf:Z1 P w K mg base "places_taken" 1 ["given"] (E8 K))(zmr:Z1 P w K mg base "steps_into" 1 ["may","taken","start"] (Az K))(znx:Z1 P w K mg base "free_referee" 1 ["numbers","taken"] (Fy K))(zpn:Z1 P w K mg base "traced" 1 ["into","place","number"] (C3 K)):FnOk P w K mg base (CX1 P w) 2 f fd ["may","given","place"] (E6 K):=by
 refine F.okX Py ⋯ fun _ _ _ _ H _ Q E hr h=>?_;obtain⟨l,lg,ls,rows,nu,gs,p,rfl,hl,il,mo,hg,FP,hp,hgp,h⟩:=h;refine⟨_,(Zb (pS 3 Py.nd (pF zmf hr (Za (pv 1) Zc)))
 (Zb (pS 4 Py.nd (pF zmr hr (Za (pv 0) (Za (pv 3) (Za (pv 2) Zc)))))
 (Zb (Yf PassesOwn.leaving rfl (zbb (pv 4)) (pN 5 Py.nd)
  (Zb (pS 6 Py.nd (pF znx hr (Za (pI (iL K) (pv 0) (pv 5)) (Za (pv 3) Zc))))
  (Zd (Zx (Zp Si (pv 6) Y3 (Zq _))
   (Zd (Zl (pF zpn hr (Za (pv 4) (Za (pv 5) (Za (pv 6) Zc))))))
   Zn))))
 (Zd (Zl (pF zpn hr (Za (pv 4) (Za (Zm (zcp rfl) (by rfl) T.zqq PyProof.Rows.boot_max (Za (pv 4) Zc)) (Za Y3 Zc))))))))),?_⟩
 have hrl:rows.length<=100:=ztk mo.few ⋯;refine⟨_,rfl,lg,gs,rfl,hg,FP.one,FP.inj,by rw[FP.len];exact hrl,fun d kvs H1 hd1 tk s1 hdn=>?_⟩;refine⟨_,rfl,_,rfl,_,rfl,l,d,ls,rows,kvs,gs,p,rfl,s1 _ _ hl,il.same s1,hrl,hd1,tk,FP,hp,fun t into line dep fr H2 ht io B Dn fo hlt s2 htn=>?_⟩;have hbound:line.length<=rows.length:=by
  have:=B.nodup.length_le_of_subset (l₂:=List.range rows.length) fun c hcc=>zt5.mpr (hlt c hcc);rw[ztr] at this;exact this
 have hd2:=s2 _ _ hd1;have s02:=s1.trans s2;have hfree:∀ q n,(∃ r,rows[q]?=some r/\n∈r)->valV kvs (inl n:Key)=none->Pp rows gs q n:=fun q n hr hv=>⟨hr,fun j hj=>by rw[tk.has n j hj] at hv;cases hv⟩
 have hdep:∀ q∈line,dep q<=100:=fun q hq=>by
  obtain⟨pre,hc,hlp⟩:=fo.back B.d0 (dep q) q q none [(q,none)] rfl hq (.one q none);have nd:=hc.nodup fun k hk=>by
   rw[zs8,hlp];have:=(B.full Dn hk).2;show dep q+1<=k+1;omega
  have hlt':=hc.lt FP hp;have:=nd.length_le_of_subset (l₂:=List.range rows.length) fun x hx=>by
   obtain⟨s,hs,rfl⟩:=zte.mp hx;exact zt5.mpr (hlt' s hs)
  rw[zs4,ztr,zs8,hlp] at this;omega
 have htH:H t=none:=s1.free htn;refine⟨_,rfl,t,into,rfl,ht,fun o=>?_⟩;have e0:upd H2 t (.frz o (.dK into)) t=some (.frz o (.dK into)):=Ze;have s3:Same H (upd H2 t (.frz o (.dK into))):=Z8 htH s02;have hd3:upd H2 t (.frz o (.dK into)) d=some (.dK kvs):=by rw[Zh (Zg hd1 htn)];exact hd2
 have io3:Xy (upd H2 t (.frz o (.dK into))) into line fr:=io.mono fun c xs e=>by rw[Zh (Xm e ht (fun z=>nomatch z))];exact e
 generalize upd H2 t (.frz o (.dK into))=H3 at e0 s3 hd3 io3;have hil:into.length=line.length:=io.len;have key:∀ (i:Nat) (k:Key) (v:V),into[i]?=some (k,v)->∃ q:Nat,line[i]?=some q/\k=inl (q:Int):=fun i k v e=>by
  have:=congrArg (·[i]?) io.keys;simp only[zs7,e,zua] at this;cases hq:line[i]? with
  | none=>rw[hq] at this;cases this
  | some q=>rw[hq] at this;exact⟨q,rfl,Option.some.inj this⟩
 let jv4:Nat->L2.St->Hp->Prop:=fun i σ' H'=>(∃ u v,σ'=[some (.ref l),some (.ref lg),some (.int p),some (.ref d),some (.ref t),u,v])/\H'=H3/\∀ (j q:Nat),j<i->line[j]?=some q->¬ Xl rows gs q
 refine C2 (a:=t) (o:=o) (kvs:=into) jv4 ⟨⟨none,none,rfl⟩,rfl,fun j q hj=>absurd hj (zu2 _)⟩ (fun i σ' H' _ p=>by rw[p.2.1];exact e0) (fun i k v σ' H' hk hP=>?_) (fun σ' H' hP=>?_)
 ·obtain⟨⟨u,v',rfl⟩,rfl,hno⟩:=hP;obtain⟨q,hq,rfl⟩:=key i k v hk;have hqm:=ztb hq;have hqr:rows[q]?=some (rows[q]'(hlt q hqm)):=zs5 (hlt q hqm);generalize (rows[q]'(hlt q hqm))=r at hqr;obtain⟨lr,e2,e3⟩:=il.getR hqr;have hl':(ls.map V.ref)[q]?=some (.ref lr):=by rw[zs7,e2];rfl
  refine⟨_,rfl,_,rfl,l,_,_,_,rfl,rfl,SqL.of (s3 _ _ hl),Zs hl',_,rfl,lr,d,r,kvs,rfl,s3 _ _ e3,hd3,fun w hw1 hw2=>?_⟩;walk_at "if";refine Y7 (b:=!decide (oV w=.non)) (fun Q k=>⟨_,rfl,rfl,_,rfl,k⟩) ?_;cases w with
  | none =>
    refine iteF (Zz ⟨⟨_,_,rfl⟩,rfl,fun j q2 hj hq2=>?_⟩);by_cases e:j=i
    ·rw[e,hq] at hq2;cases hq2;rintro⟨n,⟨r2,h1,h2⟩,h3⟩;rw[hqr] at h1;cases h1;have:=hw2 rfl n h2;rw[tk.not n h3] at this;cases this
    ·exact hno j q2 ⋯ hq2
  | some n =>
    obtain⟨hn1,hn2⟩:=hw1 n rfl;refine iteT ⟨_,rfl,_,rfl,_,rfl,t,q,p,some n,rows,gs,into,line,dep,fr,rfl,.inr ⟨o,e0⟩,io3,fo,B.d0,B.memp,hqm,hdep q hqm,fun lt ts st H4 h1 h2 h3 h4 s4 hltn=>?_⟩;have hf:=hfree q n ⟨r,hqr,hn1⟩ hn2;have Di:Done rows gs line dep i:=fun j x hj=>Dn j x (Nat.lt_trans hj (zs6.mp hq).1);exact h lt ts st q (some n) H4 h1 h2 (Aw B Di hq hno hf h3 h4) (s3.trans s4) (s3.free hltn)
 ·obtain⟨⟨u,v',rfl⟩,rfl,hno⟩:=hP;have hpos:0<line.length:=List.length_pos_of_mem B.memp;refine⟨_,rfl,⟨_,rfl,t,into,line.map fun q:Nat=>(q:Int),rfl,.inr ⟨o,e0⟩,by rw[io.keys,zud];rfl,by rw[zs4];exact hpos,fun M hM hmax=>?_⟩⟩;obtain⟨e,he,rfl⟩:=zte.mp hM;refine⟨t,e,p,none,rows,gs,into,line,dep,fr,rfl,.inr ⟨o,e0⟩,io3,fo,B.d0,B.memp,he,hdep e he,fun lt ts st H4 h1 h2 h3 h4 s4 hltn=>?_⟩;refine h lt ts st e none H4 h1 h2 (Ax B Dn (fun q hq=>?_) (fun q hq=>?_) h3 h4) (s3.trans s4) (s3.free hltn)
  ·obtain⟨j,hj,e2⟩:=zt2 hq;exact hno j q ⋯ (by rw[zs5 hj,e2])
  ·have:=hmax _ (zte.mpr ⟨q,hq,rfl⟩);omega
abbrev Ly:Stmt:=top 47
theorem Qp:Zk ["given","steps","behind","place","number"] ["given","steps"] (Zi Ly):=fnS
theorem zag(F:Fun K "stepped" "stepped" Ly f fd)(T:Tx K mg a):FnOk P w K mg base (CX1 P w) 1 f fd ["given","steps"] (Rt K):=by
 refine F.okX Qp ⋯ fun _ _ _ _ H _ Q E hr h=>?_;obtain⟨b,c,xs,ts,st,rfl,hb,hc,ht,hst,ho,hl,hls,h⟩:=h;refine⟨_,(Zb (pS 2 Qp.nd (Xo (Xv (K:=K) rfl) (by rfl) T.zmk PyProof.Rows.boot_list (Za (pv 0) Zc)))
 (Zb (Yf PassesOwn.leaving rfl (Z4 (K:=K) rfl (pv 1)) (V2 (K:=K) (n:=2) rfl rfl (Z6 (pN 3 Qp.nd) (Z6 (pN 4 Qp.nd) V0)))
  (Zd (Ei (pv 4) (zda (pv 2) (pv 3) Cp))))
 (Zd (Zl (pv 2))))),?_⟩
 have htl:ts.length=st.length:=by have:=ht.length;rw[zs4] at this;exact this
 refine⟨_,rfl,b,_,rfl,.inl (SqL.of hb),fun l hln=>?_⟩
 let jv5:Nat->L2.St->Hp->Prop:=fun i σ' H'=>(∃ u v,σ'=[some (.ref b),some (.ref c),some (.ref l),u,v])/\H' l=some (.lst (Yh (st.take i) xs))/\(∀ a o,H a=some o->H' a=some o)
 refine⟨_,rfl,c,rfl,⟨ts,SqL.of (Zo hln _ _ hc)⟩,Xi (xs:=ts) jv5 ⟨⟨none,none,rfl⟩,Ze,Zo hln⟩ (fun i σ' H' hi p=>SqL.of (p.2.2 _ _ hc)) (fun i x σ' H' hx p=>?_) (fun σ' H' p=>?_)⟩
 ·obtain⟨⟨u,v,rfl⟩,hl2,hs⟩:=p;have hi:i<st.length:=by rw[<- htl];exact(zs6.mp hx).1
  obtain⟨t,e1,e2⟩:=za7 ht (zs5 hi);rw[hx] at e1;cases e1;refine⟨t,_,rfl,SqT.of (hs _ _ e2),rfl,_,_,rfl,_,_,rfl,rfl,?_⟩;have hlen:(Yh (st.take i) xs).length=xs.length:=Xs _ _;have hp:(st[i]'hi).1<xs.length:=hst _ (ztw hi);have e3:Yh (st.take (i+1)) xs=(Yh (st.take i) xs).set (st[i]'hi).1 (oV (st[i]'hi).2):=by
   rw[ztp hi,Lh];rfl
  refine⟨_,rfl,_,rfl,_,rfl,l,_,_,(st[i]'hi).1,rfl,rfl,hl2,(show ixN _ (((st[i]'hi).1:Nat):Int)=some _ by unfold ixN;rw[if_pos ⋯,if_pos ⋯,ztl]),⟨_,_,rfl⟩,?_,fun a o q=>?_⟩
  ·rw[e3];exact Ze
  ·rw[Zh (Zg q hln)];exact hs a o q
 ·obtain⟨⟨u,v,rfl⟩,hl2,hs⟩:=p;rw[htl,zto] at hl2;exact⟨_,rfl,h l H' hl2 hs hln⟩
abbrev zah:Stmt:=top 49
theorem Jq:Zk ["may","given","place"] ["may"] (Zi zah):=fnS
theorem zgg(F:Fun K "fill" "fill" zah f fd)(T:Tx K mg a)(zm7:Z1 P w K mg base "stepped" 1 ["given","steps"] (Rt K))(zpc:Z1 P w K mg base "chain" 2 ["may","given","place"] (E6 K)):FnOk P w K mg base (CX1 P w) 3 f fd ["may"] (zed K):=by
 refine F.okX Jq ⋯ fun _ _ _ _ H _ Q E hr h=>?_;obtain⟨l,ls,rows,nu,rfl,hl,il,mo,h⟩:=h;refine⟨_,(Zb (Vz (i:=1) Jq.nd rfl rfl rfl (cT [] []) (Z4 (K:=K) rfl (pv 0)) (fun _ _ _ _ _=>W8) (fun _ _ _ _ _=>Y3))
 (Zb (Yf PassesOwn.leaving rfl (Yd rfl T.zlw (Za (Zm (cL K) (by rfl) T.zlq PySem.boot_len (Za (pv 0) Zc)) Zc)) (pN 2 Jq.nd)
  (Zd (pS 1 Jq.nd (pF zm7 hr (Za (pv 1) (Za (pF zpc hr (Za (pv 0) (Za (pv 1) (Za (pv 2) Zc)))) Zc))))))
 (Zd (Zl (pv 1))))),?_⟩
 have hlen:=il.length;have hrl:rows.length<=100:=ztk mo.few ⋯;refine⟨_,rfl,l,rfl,⟨_,SqL.of hl⟩,?_⟩;refine Wi (K:=K) (a:=l) (xs:=ls.map V.ref) (fun i ys H'=>H'=H/\ys=(rows.take i).map fun _=>V.non) ⟨rfl,by simp⟩ (fun i ys H' _ z=>by rw[z.1];exact SqL.of hl) (szN (by rw[zs4];omega)) (fun i ys H' z=>by rw[z.2,zs4,zur];omega) ?_ ?_
 ·rintro i x ys H' hx ⟨rfl,rfl⟩;have hi:i<rows.length:=by
   have:=(zs6.mp hx).1;rw[zs4] at this;omega
  unfold tYes;dsimp only;rw[if_pos rfl];refine⟨rfl,?_⟩;rw[ztp hi,zti];rfl
 ·rintro ys H' ⟨rfl,rfl⟩ lg hlg;rw[zs4,hlen,zto];refine al (upd _ lg _) hlg rfl fun H1 e1 s1=>?_;refine⟨_,rfl,l,_,rfl,.inl (SqL.of (s1 _ _ hl)),_,rfl,by omega,by rw[zs4];omega,?_⟩;rw[zs4,hlen,ztl]
  let jv6:Nat->L2.St->Hp->Prop:=fun i σ' Hx=>∃ (lg:Addr) (gs:List V) (v2:Option V),σ'=[some (.ref l),some (.ref lg),v2]/\Same H' Hx/\Hx lg=some (.lst gs)/\Th rows gs i/\H' lg=none
  refine Ym jv6 ⟨lg,_,_,rfl,s1,e1,Gp rows,hlg⟩ ?_ ?_
  ·rintro i σ' Hx hi ⟨lg,gs,v2,rfl,sx,hgx,F,hn⟩;rw[zuc];refine⟨_,rfl,⟨_,rfl,_,rfl,_,rfl,l,lg,ls,rows,nu,gs,i,rfl,sx _ _ hl,il.same sx,mo,hgx,F.fill,hi,F.non (ztc _) hi,fun lt ts st e w H2 h1 h2 c s2 hltn=>?_⟩⟩;refine⟨lg,lt,gs,ts,st,rfl,s2 _ _ hgx,h1,h2,fun s hs=>?_,F.fill.one,by rw[F.fill.len];omega,?_,fun l' H3 h3 s3 hl'=>?_⟩
   ·rw[F.fill.len];exact c.ch.lt F.fill hi s hs
   ·have:=c.len F.fill hi;omega
   ·exact⟨l',_,_,rfl,(sx.trans s2).trans s3,h3,F.step hi c,(sx.trans s2).free hl'⟩
  ·rintro σ' Hx ⟨lg,gs,v2,rfl,sx,hgx,F,hn⟩;exact⟨_,rfl,h lg gs Hx hgx F.fill F.last sx hn⟩
abbrev T7:Stmt:=top 50
theorem K4:Zk ["given"] ["given"] (Zi T7):=fnS
theorem K5(F:Fun K "left_without" "left_without" T7 f fd)(T:Tx K mg a):FnOk P w K mg base (CX1 P w) 1 f fd ["given"] (zea K):=by
 refine F.okX K4 ⋯ fun _ _ _ _ H _ Q E hr h=>?_;obtain⟨b,xs,rfl,hb,ho,hl,h⟩:=h;refine⟨_,(Zd (Zl (J7 rfl (Md.mk (xo:=["place","number"]) (ys:=[]) (js:=[]) rfl rfl ⋯ ⋯ rfl (by repeat' (first|exact True.intro|apply And.intro|rfl)) (by repeat' (first|exact True.intro|apply And.intro|rfl)) ⋯) (zba (K:=K) rfl rfl T.zoa (Za (pv 0) Zc)) (fun _ _ _ _ _=>Sk (Zp R9 (pv 1) Y3 (Zq _))) (fun _ _ _ _ _=>(V2 (K:=K) (n:=2) rfl rfl (Z6 (U2 (i:=0) (show List.Nodup [("place":Str),("number":Str)] by decide +kernel) rfl (by first|exact Or.inl rfl|exact Or.inr rfl)) (Z6 (U2 (i:=1) (show List.Nodup [("place":Str),("number":Str)] by decide +kernel) rfl (by first|exact Or.inl rfl|exact Or.inr rfl)) V0)))) (fun _ _ _ _ _=>(pv 0))))),?_⟩;refine⟨_,rfl,b,rfl,⟨_,SqL.of hb⟩,Ay (fun i=>decide (xs[i]?=some .non)) (fun i=>.int (i:Nat)) ⋯ (SqL.of hb) (fun i x t H' N ys hx hs ht k=>?_) (fun H' l hs hl'=>?_)⟩
 ·refine⟨t,_,rfl,SqT.of Ze,rfl,?_⟩;have k':=k _ (hs.trans (Zo (o:=.tup [.int (i:Nat),x]) ht));refine⟨_,_,rfl,_,_,rfl,rfl,⟨[some (.int (i:Nat)),some x],rfl,rfl⟩,?_⟩;rw[hx] at k';have e2:decide (some x=some V.non)=decide (x=V.non):=by
   by_cases z:x=V.non
   ·rw[zta z,zta (congrArg some z)]
   ·rw[ztd z,ztd (fun q=>z (Option.some.inj q))]
  rw[e2] at k';refine⟨_,rfl,rfl,_,rfl,?_⟩;by_cases z:x=V.non
  ·rw[zta z] at k' ⊢;exact⟨_,rfl,k'⟩
  ·rw[ztd z] at k' ⊢;exact k'
 ·exact h l _ Ze (hs.trans (Zo hl')) (hs.free hl')
abbrev Nu:Stmt:=top 51
theorem B6:Zk ["given","number"] ["given","number"] (Zi Nu):=fnS
theorem B7(F:Fun K "place_of" "place_of" Nu f fd)(T:Tx K mg a):FnOk P w K mg base (CX1 P w) 1 f fd ["given","number"] (Ft K):=by
 refine F.okX B6 ⋯ fun _ _ _ _ H _ Q E hr h=>?_;obtain⟨b,xs,n,rfl,hb,ho,hl,h⟩:=h;refine⟨_,(Zd (Zl (Ca (Zp (Ur (K:=K) rfl) (pv 1) (pv 0) (by with_unfolding_all rfl)) (zax PySem.F.plainAttrs_list PySem.F.slot_list_index PySem.F.type_list_index J3 (pv 0) (Za (pv 1) Zc)) Y3))),?_⟩;have fl:xs.all U4=true:=zut.mpr fun x hx=>by rcases ho x hx with rfl|⟨_,rfl⟩<;>rfl
 refine⟨_,rfl,_,rfl,b,xs,rfl,.inl (SqL.of hb),rfl,fl,_,rfl,?_⟩;have key:=@Ru xs n ho;show if inV (V.int n) xs=true then _ else _
 cases hp:Wr xs n with
 | none =>
   rw[hp] at h;have hno:¬ inV (V.int n) xs=true:=fun z=>by
    obtain⟨j,hj⟩:=key.mp z;have:=List.find?_eq_none.mp hp j (zt5.mpr (zs6.mp hj).1);exact this (zta hj)
   rw[if_neg hno];exact h H (Same.refl H)
 | some j =>
   rw[hp] at h;obtain⟨h1,h2,h3⟩:=List.find?_range_eq_some.mp hp;have hj:xs[j]?=some (.int n):=of_decide_eq_true h1;rw[if_pos (key.mpr ⟨j,hj⟩)];refine⟨_,rfl,?_,_,rfl,b,xs,.int n,j,rfl,rfl,hb,rfl,fl,⟨_,hj,(Qd (.inr ⟨_,rfl⟩)).mpr rfl⟩,fun m z hm hz=>?_,h H (Same.refl H)⟩
   ·exact .inl ⟨rfl,xs,SqL.of hb⟩
   ·have:=h3 m hm;have hne:¬ z=.int n:=fun q=>by
     rw[q] at hz;rw[zta hz] at this;cases this
    cases hb2:eqV z (.int n) with
    | false=>rfl
    | true=>exact absurd ((Qd (ho z (ztb hz))).mp hb2) hne
abbrev Nv:Stmt:=top 53
theorem W3:Zk ["may","given","taken","places","gap","referees","place","number"] ["may","given"] (Zi Nv):=fnS
theorem B8(F:Fun K "shortage" "shortage" Nv f fd)(T:Tx K mg a)(zmf:Z1 P w K mg base "places_taken" 1 ["given"] (E8 K))(znv:Z1 P w K mg base "left_without" 1 ["given"] (zea K))(zmr:Z1 P w K mg base "steps_into" 1 ["may","taken","start"] (Az K)):FnOk P w K mg base (CX1 P w) 2 f fd ["may","given"] (zbe K):=by
 refine F.okX W3 ⋯ fun _ _ _ _ H _ Q E hr h=>?_;obtain⟨l,lg,ls,rows,nu,gs,rfl,hl,il,mo,hg,FP,NA,h⟩:=h;have hu:=Vg hr;refine⟨_,(Zb (pS 2 W3.nd (pF zmf hr (Za (pv 1) Zc)))
 (Zb (pS 3 W3.nd Tp)
 (Zb (Yf PassesOwn.leaving rfl (Z4 (K:=K) rfl (pF znv hr (Za (pv 1) Zc))) (pN 4 W3.nd)
  (Zd (Z2 (zax PySem.F.plainAttrs_dict PySem.F.slot_dict_update PySem.F.type_dict_update zcs (pv 3) (Za (pF zmr hr (Za (pv 0) (Za (pv 2) (Za (pv 4) Zc)))) Zc)))))
 (Zb (pS 5 W3.nd Tp)
 (Zb (Yf PassesOwn.leaving rfl (zbb (pv 3)) (pN 6 W3.nd)
  (Zd (Yf PassesOwn.leaving rfl (Z4 (K:=K) rfl (pI (iL K) (pv 0) (pv 6))) (pN 7 W3.nd)
   (Zd (V1 hu (pv 5) (pv 7) Yp rfl)))))
 (Zd (Zl (Xg (Za (Zm (Qe rfl) (by rfl) T.zo8 PyProof.Rows.boot_sorted (Za (pv 3) Zc)) (Za (Zm (Qe rfl) (by rfl) T.zo8 PyProof.Rows.boot_sorted (Za (pv 5) Zc)) Zc)))))))))),?_⟩
 have hrl:rows.length<=100:=ztk mo.few ⋯;have hgl:gs.length<=100:=by rw[FP.len];exact hrl
 have line0:1000<sizeLine:=Yn ⋯;refine⟨_,rfl,lg,gs,rfl,hg,FP.one,FP.inj,hgl,fun d kvs H1 hd1 tk s1 hdn=>?_⟩;intro lp hlp;refine al (upd _ lp _) hlp rfl fun H2 e2 s2=>?_;have hlpn:H lp=none:=s1.free hlp;have npd:lp≠d:=Ne.symm (Zg hd1 hlp);have s02:=s1.trans s2;have hd2:=s2 _ _ hd1;have hlft:=@Tw gs;refine⟨_,rfl,lg,gs,rfl,s02 _ _ hg,FP.one,hgl,fun ln H3 hln s3 fln=>?_⟩;refine⟨ln,rfl,⟨_,SqL.of hln⟩,?_⟩;have nln:ln≠lp:=Ne.symm (Zg e2 fln);have hbound:∀ line:List Nat,line.Nodup->(∀ c∈line,c<rows.length)->line.length<=rows.length:=fun line nd hc=>by
  have:=nd.length_le_of_subset (l₂:=List.range rows.length) fun c hcc=>zt5.mpr (hc c hcc);rw[ztr] at this;exact this
 have hwlt:∀ g q k,g<rows.length->Walk rows gs g q k->q<rows.length:=fun g q k hg' hw=>by
  cases hw with
  | nil=>exact hg'
  | snoc _ a=>rw[<- FP.len];exact(zs6.mp a.2).1
 refine Xi (K:=K) (a:=ln) (xs:=(Wq gs).map fun i=>V.int (i:Nat)) (fun i σ' H'=>∃ (v4:Option V) (kp:List (Key×V)) (pl:List Nat),σ'=[some (.ref l),some (.ref lg),some (.ref d),some (.ref lp),v4,none,none,none]/\Same H H'/\(∀ b o,H3 b=some o->b≠lp->H' b=some o)/\H' lp=some (.dK kp)/\kp.map (·.1)=pl.map (fun q:Nat=>(inl (q:Int):Key))/\pl.Nodup/\∀ q,q∈pl↔∃ g k,g∈(Wq gs).take i/\Walk rows gs g q k)
  ⟨_,[],[],rfl,s02.trans s3,fun _ _ e _=>e,s3 _ _ e2,rfl,zuy,by simp⟩ (by rintro i σ' H' _ ⟨_,_,_,_,_,z,_⟩;exact SqL.of (z _ _ hln nln)) ?_ ?_
 ·rintro i x σ' Ha hx ⟨v4,kp,pl,rfl,sa,k3,hpa,kk,nd,mem⟩;have hi:i<(Wq gs).length:=by have:=(zs6.mp hx).1;rw[zs4] at this;exact this
  have etk:(Wq gs).take (i+1)=(Wq gs).take i++[(Wq gs)[i]'hi]:=ztp hi;have hgm:(Wq gs)[i]'hi∈Wq gs:=ztw hi;have ex:x=.int (((Wq gs)[i]'hi:Nat):Int):=by rw[zs7,zs5 hi] at hx;exact(Option.some.inj hx).symm
  generalize ((Wq gs)[i]'hi)=g at etk hgm ex;subst ex;have hgr:g<rows.length:=by rw[<- FP.len];exact(zs6.mp (Tw.mp hgm)).1
  have hda:=k3 _ _ (s3 _ _ hd2) (Ne.symm npd);have hkl:kp.length<=100:=by
   have:=congrArg List.length kk;rw[zs4,zs4] at this;rw[this];refine ztk (hbound pl nd fun q hq=>?_) hrl;obtain⟨g',k,h1,h2⟩:=(mem q).mp hq;refine hwlt g' q k ?_ h2;rw[<- FP.len];exact(zs6.mp (Tw.mp (List.mem_of_mem_take h1))).1
  refine⟨_,rfl,.inr (.inr (.inl ⟨rfl,.inl ⟨_,hpa⟩⟩)),_,rfl,_,rfl,_,rfl,l,d,ls,rows,kvs,gs,g,rfl,sa _ _ hl,il.same sa,hrl,hda,tk,FP,hgr,fun t into line dep fr Hb ht io B Dn fo hlt sb htn=>?_⟩;have hll:=hbound line B.nodup hlt;have hil:=io.len;have hpb:=sb _ _ hpa;refine⟨lp,t,kp,into,rfl,rfl,Zg hpa htn,hpb,ht,by omega,?_⟩;have kb:∀ b o,H3 b=some o->b≠lp->upd Hb lp (.dK (Vo kp into)) b=some o:=fun b o e n=>by rw[Zh n];exact sb _ _ (k3 b o e n)
  refine⟨_,Vo kp into,Fz pl line,rfl,Z8 hlpn (sa.trans sb),kb,Ze,Ia zkm kk io.keys,Km nd,fun q=>?_⟩;rw[F1,mem,etk];constructor
  ·rintro(⟨g',k,h1,h2⟩|hq)
   ·exact⟨g',k,ztu _ h1,h2⟩
   ·exact⟨g,dep q,by simp,B.walk q hq⟩
  ·rintro⟨g',k,h1,h2⟩;rcases ztg.mp h1 with z|z
   ·exact .inl ⟨g',k,z,h2⟩
   ·rw[zs9.mp z] at h2;exact .inr (B.full Dn h2).1
 ·rintro σ' Ha ⟨v4,kp,pl,rfl,sa,k3,hpa,kk,nd,mem⟩;rw[zs4,zto] at mem;have mem:∀ q,q∈pl↔∃ g k,gs[g]?=some .non/\Walk rows gs g q k:=fun q=>by
   rw[mem q];exact⟨fun ⟨g,k,a,b⟩=>⟨g,k,Tw.mp a,b⟩,fun ⟨g,k,a,b⟩=>⟨g,k,Tw.mpr a,b⟩⟩
  have hplt:∀ q∈pl,q<rows.length:=fun q hq=>by
   obtain⟨g,k,h1,h2⟩:=(mem q).mp hq;exact hwlt g q k (by rw[<- FP.len];exact(zs6.mp h1).1) h2
  have hpl20:pl.length<=20:=ztk (hbound pl nd hplt) mo.few;intro lr hlr;refine al (upd _ lr _) hlr rfl fun H5 e5 SH5=>?_;have s5:=sa.trans SH5;have hp5:=SH5 _ _ hpa;have nlr:lr≠lp:=Ne.symm (Zg hpa hlr);have hlrn:H lr=none:=sa.free hlr;refine⟨_,rfl,lp,kp,rfl,hp5,fun o=>?_⟩;have e6:upd H5 lp (.frz o (.dK kp)) lp=some (.frz o (.dK kp)):=Ze;have r6:upd H5 lp (.frz o (.dK kp)) lr=some (.dK []):=by rw[Zh nlr];exact e5
  have s6:Same H (upd H5 lp (.frz o (.dK kp))):=Z8 hlpn s5;generalize upd H5 lp (.frz o (.dK kp))=H6 at e6 r6 s6;have key:∀ (i:Nat) (k:Key) (v:V),kp[i]?=some (k,v)->∃ q:Nat,pl[i]?=some q/\k=inl (q:Int):=fun i k v e=>by
   have:=congrArg (·[i]?) kk;simp only[zs7,e,zua] at this;cases hq:pl[i]? with
   | none=>rw[hq] at this;cases this
   | some q=>rw[hq] at this;exact⟨q,rfl,Option.some.inj this⟩
  have hkpl:kp.length=pl.length:=by have:=congrArg List.length kk;rw[zs4,zs4] at this;exact this
  have rbound:∀ rl:List Int,rl.Nodup->(∀ n∈rl,n∈nu)->rl.length<=30:=fun rl n1 n2=>ztk (n1.length_le_of_subset n2) mo.crowd
  let jv7:Nat->L2.St->Hp->Prop:=fun i σ' H'=>∃ (v6 v7:Option V) (kr:List (Key×V)) (rl:List Int),σ'=[some (.ref l),some (.ref lg),some (.ref d),some (.ref lp),v4,some (.ref lr),v6,v7]/\Same H H'/\H' lp=some (.frz o (.dK kp))/\H' lr=some (.dK kr)/\kr.map (·.1)=rl.map (inl:Int->Key)/\rl.Nodup/\∀ n,n∈rl↔∃ p∈pl.take i,∃ r,rows[p]?=some r/\n∈r
  refine C2 (a:=lp) (o:=o) (kvs:=kp) jv7
   ⟨_,_,[],[],rfl,s6,e6,r6,rfl,zuy,by simp⟩ (by rintro i σ' H' _ ⟨_,_,_,_,_,_,z,_⟩;exact z) (fun i k v σ' Hc hk hP=>?_) (fun σ' Hc hP=>?_)
  ·obtain⟨v6,v7,kr,rl,rfl,sc,hpc,hrc,kkr,ndr,memr⟩:=hP;obtain⟨q,hq,rfl⟩:=key i k v hk;have hqm:=ztb hq;have hi:i<pl.length:=(zs6.mp hq).1;have etk:pl.take (i+1)=pl.take i++[q]:=by
    rw[ztp hi];rw[zs5 hi] at hq;rw[Option.some.inj hq]
   have hqr:rows[q]?=some (rows[q]'(hplt q hqm)):=zs5 (hplt q hqm);have hrm:rows[q]'(hplt q hqm)∈rows:=ztw _;generalize (rows[q]'(hplt q hqm))=r at hqr hrm;obtain⟨lq,e2',e3⟩:=il.getR hqr;have hl':(ls.map V.ref)[q]?=some (.ref lq):=by rw[zs7,e2'];rfl
   refine⟨_,rfl,_,rfl,l,_,_,_,rfl,rfl,SqL.of (sc _ _ hl),Zs hl',lq,rfl,⟨_,SqL.of (sc _ _ e3)⟩,?_⟩
   let jv8:Nat->L2.St->Hp->Prop:=fun j σ' H'=>∃ (v7:Option V) (kr:List (Key×V)) (rl:List Int),σ'=[some (.ref l),some (.ref lg),some (.ref d),some (.ref lp),v4,some (.ref lr),some (.int (q:Nat)),v7]/\Same H H'/\H' lp=some (.frz o (.dK kp))/\H' lr=some (.dK kr)/\kr.map (·.1)=rl.map (inl:Int->Key)/\rl.Nodup/\∀ n,n∈rl↔(∃ p∈pl.take i,∃ r,rows[p]?=some r/\n∈r)\/n∈r.take j
   refine Xi (K:=K) (a:=lq) (xs:=r.map V.int) jv8
    ⟨_,kr,rl,rfl,sc,hpc,hrc,kkr,ndr,fun n=>by rw[memr];simp⟩ (by rintro j σ' H' _ ⟨_,_,_,_,z,_⟩;exact SqL.of (z _ _ e3)) ?_ ?_
   ·rintro j y σ' Hd hy ⟨w7,kr,rl,rfl,sd,hpd,hrd,kkr,ndr,memr⟩;have hj:j<r.length:=by have:=(zs6.mp hy).1;rw[zs4] at this;exact this
    have hrj:r[j]?=some (r[j]'hj):=zs5 hj;have etj:r.take (j+1)=r.take j++[r[j]'hj]:=ztp hj;generalize (r[j]'hj)=n at hrj etj;have ey:y=.int n:=by rw[zs7,hrj] at hy;exact(Option.some.inj hy).symm
    subst ey;have hsub:∀ m∈rl,m∈nu:=fun m hm=>by
     rcases(memr m).mp hm with ⟨p,_,r',h1,h2⟩|h1
     ·exact(mo.sub r' (ztb h1)).2 m h2
     ·exact(mo.sub r hrm).2 m (List.mem_of_mem_take h1)
    have hkr:kr.length<=30:=by
     have:=congrArg List.length kkr;rw[zs4,zs4] at this;rw[this];exact rbound rl ndr hsub
    refine⟨_,rfl,_,rfl,lr,_,rfl,DPut.k (k:=inl n) hrd ⋯,_,putK kr (inl n) (.bl true),J8 rl n,rfl,Z8 hlrn sd,by rw[Zh (Ne.symm nlr)];exact hpd,Ze,J9 zjq kkr n _,Nh ndr,fun m=>?_⟩;rw[Ib,memr,etj,ztg,zs9,or_assoc]
   ·rintro σ' Hd ⟨w7,kr,rl,rfl,sd,hpd,hrd,kkr,ndr,memr⟩;rw[zs4,zto] at memr;refine⟨_,_,kr,rl,rfl,sd,hpd,hrd,kkr,ndr,fun n=>?_⟩;rw[memr,etk];constructor
    ·rintro(⟨p,h1,h2⟩|h1)
     ·exact⟨p,ztu _ h1,h2⟩
     ·exact⟨q,by simp,r,hqr,h1⟩
    ·rintro⟨p,h1,r',h2,h3⟩;rcases ztg.mp h1 with z|z
     ·exact .inl ⟨p,z,r',h2,h3⟩
     ·rw[zs9.mp z,hqr] at h2;cases h2;exact .inr h3
  ·obtain⟨v6,v7,kr,rl,rfl,sc,hpc,hrc,kkr,ndr,memr⟩:=hP;rw[hkpl,zto] at memr;have hsub:∀ m∈rl,m∈nu:=fun m hm=>by
    obtain⟨p,_,r',h1,h2⟩:=(memr m).mp hm;exact(mo.sub r' (ztb h1)).2 m h2
   have hrl30:=rbound rl ndr hsub;refine⟨_,rfl,lp,kp,pl.map (fun q:Nat=>(q:Int)),rfl,.inr ⟨o,hpc⟩,by rw[kk,zud];rfl,by rw[zs4];omega,fun l1 pi hl1 p1 p2=>?_⟩;refine al (upd _ l1 _) hl1 rfl fun H7 q7 s7=>?_;have hr7:=s7 _ _ hrc;have sc7:=sc.trans s7;refine⟨_,rfl,lr,kr,rl,rfl,.inl hr7,kkr,by omega,fun l2 rs hl2 p3 p4=>?_⟩;obtain⟨ps,rfl,SP⟩:=zeq FP NA nd mem ndr memr p1 p2 p3 p4;refine⟨sz2,fun t ht=>?_⟩;have s8:=Zo (o:=.lst (rs.map V.int)) hl2;have q8:upd H7 l2 (.lst (rs.map V.int)) l2=some (.lst (rs.map V.int)):=Ze;have q78:=s8 _ _ q7;generalize upd H7 l2 (.lst (rs.map V.int))=H8 at s8 q8 q78 ht;have s9:=Zo (o:=.tup [.ref l1,.ref l2]) ht;refine h t l1 l2 ps rs _ Ze (s9 _ _ (by rw[q78];unfold Yc;rw[zud];rfl)) (s9 _ _ q8) SP (sc7.trans (s8.trans s9)) ((sc7.trans s8).free ht) (sc.free hl1) (sc7.free hl2) (Zg q7 hl2)
abbrev Ux:Stmt:=Z0 (top 55) 0
theorem Mq:Zk ["self","listed","lists","given","gaps"] ["self","listed","lists","given","gaps"] (Zi Ux):=fnS
theorem Mr(F:Fun K "__init__" "Sheet.__init__" Ux f fd)(T:Tx K mg a):FnOk P w K mg base (CX1 P w) 1 f fd ["self","listed","lists","given","gaps"] (Mh (ca a)):=by
 refine F.okX Mq ⋯ fun _ _ _ _ H _ Q E hr h=>?_;obtain⟨q,dx,l1,l2,l3,l4,rfl,hq,h⟩:=h;refine⟨_,(Zb (Y6 (K:=K) rfl (pv 0) (pv 1) rfl)
 (Zb (Y6 (K:=K) rfl (pv 0) (pv 2) rfl)
 (Zb (Y6 (K:=K) rfl (pv 0) (pv 3) rfl)
 (Zd (Y6 (K:=K) rfl (pv 0) (pv 4) rfl))))),?_⟩
 refine⟨_,rfl,_,rfl,q,a.zlg,dx,[],rfl,hq,T.zln,T.znf,⋯,?_⟩;refine⟨_,rfl,_,rfl,q,a.zlg,dx,[("listed",.ref l1)],rfl,Ze,T.zln,T.zpq,(by show 1<1000;decide),?_⟩;rw[zkn];refine⟨_,rfl,_,rfl,q,a.zlg,dx,_,rfl,Ze,T.zln,T.zno,(by show 2<1000;decide),?_⟩;rw[zko];refine⟨_,rfl,_,rfl,q,a.zlg,dx,_,rfl,Ze,T.zln,T.zpu,(by show 3<1000;decide),?_⟩;rw[zkp];refine h _ ?_;rw[Jg,Jg,Jg];rfl
abbrev T8:Stmt:=Z0 (top 55) 1
theorem K6:Zk ["self","lists"] ["self","lists"] (Zi T8):=fnS
theorem K7(F:Fun K "barred" "Sheet.barred" T8 f fd)(T:Tx K mg a)(znt:Tq P w K mg base "Sheet" a.zlg 1 ["self","listed","lists","given","gaps"] (Mh (ca a))):FnOk P w K mg base (CX1 P w) 3 f fd ["self","lists"] (Bf (ca a)):=by
 refine F.okX K6 ⋯ fun _ _ _ _ H _ Q E hr h=>?_;obtain⟨ok,q,l2,ls,rows,s,rfl,SA,hl2,il,ok2,okl,no,h⟩:=h;refine⟨_,(Zd (Zl (Ex znt (hr.mono ⋯) Zj rfl (Za (Zr (K:=K) rfl (pv 0) rfl) (Za (pv 1) (Za (Zr (K:=K) rfl (pv 0) rfl) (Za (Zr (K:=K) rfl (pv 0) rfl) Zc))))))),?_⟩;obtain⟨dx,m1,m2,m3,m4,ts,ms,gts,a1,a2,a3,a4,a5,a6,a7,a8,o1,o2,o3,o4,o5,o6⟩:=id SA;refine⟨_,rfl,q,a.zlg,dx,_,_,rfl,a1,T.zln,T.znf,Rw,_,rfl,_,rfl,q,a.zlg,dx,_,_,rfl,a1,T.zln,T.zno,Rx,_,rfl,q,a.zlg,dx,_,_,rfl,a1,T.zln,T.zpu,Dd,?_⟩;intro q' dx' hq' hdx' ne;refine⟨q',dx',m1,l2,m3,m4,rfl,Ze,fun H' e=>⟨rfl,?_⟩⟩;obtain⟨s1,q1⟩:=Nk (C:=a.zlg) (l1:=m1) (l2:=l2) (l3:=m3) (l4:=m4) hq' hdx' ne;rw[<- e] at s1 q1;exact h q' H' ⟨dx',m1,l2,m3,m4,ts,ls,gts,q1,s1 _ _ a2,a3.same s1,s1 _ _ hl2,il.same s1,s1 _ _ a6,s1 _ _ a7,a8.keep (fun _ _ _ z=>s1 _ _ z) (fun _ _ z=>s1 _ _ z),no _ hq',o2,ok2,o4,o5,okl⟩ s1 hq'
abbrev Vs:Stmt:=Z0 (top 55) 2
theorem X1:Zk ["self","number","lists","place","gap","steps"] ["self","number","lists"] (Zi Vs):=fnS
theorem Oy(F:Fun K "fallen_out" "Sheet.fallen_out" Vs f fd)(T:Tx K mg a)(zmn:Zt P w K mg base a.zlg "where" 2 ["self","number"] (Lj (ca a)))(zm7:Z1 P w K mg base "stepped" 1 ["given","steps"] (Rt K))(zpc:Z1 P w K mg base "chain" 2 ["may","given","place"] (E6 K))(znt:Tq P w K mg base "Sheet" a.zlg 1 ["self","listed","lists","given","gaps"] (Mh (ca a))):FnOk P w K mg base (CX1 P w) 3 f fd ["self","number","lists"] (Bg (ca a)):=by
 refine F.okX X1 ⋯ fun _ _ _ _ H _ Q E hr h=>?_;obtain⟨ok,q,l2,ls,rows,nu,s,n,p,rfl,SA,hl2,il,ok2,okl,no,mo,ho,hgp,hun,FP,hgz,h⟩:=h;refine⟨_,(Zb (pS 3 X1.nd (Y1 (pv 0) T.zln zmn (hr.mono ⋯) Zj (Za (pv 1) Zc)))
 (Zb (pS 4 X1.nd (pF zm7 hr (Za (Zr (K:=K) rfl (pv 0) rfl) (Za (Yl (Za (Xg (Za (pv 3) (Za Y3 Zc))) Zc)) Zc))))
 (Zb (pS 5 X1.nd (pF zpc hr (Za (pv 2) (Za (pv 4) (Za (pv 3) Zc)))))
 (Zd (Zl (Ex znt (hr.mono ⋯) Zj rfl (Za (Zr (K:=K) rfl (pv 0) rfl) (Za (pv 2) (Za (pF zm7 hr (Za (pv 4) (Za (pv 5) Zc))) (Za (Zu Eu (Zr (K:=K) rfl (pv 0) rfl) (Yl (Za (Xg (Za (pv 1) (Za (pv 5) Zc))) Zc))) Zc)))))))))),?_⟩
 obtain⟨dx,m1,m2,m3,m4,ts,ms,gts,a1,a2,a3,a4,a5,a6,a7,a8,o1,o2,o3,o4,o5,o6⟩:=id SA;have hrl:rows.length<=100:=ztk mo.few ⋯;have hgl:s.gv.length<=100:=by have:=FP.len;rw[zu0] at this;omega
 have hpl:p<s.gv.length:=(zs6.mp hgp).1;have hpr:p<rows.length:=by have:=FP.len;rw[zu0] at this;omega
 have hplace:Wr s.gv n=some p:=by
  unfold Wr;rw[List.find?_eq_some_iff_getElem];refine⟨zta hgp,p,by rw[ztr];exact hpl,by rw[List.getElem_range],fun j hj=>?_⟩;rw[List.getElem_range,zvb,decide_eq_false_iff_not];exact fun z=>absurd (hun j z) ⋯
 refine⟨_,rfl,q,dx,_,rfl,a1,Us ⋯ ⋯ ⋯ ⋯,_,rfl,ok,q,s,n,rfl,SA,ho,hgl,fun H1 s1=>?_⟩;rw[hplace,show oN (some p)=V.int (p:Nat) from rfl];have SA1:=SA.same s1;refine⟨_,rfl,q,a.zlg,dx,_,_,rfl,s1 _ _ a1,T.zln,T.zno,Rx,_,rfl,sz2,fun t1 ht1=>⟨sz1,fun lx hlx=>?_⟩⟩;have s2:=Zo (o:=.tup [.int (p:Nat),.non]) ht1;have q2:upd H1 t1 (.tup [.int (p:Nat),.non]) t1=some (.tup (Wf (p,none))):=Ze;generalize upd H1 t1 (.tup [.int (p:Nat),.non])=H2 at s2 q2 hlx;refine al (upd _ lx _) hlx rfl fun H3 q3 s3=>?_;have q23:=s3 _ _ q2;have s13:=s1.trans (s2.trans s3);refine⟨m3,lx,s.gv,[V.ref t1],[(p,none)],rfl,s13 _ _ a6,q3,.cons q23 .nil,fun st hst=>by rw[zs9.mp hst];exact hpl,ho,hgl,by show 1<=100;decide,fun lg H4 hg4 s4 f4=>?_⟩;have s14:=s13.trans s4;have hg4:H4 lg=some (.lst (s.gv.set p .non)):=hg4;refine⟨_,rfl,_,rfl,_,rfl,l2,lg,ls,rows,nu,s.gv.set p .non,p,rfl,s14 _ _ hl2,il.same s14,mo,hg4,FP,hpr,by rw[zuh hpl],fun lt us st e w H5 hlt tl CR s5 f5=>?_⟩;have s15:=s14.trans s5;have hst100:st.length<=100:=ztk (CR.len FP hpr) hrl;refine⟨_,rfl,q,a.zlg,dx,_,_,rfl,s15 _ _ a1,T.zln,T.znf,Rw,_,rfl,_,rfl,_,rfl,lg,lt,s.gv.set p .non,us,st,rfl,s5 _ _ hg4,hlt,tl,fun x hx=>?_,FP.one,by rw[FP.len];exact hrl,hst100,fun l3 H6 h6 s6 f6=>?_⟩
 ·rw[FP.len];exact CR.ch.lt FP hpr x hx
 have s16:=s15.trans s6;refine⟨_,rfl,q,a.zlg,dx,_,_,rfl,s16 _ _ a1,T.zln,T.zpu,Dd,_,rfl,_,rfl,sz2,fun t2 ht2=>⟨sz1,fun ly hly=>?_⟩⟩;have s7:=Zo (o:=.tup [.int n,.ref lt]) ht2;have q7:upd H6 t2 (.tup [.int n,.ref lt]) t2=some (.tup [.int n,.ref lt]):=Ze;generalize upd H6 t2 (.tup [.int n,.ref lt])=H7 at s7 q7 hly;refine al (upd _ ly _) hly rfl fun H8 q8 s8=>?_;have q78:=s8 _ _ q7;have s18:=s16.trans (s7.trans s8);refine⟨m4,ly,gts,[V.ref t2],rfl,rfl,s18 _ _ a7,q8,by have:=a8.length;show gts.length+1<=sizeLine;have:=Rv;omega,fun l4 hl4=>?_⟩;refine al (upd _ l4 _) hl4 rfl fun H9 q9 s9=>?_;have s19:=s18.trans s9;intro q' dx' hq' hdx' ne;refine⟨q',dx',m1,l2,l3,l4,rfl,Ze,fun H' e'=>⟨rfl,?_⟩⟩;obtain⟨s10,q10⟩:=Nk (C:=a.zlg) (l1:=m1) (l2:=l2) (l3:=l3) (l4:=l4) hq' hdx' ne;rw[<- e'] at s10 q10;have s:=s19.trans s10;have s6x:=s7.trans (s8.trans (s9.trans s10));have s5x:=s6.trans s6x;refine h q' st e w H' ⟨dx',m1,l2,l3,l4,ts,ls,gts++[V.ref t2],q10,s _ _ a2,a3.same s,s _ _ hl2,il.same s,s6x _ _ h6,s10 _ _ q9,?_,no _ (s19.free hq'),o2,ok2,no _ (s15.free f6),no _ (s18.free hl4),okl⟩ CR s (s19.free hq');exact(a8.keep (fun _ _ _ z=>s _ _ z) (fun _ _ z=>s _ _ z)).snoc ((s9.trans s10) _ _ q78) (s5x _ _ hlt) (tl.same s5x) (no _ (s14.free f5))
abbrev Td:Stmt:=Z0 (top 55) 3
theorem Lz:Zk ["self"] ["self"] (Zi Td):=fnS
theorem L4(F:Fun K "matches" "Sheet.matches" Td f fd)(T:Tx K mg a):FnOk P w K mg base (CX1 P w) 1 f fd ["self"] (Kn (ca a)):=by
 refine F.okX Lz ⋯ fun _ _ _ _ H _ Q E hr h=>?_;obtain⟨ok,q,s,rfl,SA,h⟩:=h;refine⟨_,(Zd (Zl (Xo (Xv (K:=K) rfl) (by rfl) T.zmk PyProof.Rows.boot_list (Za (Zr (K:=K) rfl (pv 0) rfl) Zc)))),?_⟩;obtain⟨dx,m1,m2,m3,m4,ts,ms,gts,a1,a2,a3,a4,a5,a6,a7,a8,o1,o2,o3,o4,o5,o6⟩:=id SA;refine⟨_,rfl,q,a.zlg,dx,_,_,rfl,a1,T.zln,T.znf,Rw,m1,_,rfl,.inl (SqL.of a2),fun l hl=>?_⟩;exact h l ts _ Ze (a3.same (Zo hl)) (Zo hl) hl
abbrev Pz:Stmt:=Z0 (top 55) 5
theorem Dq:Zk ["self","place"] ["self","place"] (Zi Pz):=fnS
theorem Dr(F:Fun K "may" "Sheet.may" Pz f fd)(T:Tx K mg a)(zmv:Zt P w K mg base a.zlg "check_place" 1 ["self","place"] (F4 (ca a))):FnOk P w K mg base (CX1 P w) 2 f fd ["self","place"] (zbj (ca a)):=by
 refine F.okX Dq ⋯ fun _ _ _ _ H _ Q E hr h=>?_;obtain⟨ok,q,s,i,rfl,SA,si,hml,h1,h2⟩:=h;refine⟨_,(Zb (Z2 (Y1 (pv 0) T.zln zmv (hr.mono ⋯) Zj (Za (pv 1) Zc)))
 (Zd (Zl (Xo (Xv (K:=K) rfl) (by rfl) T.zmk PyProof.Rows.boot_list (Za (pI (iL K) (Zr (K:=K) rfl (pv 0) rfl) (pv 1)) Zc))))),?_⟩
 obtain⟨dx,m1,m2,m3,m4,ts,ms,gts,a1,a2,a3,a4,a5,a6,a7,a8,o1,o2,o3,o4,o5,o6⟩:=id SA;refine⟨_,rfl,q,dx,_,rfl,a1,Us ⋯ ⋯ ⋯ ⋯,_,rfl,ok,q,s,i,rfl,SA,si,?_⟩;refine Ew (fun hc=>h1 hc) (fun hc=>?_);obtain⟨k,rfl⟩:∃ k:Nat,i=k:=⟨i.toNat,by omega⟩;have hk:k<s.may.length:=by omega
 have hr':s.may[k]?=some (s.may[k]'hk):=zs5 hk;obtain⟨lr,e2,e3⟩:=a5.getR hr';have hl':(ms.map V.ref)[k]?=some (.ref lr):=by rw[zs7,e2];rfl
 exact⟨_,rfl,q,a.zlg,dx,_,_,rfl,a1,T.zln,T.zpq,Be,_,rfl,m2,_,_,_,rfl,rfl,SqL.of a4,Zs hl',lr,_,rfl,.inl (SqL.of e3),fun l hl=>h2 k _ rfl hr' l _ Ze (Zo hl) hl⟩
abbrev Vc:Stmt:=Z0 (top 55) 6
theorem P4:Zk ["self","place"] ["self","place"] (Zi Vc):=fnS
theorem P6(F:Fun K "check_place" "Sheet.check_place" Vc f fd)(T:Tx K mg a):FnOk P w K mg base (CX1 P w) 1 f fd ["self","place"] (F4 (ca a)):=by
 refine F.okX P4 ⋯ fun _ _ _ _ H _ Q E hr h=>?_;obtain⟨ok,q,s,i,rfl,SA,si,h⟩:=h;refine⟨_,(Zd (Zx (PW.pt (We (Zp Kd (pv 1) Zf (Zq _)) (Xn (Zp zan (pv 1) (Zm (cL K) (by rfl) T.zlq PySem.boot_len (Za (Zr (K:=K) rfl (pv 0) rfl) Zc)) (Zq _)))))
  (Zd (Xe Xd rfl T.zqe rfl (Za (Vk (Zy (Xu ⋯) (Zy (Vb (pv 1)) Vj)) ⋯) Zc)))
  Zn)),?_⟩
 obtain⟨dx,m1,m2,m3,m4,ts,ms,gts,a1,a2,a3,a4,a5,a6,a7,a8,o1,o2,o3,o4,o5,o6⟩:=id SA;have hts:ts.length=s.ms.length:=by rw[a3.length,zs4]
 refine⟨_,rfl,_,_,rfl,rfl,_,rfl,?_⟩;refine itD (fun hc=>?_) (fun hc=>?_)
 ·rw[if_pos (.inl hc)] at h;refine iteT ?_;exact⟨_,rfl,.inl ⟨_,rfl,si⟩,fun z=>⟨sz1,h⟩⟩
 refine⟨_,rfl,_,rfl,q,a.zlg,dx,_,_,rfl,a1,T.zln,T.znf,Rw,m1,_,rfl,.inl (SqL.of a2),_,_,rfl,rfl,_,rfl,?_⟩;rw[hts];refine itD (fun hc2=>?_) (fun hc2=>?_)
 ·rw[if_pos (.inr hc2)] at h;exact⟨_,rfl,.inl ⟨_,rfl,si⟩,fun z=>⟨sz1,h⟩⟩
 ·rw[if_neg (fun z=>z.elim hc hc2)] at h;exact h
abbrev Qq:Stmt:=Z0 (top 55) 7
theorem Gz:Zk ["self"] ["self"] (Zi Qq):=fnS
theorem G1(F:Fun K "goes" "Sheet.goes" Qq f fd)(T:Tx K mg a):FnOk P w K mg base (CX1 P w) 1 f fd ["self"] (Ii (ca a)):=by
 refine F.okX Gz ⋯ fun _ _ _ _ H _ Q E hr h=>?_;obtain⟨ok,q,s,rfl,SA,h⟩:=h;refine⟨_,(Zd (Zl (Xo (Xv (K:=K) rfl) (by rfl) T.zmk PyProof.Rows.boot_list (Za (Zr (K:=K) rfl (pv 0) rfl) Zc)))),?_⟩;obtain⟨dx,m1,m2,m3,m4,ts,ms,gts,a1,a2,a3,a4,a5,a6,a7,a8,o1,o2,o3,o4,o5,o6⟩:=id SA;refine⟨_,rfl,q,a.zlg,dx,_,_,rfl,a1,T.zln,T.zno,Rx,m3,_,rfl,.inl (SqL.of a6),fun l hl=>?_⟩;exact h l _ Ze (Zo hl) hl
abbrev Ra:Stmt:=Z0 (top 55) 8
theorem Hh:Zk ["self","number"] ["self","number"] (Zi Ra):=fnS
theorem Hi(F:Fun K "where" "Sheet.where" Ra f fd)(T:Tx K mg a)(zpl:Z1 P w K mg base "place_of" 1 ["given","number"] (Ft K)):FnOk P w K mg base (CX1 P w) 2 f fd ["self","number"] (Lj (ca a)):=by
 refine F.okX Hh ⋯ fun _ _ _ _ H _ Q E hr h=>?_;obtain⟨ok,q,s,n,rfl,SA,ho,hgl,h⟩:=h;refine⟨_,(Zd (Zl (pF zpl hr (Za (Zr (K:=K) rfl (pv 0) rfl) (Za (pv 1) Zc))))),?_⟩;obtain⟨dx,m1,m2,m3,m4,ts,ms,gts,a1,a2,a3,a4,a5,a6,a7,a8,o1,o2,o3,o4,o5,o6⟩:=id SA;exact⟨_,rfl,q,a.zlg,dx,_,_,rfl,a1,T.zln,T.zno,Rx,_,rfl,m3,s.gv,n,rfl,a6,ho,hgl,fun H' s'=>h H' s'⟩
abbrev P8:Stmt:=Z0 (top 55) 10
theorem Du:Zk ["self"] ["self"] (Zi P8):=fnS
theorem Dv(F:Fun K "why" "Sheet.why" P8 f fd)(T:Tx K mg a)(zph:Z1 P w K mg base "shortage" 2 ["may","given"] (zbe K)):FnOk P w K mg base (CX1 P w) 3 f fd ["self"] (zbi (ca a)):=by
 refine F.okX Du ⋯ fun _ _ _ _ H _ Q E hr h=>?_;obtain⟨ok,q,s,nu,rfl,SA,mo,FP,NA,h⟩:=h;refine⟨_,(Zd (Zl (pF zph hr (Za (Zr (K:=K) rfl (pv 0) rfl) (Za (Zr (K:=K) rfl (pv 0) rfl) Zc))))),?_⟩;obtain⟨dx,m1,m2,m3,m4,ts,ms,gts,a1,a2,a3,a4,a5,a6,a7,a8,o1,o2,o3,o4,o5,o6⟩:=id SA;exact⟨_,rfl,q,a.zlg,dx,_,_,rfl,a1,T.zln,T.zpq,Be,_,rfl,q,a.zlg,dx,_,_,rfl,a1,T.zln,T.zno,Rx,m2,m3,ms,s.may,nu,s.gv,rfl,a4,a5,mo,a6,FP,NA,fun t lp lr ps rs H'=>h t lp lr ps rs H'⟩
abbrev T9:Stmt:=Z0 (top 55) 11
theorem K8:Zk ["self"] ["self"] (Zi T9):=fnS
theorem K9(F:Fun K "chains" "Sheet.chains" T9 f fd)(T:Tx K mg a):FnOk P w K mg base (CX1 P w) 1 f fd ["self"] (Nl (ca a)):=by
 refine F.okX K8 ⋯ fun _ _ _ _ H _ Q E hr h=>?_;obtain⟨ok,q,s,rfl,SA,hgz,h⟩:=h;refine⟨_,(Zd (Zl (J7 rfl (Md.mk (xo:=["number","steps"]) (ys:=[]) (js:=[]) rfl rfl ⋯ ⋯ rfl (by repeat' (first|exact True.intro|apply And.intro|rfl)) (by repeat' (first|exact True.intro|apply And.intro|rfl)) ⋯) (Z4 (K:=K) rfl (Zr (K:=K) rfl (pv 0) rfl)) (fun _ _ _ _ _=>W8) (fun _ _ _ _ _=>(V2 (K:=K) (n:=2) rfl rfl (Z6 (U2 (i:=0) (show List.Nodup [("number":Str),("steps":Str)] by decide +kernel) rfl (by first|exact Or.inl rfl|exact Or.inr rfl)) (Z6 (U2 (i:=1) (show List.Nodup [("number":Str),("steps":Str)] by decide +kernel) rfl (by first|exact Or.inl rfl|exact Or.inr rfl)) V0)))) (fun _ _ _ _ _=>(Xg (Za (pv 0) (Za (Xo (Xv (K:=K) rfl) (by rfl) T.zmk PyProof.Rows.boot_list (Za (pv 1) Zc)) Zc))))))),?_⟩;obtain⟨dx,m1,m2,m3,m4,ts,ms,gts,a1,a2,a3,a4,a5,a6,a7,a8,o1,o2,o3,o4,o5,o6⟩:=id SA;have hgts:=a8.length;refine⟨_,rfl,q,a.zlg,dx,_,_,rfl,a1,T.zln,T.zpu,Dd,m4,rfl,⟨_,SqL.of a7⟩,?_⟩;refine A7 (K:=K) (xs:=gts) (fun i ys H'=>Same H H'/\Wg (fun x=>H x=none) H' ys (s.gaps.take i)/\ys.length=i) ⟨Same.refl _,.nil,rfl⟩ (fun i ys H' _ ⟨s',_⟩=>SqL.of (s' _ _ a7)) (szN ⋯) (fun i ys H' ⟨_,_,e⟩=>by omega) ?_ ?_
 ·rintro i x ys H' hx ⟨s1,gl,hyl⟩;obtain⟨t,l,n,us,st,rfl,hgi,ht,hl,tl,_⟩:=a8.get hx;have ht1:=s1 _ _ ht;have hl1:=s1 _ _ hl;refine⟨t,_,rfl,SqT.of ht1,rfl,_,_,rfl,_,_,rfl,rfl,⟨[some (.int n),some (.ref l)],rfl,rfl⟩,?_⟩;unfold tYes;dsimp only;rw[if_pos rfl];refine⟨_,rfl,_,rfl,l,_,rfl,.inl (SqL.of hl1),fun l2 hl2=>?_⟩;refine al (upd _ l2 _) hl2 rfl fun H2 q2 s2=>?_;have f2:H l2=none:=s1.free hl2;refine⟨sz2,fun t2 ht2=>?_⟩;have s3:=Zo (o:=.tup [.int n,.ref l2]) ht2;have s23:=s2.trans s3;refine⟨s1.trans s23,?_,by rw[zs8,hyl];rfl⟩;have e:s.gaps.take (i+1)=s.gaps.take i++[(n,st)]:=by rw[zuf,hgi];rfl
  rw[e];exact(gl.keep (fun _ _ _ z=>s23 _ _ z) (fun _ _ z=>s23 _ _ z)).snoc Ze (s3 _ _ q2) (tl.same (s1.trans s23)) f2
 ·rintro ys H' ⟨s1,gl,hyl⟩ l hl;rw[hgts,zto] at gl;refine h l ys _ Ze ?_ (s1.trans (Zo hl)) (s1.free hl);exact(gl.imp (ok':=fun x=>H x=none/\x≠l) fun x ⟨o,e⟩ z=>⟨z,Zg e hl⟩).keep (fun _ _ _ z=>Zo hl _ _ z) (fun _ _ z=>Zo hl _ _ z)
abbrev Qr:Stmt:=Z0 (top 55) 12
theorem G2:Zk ["self"] ["self"] (Zi Qr):=fnS
theorem G3(F:Fun K "rows" "Sheet.rows" Qr f fd)(T:Tx K mg a):FnOk P w K mg base (CX1 P w) 1 f fd ["self"] (Bh (ca a)):=by
 refine F.okX G2 ⋯ fun _ _ _ _ H _ Q E hr h=>?_;obtain⟨ok,q,s,rfl,SA,ho,hgl,hml,h⟩:=h;refine⟨_,(Zd (Zl (J7 rfl (Md.mk (xo:=["match","number"]) (ys:=[]) (js:=[]) rfl rfl ⋯ ⋯ rfl (by repeat' (first|exact True.intro|apply And.intro|rfl)) (by repeat' (first|exact True.intro|apply And.intro|rfl)) ⋯) (zhz (K:=K) rfl rfl T.zqx (Za (Zr (K:=K) rfl (pv 0) rfl) (Za (Zr (K:=K) rfl (pv 0) rfl) Zc))) (fun _ _ _ _ _=>W8) (fun _ _ _ _ _=>(V2 (K:=K) (n:=2) rfl rfl (Z6 (U2 (i:=0) (show List.Nodup [("match":Str),("number":Str)] by decide +kernel) rfl (by first|exact Or.inl rfl|exact Or.inr rfl)) (Z6 (U2 (i:=1) (show List.Nodup [("match":Str),("number":Str)] by decide +kernel) rfl (by first|exact Or.inl rfl|exact Or.inr rfl)) V0)))) (fun _ _ _ _ _=>(Zu (Bc (K:=K) rfl) (pv 0) (Xg (Za (pv 1) Zc))))))),?_⟩;obtain⟨dx,m1,m2,m3,m4,ts,ms,gts,a1,a2,a3,a4,a5,a6,a7,a8,o1,o2,o3,o4,o5,o6⟩:=id SA;have hts:ts.length=s.ms.length:=by rw[a3.length,zs4]
 refine⟨_,rfl,q,a.zlg,dx,_,_,rfl,a1,T.zln,T.znf,Rw,_,rfl,q,a.zlg,dx,_,_,rfl,a1,T.zln,T.zno,Rx,m1,m3,rfl,⟨_,SqL.of a2⟩,⟨_,SqL.of a6⟩,?_⟩;refine zcu (K:=K) (xs:=ts) (zs:=s.gv) (fun i ys H'=>Same H H'/\TupL H' ys (((Xz s).take i).map E2)/\ys.length=i) ⟨Same.refl _,.nil,rfl⟩ ⋯ (fun i ys H' _ ⟨s',_⟩=>⟨SqL.of (s' _ _ a2),SqL.of (s' _ _ a6)⟩) (szN ⋯) (fun i ys H' ⟨_,_,e⟩=>by omega) ?_ ?_
 ·rintro i x z t ys H' hx hz ⟨s1,tl,hyl⟩ ht;obtain⟨tm,m,rfl,hm,htm⟩:=zd9 a3 hx;have oz:=ho z (ztb hz);refine al (upd _ t _) ht rfl fun H2 q2 SH2=>?_;have s2:=s1.trans SH2;have tl2:=tl.same SH2;refine⟨t,_,rfl,SqT.of q2,rfl,_,_,rfl,_,_,rfl,rfl,⟨[some (.ref tm),some z],rfl,rfl⟩,?_⟩;unfold tYes;dsimp only;rw[if_pos rfl];refine⟨_,rfl,_,rfl,sz1,fun t1 ht1=>?_⟩;refine al (upd _ t1 _) ht1 rfl fun H3 q3 s3=>?_;refine⟨tm,t1,_,_,rfl,rfl,SqT.of ((s2.trans s3) _ _ htm),SqT.of q3,by unfold pV;simp,by show 3+1<=sizeLine;exact sz4,fun z=>absurd z (by simp),fun _ t2 ht2=>?_⟩;have s4:=Zo (o:=.tup (pV m++[z])) ht2;refine⟨s2.trans (s3.trans s4),?_,by rw[zs8,hyl];rfl⟩;rw[zcv hm hz,zti];refine((tl2.same s3).same s4).snoc ?_;rw[Ze,zh5 m oz];rfl
 ·rintro ys H' ⟨s1,tl,hyl⟩ l hl;rw[hts,<- Bi hgl,zto] at tl;exact h l ys _ Ze (tl.same (Zo hl)) (s1.trans (Zo hl)) (s1.free hl)
abbrev Rb:Stmt:=top 56
theorem Hj:Zk ["listed","lists"] ["listed","lists"] (Zi Rb):=fnS
theorem Hk(F:Fun K "drawn_sheet" "drawn_sheet" Rb f fd)(T:Tx K mg a)(znt:Tq P w K mg base "Sheet" a.zlg 1 ["self","listed","lists","given","gaps"] (Mh (ca a)))(zqu:Z1 P w K mg base "fill" 3 ["may"] (zed K)):FnOk P w K mg base (CX1 P w) 4 f fd ["listed","lists"] (zbh (ca a)):=by
 refine F.okX Hj ⋯ fun _ _ _ _ H _ Q E hr h=>?_;obtain⟨ok,l1,l2,ts,ls,ms,rows,nu,rfl,hl1,tl,hl2,il,ok1,ok2,okl,no,mo,h⟩:=h;refine⟨_,(Zd (Zl (Ex znt (hr.mono ⋯) Zj rfl (Za (pv 0) (Za (pv 1) (Za (pF zqu hr (Za (pv 1) Zc)) (Za (Yl Zc) Zc))))))),?_⟩;refine⟨_,rfl,_,rfl,_,rfl,l2,ls,rows,nu,rfl,hl2,il,mo,fun l3 gv H1 h3 FP SP s1 f3=>?_⟩;refine⟨by show 0<=sizeLine;decide,fun l4 hl4=>?_⟩;refine al (upd _ l4 _) hl4 rfl fun H2 q2 s2=>?_;have s12:=s1.trans s2;intro q dx hq hdx ne;refine⟨q,dx,l1,l2,l3,l4,rfl,Ze,fun H' e=>⟨rfl,?_⟩⟩;obtain⟨s3,q3⟩:=Nk (C:=a.zlg) (l1:=l1) (l2:=l2) (l3:=l3) (l4:=l4) hq hdx ne;rw[<- e] at s3 q3;have s:=s12.trans s3;exact h q gv H' ⟨dx,l1,l2,l3,l4,ts,ls,[],q3,s _ _ hl1,tl.same s,s _ _ hl2,il.same s,s3 _ _ (s2 _ _ h3),s3 _ _ q2,.nil,no _ (s12.free hq),ok1,ok2,no _ f3,no _ (s1.free hl4),okl⟩ FP SP s (s12.free hq)
abbrev Ud:Stmt:=Z0 (top 58) 0
theorem Nw:Zk ["self","rounds","rest"] ["self","rounds","rest"] (Zi Ud):=fnS
theorem Ny(F:Fun K "__init__" "Season.__init__" Ud f fd)(T:Tx K mg a)(zlo:Z1 P w K mg base "check_range" 1 ["value","least","most"] (Mg a.zl1))(zp8:Tq P w K mg base "Roster" a.zlj 1 ["self"] (zbf (ca a)))(zqa:Tq P w K mg base "Ledger" a.zli 1 ["self"] (za4 a.zli)):FnOk P w K mg base (CX1 P w) 3 f fd ["self","rounds","rest"] (zbk (ca a)):=by
 refine F.okX Nw ⋯ fun _ _ _ _ H _ Q E hr h=>?_;obtain⟨p,dx,r,q,rfl,hp,sr,sq,h⟩:=h;refine⟨_,(Zb (Z2 (pF zlo hr (Za (pv 1) (Za Zf (Za (Wo rfl T.zok) Zc)))))
 (Zb (Z2 (pF zlo hr (Za (pv 2) (Za Zf (Za (Wo rfl T.zo3) Zc)))))
 (Zb (Y6 (K:=K) rfl (pv 0) (pv 1) rfl)
 (Zb (Y6 (K:=K) rfl (pv 0) (pv 2) rfl)
 (Zb (Y6 (K:=K) rfl (pv 0) (za0 zp8 (hr.mono ⋯) Zj rfl) rfl)
 (Zb (Y6 (K:=K) rfl (pv 0) (za0 zqa (hr.mono ⋯) Zj rfl) rfl)
 (Zb (Y6 (K:=K) rfl (pv 0) Cm rfl)
 (Zb (Y6 (K:=K) rfl (pv 0) (Yl Zc) rfl)
 (Zb (Y6 (K:=K) rfl (pv 0) Y3 rfl)
 (Zd (Y6 (K:=K) rfl (pv 0) (Yl Zc) rfl))))))))))),?_⟩
 show let y1:TS:=_;let y2:TS:=Zw _ y1;let y3:TS:=Zw _ y2;let y4:TS:=Zw _ y3;let y5:TS:=Zw _ y4;let y6:TS:=Zw _ y5;let y7:TS:=Zw _ y6;let y8:TS:=Zw _ y7;let y9:TS:=Zw _ y8;Zw _ y9 _ _ _;intro y1 y2 y3 y4 y5 y6 y7 y8 y9;refine⟨_,rfl,r,0,60,rfl,sr,Yg ⋯,Yg ⋯,?_⟩;refine it2 h (fun _ z=>z) fun h1 h=>?_;refine⟨_,rfl,q,0,10,rfl,sq,Yg ⋯,Yg ⋯,?_⟩;refine it2 h (fun _ z=>z) fun h2 hF=>?_;have er:r=((r.toNat:Nat):Int):=by omega
 have eq':q=((q.toNat:Nat):Int):=by omega
 generalize r.toNat=rn at hF er;generalize q.toNat=qn at hF eq';subst er eq';refine⟨_,rfl,_,rfl,p,a.zle,dx,_,rfl,hp,T.zlf,T.zo7,(by show 0<1000;decide),?_⟩;rw[pF1];refine⟨_,rfl,_,rfl,p,a.zle,dx,_,rfl,Ze,T.zlf,T.zqn,(by show 1<1000;decide),?_⟩;rw[pF2,Jg];have b1:V7 p H (upd H p (.ins a.zle dx (sF2 (.int rn) (.int qn)))):=.put;have q1:upd H p (.ins a.zle dx (sF2 (.int rn) (.int qn))) p=some (.ins a.zle dx (sF2 (.int rn) (.int qn))):=Ze;generalize upd H p (.ins a.zle dx (sF2 (.int rn) (.int qn)))=H1 at b1 q1;intro pr dxr hpr hdxr ne;refine⟨pr,dxr,rfl,Ze,fun dr hdr=>⟨rfl,?_⟩⟩;have ndp:dr≠pr:=fun z=>by rw[z,Ze] at hdr;cases hdr
 have ndx:dr≠dxr:=fun z=>by rw[z,Zh ne,Ze] at hdr;cases hdr
 have hdr1:H1 dr=none:=by rw[Zh ndp,Zh ndx] at hdr;exact hdr
 have s2:Same H1 (upd (upd (upd (upd H1 dxr (.own pr)) pr (.ins a.zlj dxr [])) dr (.dK [])) pr (.ins a.zlj dxr [("entries",.ref dr)])):=fun b o e=>by
  rw[Zh (Zg e hpr),Zh (Zg e hdr1),Zh (Zg e hpr),Zh (Zg e hdxr)];exact e
 have R2:Xj a.zlj (upd (upd (upd (upd H1 dxr (.own pr)) pr (.ins a.zlj dxr [])) dr (.dK [])) pr (.ins a.zlj dxr [("entries",.ref dr)])) pr dr []:=⟨⟨dxr,[],Ze,by rw[Zh ndp,Ze],.nil⟩,zuy⟩;generalize upd (upd (upd (upd H1 dxr (.own pr)) pr (.ins a.zlj dxr [])) dr (.dK [])) pr (.ins a.zlj dxr [("entries",.ref dr)])=H2 at s2 R2;refine⟨_,rfl,p,a.zle,dx,_,rfl,s2 _ _ q1,T.zlf,T.zmx,(by show 2<1000;decide),?_⟩;rw[pF3];have np2:pr≠p/\dr≠p:=⟨Ne.symm (Zg q1 hpr),Ne.symm (Zg q1 hdr1)⟩;have b3:V7 p H (upd H2 p (.ins a.zle dx (sF3 (.int rn) (.int qn) (.ref pr)))):=b1.trans ((V7.of s2).trans .put);have q3:upd H2 p (.ins a.zle dx (sF3 (.int rn) (.int qn) (.ref pr))) p=some (.ins a.zle dx (sF3 (.int rn) (.int qn) (.ref pr))):=Ze;have kt3:∀ t xs,H2 t=some (.tup xs)->upd H2 p (.ins a.zle dx (sF3 (.int rn) (.int qn) (.ref pr))) t=some (.tup xs):=fun t xs e=>by rw[Zh (Xm e (s2 _ _ q1) (fun z=>nomatch z))];exact e
 have R3:=R2.keep (H':=upd H2 p (.ins a.zle dx (sF3 (.int rn) (.int qn) (.ref pr)))) (fun o e=>by rw[Zh np2.1];exact e) (fun o e=>by rw[Zh np2.2];exact e) kt3;have fdr:H dr=none:=V7.free b1 ⟨_,q1⟩ hdr1;have hr2:H2 dr=some (.dK [])/\∃ o,H2 pr=some o:=by
  obtain⟨⟨x,kv,z1,z2,z3⟩,_⟩:=R2;cases z3;exact⟨z2,_,z1⟩
 generalize upd H2 p (.ins a.zle dx (sF3 (.int rn) (.int qn) (.ref pr)))=H3 at b3 q3 R3;intro pl dxl hpl hdxl nel;refine⟨pl,dxl,rfl,Ze,fun lr ld H4 L0 k0 f0 g0 n0=>⟨rfl,?_⟩⟩;obtain⟨s4,fr0,fd0⟩:=zd5 hpl hdxl nel k0 f0 g0;refine⟨_,rfl,p,a.zle,dx,_,rfl,s4 _ _ q3,T.zlf,T.zm3,(by show 3<1000;decide),?_⟩;rw[pF4];have q4:=s4 _ _ q3;have np4:pl≠p/\lr≠p/\ld≠p:=⟨Ne.symm (Zg q3 hpl),Ne.symm (Zg q3 fr0),Ne.symm (Zg q3 fd0)⟩;have b5:V7 p H (upd H4 p (.ins a.zle dx (sF4 (.int rn) (.int qn) (.ref pr) (.ref pl)))):=b3.trans ((V7.of s4).trans .put);have q5:upd H4 p (.ins a.zle dx (sF4 (.int rn) (.int qn) (.ref pr) (.ref pl))) p=some (.ins a.zle dx (sF4 (.int rn) (.int qn) (.ref pr) (.ref pl))):=Ze;have kt5:∀ t xs,H4 t=some (.tup xs)->upd H4 p (.ins a.zle dx (sF4 (.int rn) (.int qn) (.ref pr) (.ref pl))) t=some (.tup xs):=fun t xs e=>by rw[Zh (Xm e q4 (fun z=>nomatch z))];exact e
 have R5:=(R3.same s4).keep (H':=upd H4 p (.ins a.zle dx (sF4 (.int rn) (.int qn) (.ref pr) (.ref pl)))) (fun o e=>by rw[Zh np2.1];exact e) (fun o e=>by rw[Zh np2.2];exact e) kt5;have L5:=L0.keep (H':=upd H4 p (.ins a.zle dx (sF4 (.int rn) (.int qn) (.ref pr) (.ref pl)))) (fun o e=>by rw[Zh np4.1];exact e) (fun o e=>by rw[Zh np4.2.1];exact e) (fun o e=>by rw[Zh np4.2.2];exact e) kt5;have flr:H lr=none:=V7.free b3 ⟨_,q3⟩ fr0;have fld:H ld=none:=V7.free b3 ⟨_,q3⟩ fd0;have nrp:pr≠pl/\dr≠pl/\pr≠lr/\dr≠lr/\pr≠ld/\dr≠ld:=by
  obtain⟨⟨x,kv,z1,z2,_⟩,_⟩:=R3;exact⟨Zg z1 hpl,Zg z2 hpl,Zg z1 fr0,Zg z2 fr0,Zg z1 fd0,Zg z2 fd0⟩
 generalize upd H4 p (.ins a.zle dx (sF4 (.int rn) (.int qn) (.ref pr) (.ref pl)))=H5 at b5 q5 R5 L5;intro da hda;have npa:da≠p:=Ne.symm (Zg q5 hda);refine⟨_,rfl,p,a.zle,dx,_,rfl,Zo (o:=.dT []) hda _ _ q5,T.zlf,T.zn4,(by show 4<1000;decide),?_⟩;rw[pF5];have b7:V7 p H5 (upd (upd H5 da (.dT [])) p (.ins a.zle dx (sF5 (.int rn) (.int qn) (.ref pr) (.ref pl) (.ref da)))):=(V7.of (Zo hda)).trans .put;have q7:upd (upd H5 da (.dT [])) p (.ins a.zle dx (sF5 (.int rn) (.int qn) (.ref pr) (.ref pl) (.ref da))) p=some (.ins a.zle dx (sF5 (.int rn) (.int qn) (.ref pr) (.ref pl) (.ref da))):=Ze;have d7:upd (upd H5 da (.dT [])) p (.ins a.zle dx (sF5 (.int rn) (.int qn) (.ref pr) (.ref pl) (.ref da))) da=some (.dT []):=by rw[Zh npa,Ze]
 generalize upd (upd H5 da (.dT [])) p (.ins a.zle dx (sF5 (.int rn) (.int qn) (.ref pr) (.ref pl) (.ref da)))=H7 at b7 q7 d7;refine⟨by show 0<=sizeLine;decide,fun ls hls=>?_⟩;have nps:ls≠p:=Ne.symm (Zg q7 hls);refine⟨_,rfl,p,a.zle,dx,_,rfl,Zo (o:=.lst []) hls _ _ q7,T.zlf,T.zoz,(by show 5<1000;decide),?_⟩;rw[pF6];have b9:V7 p H7 (upd (upd H7 ls (.lst [])) p (.ins a.zle dx (sF6 (.int rn) (.int qn) (.ref pr) (.ref pl) (.ref da) (.ref ls)))):=(V7.of (Zo hls)).trans .put;have q9:upd (upd H7 ls (.lst [])) p (.ins a.zle dx (sF6 (.int rn) (.int qn) (.ref pr) (.ref pl) (.ref da) (.ref ls))) p=some (.ins a.zle dx (sF6 (.int rn) (.int qn) (.ref pr) (.ref pl) (.ref da) (.ref ls))):=Ze;have l9:upd (upd H7 ls (.lst [])) p (.ins a.zle dx (sF6 (.int rn) (.int qn) (.ref pr) (.ref pl) (.ref da) (.ref ls))) ls=some (.lst []):=by rw[Zh nps,Ze]
 generalize upd (upd H7 ls (.lst [])) p (.ins a.zle dx (sF6 (.int rn) (.int qn) (.ref pr) (.ref pl) (.ref da) (.ref ls)))=H9 at b9 q9 l9;refine⟨_,rfl,p,a.zle,dx,_,rfl,q9,T.zlf,T.zma,(by show 6<1000;decide),?_⟩;rw[pF7];have b10:V7 p H9 (upd H9 p (.ins a.zle dx (sF7 (.int rn) (.int qn) (.ref pr) (.ref pl) (.ref da) (.ref ls) .non))):=.put;have q10:upd H9 p (.ins a.zle dx (sF7 (.int rn) (.int qn) (.ref pr) (.ref pl) (.ref da) (.ref ls) .non)) p=some (.ins a.zle dx (sF7 (.int rn) (.int qn) (.ref pr) (.ref pl) (.ref da) (.ref ls) .non)):=Ze;generalize upd H9 p (.ins a.zle dx (sF7 (.int rn) (.int qn) (.ref pr) (.ref pl) (.ref da) (.ref ls) .non))=H10 at b10 q10;refine⟨by show 0<=sizeLine;decide,fun lt hlt=>?_⟩;have npt:lt≠p:=Ne.symm (Zg q10 hlt);refine⟨_,rfl,p,a.zle,dx,_,rfl,Zo (o:=.lst []) hlt _ _ q10,T.zlf,T.zmq,(by show 7<1000;decide),?_⟩;rw[pF8];have b12:V7 p H10 (upd (upd H10 lt (.lst [])) p (.ins a.zle dx (sF8 (.int rn) (.int qn) (.ref pr) (.ref pl) (.ref da) (.ref ls) .non (.ref lt)))):=(V7.of (Zo hlt)).trans .put;have q12:upd (upd H10 lt (.lst [])) p (.ins a.zle dx (sF8 (.int rn) (.int qn) (.ref pr) (.ref pl) (.ref da) (.ref ls) .non (.ref lt))) p=some (.ins a.zle dx (sF8 (.int rn) (.int qn) (.ref pr) (.ref pl) (.ref da) (.ref ls) .non (.ref lt))):=Ze;have l12:upd (upd H10 lt (.lst [])) p (.ins a.zle dx (sF8 (.int rn) (.int qn) (.ref pr) (.ref pl) (.ref da) (.ref ls) .non (.ref lt))) lt=some (.lst []):=by rw[Zh npt,Ze]
 generalize upd (upd H10 lt (.lst [])) p (.ins a.zle dx (sF8 (.int rn) (.int qn) (.ref pr) (.ref pl) (.ref da) (.ref ls) .non (.ref lt)))=H12 at b12 q12 l12;have b912:=b10.trans b12;have b712:=b9.trans b912;have b512:=b7.trans b712;have bb:=b5.trans b512;have kt:∀ t xs,H5 t=some (.tup xs)->H12 t=some (.tup xs):=fun t xs e=>b512 t _ e (Xm e q5 (fun z=>nomatch z));have R12:=R5.keep (fun o e=>b512 _ o e np2.1) (fun o e=>b512 _ o e np2.2) kt;have L12:=L5.keep (fun o e=>b512 _ o e np4.1) (fun o e=>b512 _ o e np4.2.1) (fun o e=>b512 _ o e np4.2.2) kt;have d12:=b712 _ _ d7 npa;have l912:=b912 _ _ l9 nps;have fda:H da=none:=V7.free b5 ⟨_,q5⟩ hda;have fls:H ls=none:=V7.free (b5.trans b7) ⟨_,q7⟩ hls;have flt:H lt=none:=V7.free (b5.trans (b7.trans (b9.trans b10))) ⟨_,q10⟩ hlt;have ex5:(∃ o,H5 pr=some o)/\(∃ o,H5 dr=some o)/\(∃ o,H5 pl=some o)/\(∃ o,H5 lr=some o)/\(∃ o,H5 ld=some o):=by
  obtain⟨⟨x,kv,z1,z2,_⟩,_⟩:=id R5;obtain⟨⟨y,w1⟩,⟨rs,w2,_⟩,⟨ks,w3,_⟩⟩:=id L5;exact⟨⟨_,z1⟩,⟨_,z2⟩,⟨_,w1⟩,⟨_,w2⟩,⟨_,w3⟩⟩
 have n5:∀ {x y:Addr},(∃ o,H5 x=some o)->H5 y=none->x≠y:=fun ⟨o,e⟩ hy=>Zg e hy;have fls5:H5 ls=none:=V7.free b7 ⟨_,q7⟩ hls;have flt5:H5 lt=none:=V7.free (b7.trans (b9.trans b10)) ⟨_,q10⟩ hlt;have ndas:da≠ls:=Zg d7 hls;have ndat:da≠lt:=Zg (b10 _ _ (b9 _ _ d7 npa) npa) hlt;have nst:ls≠lt:=Zg (b10 _ _ l9 nps) hlt;obtain⟨e1,e2,e3,e4,e5⟩:=ex5;have nrl:lr≠ld:=n0;refine hF ⟨p,pr,dr,pl,lr,ld,da,ls,lt⟩ H12 rfl ⟨⟨dx,.non,q12,rfl⟩,R12,L12,⟨[],d12,fun i n=>rfl,ztc _⟩,⟨[],l912,.nil⟩,⟨[],l12,.nil⟩,?_,?_⟩ bb ?_
 ·show [p,dr,lr,ld,da,ls,lt].Nodup;simp only[zt0,ztf,zue,or_false,not_or];exact⟨⟨Ne.symm np2.2,Ne.symm np4.2.1,Ne.symm np4.2.2,Ne.symm npa,Ne.symm nps,Ne.symm npt⟩,⟨nrp.2.2.2.1,nrp.2.2.2.2.2,n5 e2 hda,n5 e2 fls5,n5 e2 flt5⟩,⟨nrl,n5 e4 hda,n5 e4 fls5,n5 e4 flt5⟩,⟨n5 e5 hda,n5 e5 fls5,n5 e5 flt5⟩,⟨ndas,ndat⟩,nst,by simp,zuy⟩
 ·have hpr5:∃ x fs,H5 pr=some (.ins a.zlj x fs):=by obtain⟨⟨x,kv,z1,_⟩,_⟩:=R5;exact⟨_,_,z1⟩
  have hdr5:∃ kv,H5 dr=some (.dK kv):=by obtain⟨⟨x,kv,_,z2,_⟩,_⟩:=R5;exact⟨_,z2⟩
  have hpl5:∃ x fs,H5 pl=some (.ins a.zli x fs):=by obtain⟨⟨y,w1⟩,_⟩:=L5;exact⟨_,_,w1⟩
  obtain⟨x1,y1,z1⟩:=hpr5;obtain⟨y2,z2⟩:=hdr5;obtain⟨x3,y3,z3⟩:=hpl5;obtain⟨_,⟨rs,w2,_⟩,⟨ks,w3,_⟩⟩:=id L5;have nm:∀ m,m∈([p,dr,lr,ld,da,ls,lt]:List Addr)↔m=p\/m=dr\/m=lr\/m=ld\/m=da\/m=ls\/m=lt:=fun m=>by simp
  refine⟨fun hm=>?_,fun hm=>?_⟩
  ·rcases(nm _).mp hm with q|q|q|q|q|q|q
   ·exact np2.1 q
   ·exact Xm z1 z2 (fun z=>nomatch z) q
   ·exact nrp.2.2.1 q
   ·exact nrp.2.2.2.2.1 q
   ·exact n5 e1 hda q
   ·exact n5 e1 fls5 q
   ·exact n5 e1 flt5 q
  ·rcases(nm _).mp hm with q|q|q|q|q|q|q
   ·exact np4.1 q
   ·exact nrp.2.1 q.symm
   ·exact Xm z3 w2 (fun z=>nomatch z) q
   ·exact Xm z3 w3 (fun z=>nomatch z) q
   ·exact n5 e3 hda q
   ·exact n5 e3 fls5 q
   ·exact n5 e3 flt5 q
 ·intro x hx hxp;simp only[SAd.fp,ztf,zue,or_false] at hx;rcases hx with q|q|q|q|q|q|q
  ·exact absurd q hxp
  ·rw[q];exact fdr
  ·rw[q];exact flr
  ·rw[q];exact fld
  ·rw[q];exact fda
  ·rw[q];exact fls
  ·rw[q];exact flt
abbrev X7:Stmt:=Z0 (top 58) 1
theorem Rf:Zk ["self"] ["self"] (Zi X7):=fnS
theorem Rg(F:Fun K "check_not_over" "Season.check_not_over" X7 f fd)(T:Tx K mg a)(zlh:Zt P w K mg base a.zle "at_hand" 2 ["self"] (Tz (ca a))):FnOk P w K mg base (CX1 P w) 3 f fd ["self"] (Ll (ca a)):=by
 refine F.okX Rf ⋯ fun _ _ _ _ H _ Q E hr h=>?_;obtain⟨A',S,rfl,SA,h⟩:=h;refine⟨_,(Zd (Zx (Zp Q0 (Yr (pv 0) T.zlf zlh (hr.mono ⋯) Zj) (Zr (K:=K) rfl (pv 0) rfl) (Zq _))
  (Zd (Xe Xd rfl T.zqm rfl (Za Up Zc)))
  Zn)),?_⟩
 obtain⟨⟨dx,v,a1,a2⟩,b,c,_⟩:=id SA;refine⟨_,rfl,A'.p,dx,_,rfl,a1,Yb ⋯,A',S,rfl,SA,_,rfl,A'.p,a.zle,dx,_,_,rfl,a1,T.zlf,T.zo7,F5,_,_,rfl,rfl,_,rfl,?_⟩;refine itD (fun hc=>?_) (fun hc=>?_)
 ·rw[if_pos (by unfold atV at hc;omega)] at h;exact⟨sz1,h⟩
 ·rw[if_neg (by unfold atV at hc;omega)] at h;exact h
abbrev X9:Stmt:=Z0 (top 58) 2
theorem R0:Zk ["self"] ["self"] (Zi X9):=fnS
theorem R1(F:Fun K "check_undrawn" "Season.check_undrawn" X9 f fd)(T:Tx K mg a)(zlt:Zt P w K mg base a.zle "check_not_over" 3 ["self"] (Ll (ca a))):FnOk P w K mg base (CX1 P w) 4 f fd ["self"] (Ln (ca a)):=by
 refine F.okX R0 ⋯ fun _ _ _ _ H _ Q E hr h=>?_;obtain⟨A',S,rfl,SA,h⟩:=h;refine⟨_,(Zb (Z2 (Yr (pv 0) T.zlf zlt (hr.mono ⋯) Zj))
 (Zd (Zx (Zp Si (Zr (K:=K) rfl (pv 0) rfl) Y3 (Zq _))
  (Zd (Xe Xd rfl T.zqw rfl (Za Up Zc)))
  Zn))),?_⟩
 obtain⟨⟨dx,v,a1,a2⟩,b,c,_⟩:=id SA;refine⟨_,rfl,A'.p,dx,_,rfl,a1,Yb ⋯,A',S,rfl,SA,?_⟩;refine it2 h (fun _ z=>z) fun hn h=>?_;refine⟨_,rfl,A'.p,a.zle,dx,_,_,rfl,a1,T.zlf,T.zma,Wu,rfl,_,rfl,?_⟩;cases hc:S.cur with
 | none =>
   rw[hc] at a2 h;have a2:v=.non:=a2;rw[a2];exact iteF h
 | some s =>
   rw[hc] at a2 h;obtain⟨q,rfl,_⟩:=a2;exact iteT ⟨sz1,h⟩
abbrev W4:Stmt:=Z0 (top 58) 3
theorem Pc:Zk ["self","at"] ["self","at"] (Zi W4):=fnS
theorem Pd(F:Fun K "check_round" "Season.check_round" W4 f fd)(T:Tx K mg a):FnOk P w K mg base (CX1 P w) 1 f fd ["self","at"] (De (ca a)):=by
 refine F.okX Pc ⋯ fun _ _ _ _ H _ Q E hr h=>?_;obtain⟨A',S,i,rfl,SA,si,h⟩:=h;refine⟨_,(Zd (Zx (PW.pt (We (Zp Kd (pv 1) Zf (Zq _)) (Xn (Zp Q0 (pv 1) (Zr (K:=K) rfl (pv 0) rfl) (Zq _)))))
  (Zd (Xe Xd rfl T.zqf rfl (Za (Vk (Zy (Vb (pv 1)) (Zy (Xu ⋯) Vj)) ⋯) Zc)))
  Zn)),?_⟩
 obtain⟨⟨dx,v,a1,a2⟩,b,c,_⟩:=id SA;refine⟨_,rfl,_,_,rfl,rfl,_,rfl,?_⟩;refine itD (fun hc=>?_) (fun hc=>?_)
 ·rw[if_pos (.inl hc)] at h;refine iteT ?_;exact⟨_,rfl,.inl ⟨_,rfl,si⟩,fun z=>⟨sz1,h⟩⟩
 refine⟨_,rfl,_,rfl,A'.p,a.zle,dx,_,_,rfl,a1,T.zlf,T.zo7,F5,_,_,rfl,rfl,_,rfl,?_⟩;refine itD (fun hc2=>?_) (fun hc2=>?_)
 ·rw[if_pos (.inr hc2)] at h;exact⟨_,rfl,.inl ⟨_,rfl,si⟩,fun z=>⟨sz1,h⟩⟩
 ·rw[if_neg (fun z=>z.elim hc hc2)] at h;exact h
abbrev Vd:Stmt:=Z0 (top 58) 4
theorem P9:Zk ["self"] ["self"] (Zi Vd):=fnS
theorem Oa(F:Fun K "check_room" "Season.check_room" Vd f fd)(T:Tx K mg a):FnOk P w K mg base (CX1 P w) 1 f fd ["self"] (Df (ca a)):=by
 refine F.okX P9 ⋯ fun _ _ _ _ H _ Q E hr h=>?_;obtain⟨A',S,rfl,SA,h⟩:=h;refine⟨_,(Zd (Zx (Zp zan (Zm (cL K) (by rfl) T.zlq PySem.boot_len (Za (Zr (K:=K) rfl (pv 0) rfl) Zc)) (Wo rfl T.znq) (Zq _))
  (Zd (Xe Xd rfl T.zp9 rfl (Za (Vk (Zy (Vb (Wo rfl T.znq)) (Zy (Xu ⋯) Vj)) ⋯) Zc)))
  Zn)),?_⟩
 obtain⟨⟨dx,v,a1,a2⟩,b,c,d,f,⟨us,g1,g2⟩,nd,np⟩:=id SA;refine⟨_,rfl,A'.p,a.zle,dx,_,_,rfl,a1,T.zlf,T.zmq,Sr,A'.lt,_,rfl,.inl (SqL.of g1),_,_,rfl,rfl,_,rfl,?_⟩;rw[g2.length];refine itD (fun hc=>?_) (fun hc=>?_)
 ·rw[if_pos ⋯] at h;exact⟨.inl ⟨_,rfl,Yg ⋯⟩,fun z=>⟨sz1,h⟩⟩
 ·rw[if_neg ⋯] at h;exact h
abbrev Rh:Stmt:=Z0 (top 58) 5
theorem Hl:Zk ["self","word","number","at"] ["self","word","number","at"] (Zi Rh):=fnS
theorem Hm(F:Fun K "note" "Season.note" Rh f fd)(T:Tx K mg a):FnOk P w K mg base (CX1 P w) 1 f fd ["self","word","number","at"] (Dg (ca a)):=by
 refine F.okX Hl ⋯ fun _ _ _ _ H _ Q E hr h=>?_;obtain⟨A',S,w',n,i,rfl,SA,hz,h⟩:=h;refine⟨_,(Zd (Yo (Zr (K:=K) rfl (pv 0) rfl) (Xg (Za (Xg (Za (pv 1) (Za (pv 2) (Za (pv 3) Zc)))) (Za (Zr (K:=K) rfl (pv 0) rfl) Zc))))),?_⟩;obtain⟨⟨dx,v,a1,a2⟩,b,c,⟨kvs,d1,d2⟩,⟨vs,f1,f2⟩,⟨us,g1,g2⟩,nd,np⟩:=id SA;refine⟨_,rfl,A'.p,a.zle,dx,_,_,rfl,a1,T.zlf,T.zmq,Sr,A'.lt,us,rfl,g1,?_⟩;refine⟨_,rfl,_,rfl,_,rfl,sz3,fun t1 ht1=>?_⟩;refine al (upd _ t1 _) ht1 rfl fun H1 TH1 s1=>?_;have q1:H1 t1=some (.tup (Q3 (w',n,i))):=TH1;refine⟨_,rfl,A'.p,a.zle,dx,_,_,rfl,s1 _ _ a1,T.zlf,T.zma,Wu,sz2,fun t2 ht2=>?_⟩;refine al (upd _ t2 _) ht2 rfl fun H2 q2 s2=>?_;have q12:=s2 _ _ q1;have s12:=s1.trans s2;refine⟨us,s12 _ _ g1,by have:=g2.length;have:=Rv;omega,?_⟩;have fr:FrS A' H (upd H2 A'.lt (.lst (us++[.ref t2]))):=fun b o e hb=>by
  rw[Zh (fun z=>hb (by rw[z];simp[SAd.fp]))];exact s12 _ _ e
 have kt:=SA.tups fr;have kp:∀ x o,x≠A'.lt->H x=some o->upd H2 A'.lt (.lst (us++[.ref t2])) x=some o:=fun x o hx e=>by rw[Zh hx];exact s12 _ _ e
 have kt2:∀ t xs,H2 t=some (.tup xs)->upd H2 A'.lt (.lst (us++[.ref t2])) t=some (.tup xs):=fun t xs e=>by
  rw[Zh (Xm e (s12 _ _ g1) (fun z=>nomatch z))];exact e
 have ko:∀ x o,x∉A'.fp->H x=some o->upd H2 A'.lt (.lst (us++[.ref t2])) x=some o:=fun x o hx e=>fr x o e hx;have nd':=nd;simp only[SAd.fp,zt0,ztf,zue,or_false,not_or] at nd';obtain⟨⟨n1,n2,n3,n4,n5,n6⟩,⟨n7,n8,n9,n10,n11⟩,⟨n12,n13,n14,n15⟩,⟨n16,n17,n18⟩,⟨n19,n20⟩,n21,_⟩:=nd';have npt:A'.pr≠A'.lt/\A'.pl≠A'.lt:=⟨fun z=>np.1 (by rw[z];simp[SAd.fp]),fun z=>np.2 (by rw[z];simp[SAd.fp])⟩;refine h _ ⟨⟨dx,v,kp _ _ n6 a1,a2.keep ko kt⟩,b.keep (fun o e=>kp _ o npt.1 e) (fun o e=>kp _ o n11 e) kt,c.keep (fun o e=>kp _ o npt.2 e) (fun o e=>kp _ o n15 e) (fun o e=>kp _ o n18 e) kt,⟨kvs,kp _ _ n20 d1,d2⟩,⟨vs,kp _ _ n21 f1,f2.keep ko kt⟩,⟨us++[.ref t2],Ze,?_⟩,nd,np⟩ fr;exact(g2.keep ko kt).snoc (kt2 _ _ q2) (kt2 _ _ q12) (a2.keep ko kt)
abbrev Wa:Stmt:=Z0 (top 58) 6
theorem R4:Zk ["self"] ["self"] (Zi Wa):=fnS
theorem R6(F:Fun K "sheet_at_hand" "Season.sheet_at_hand" Wa f fd)(T:Tx K mg a):FnOk P w K mg base (CX1 P w) 1 f fd ["self"] (Qi (ca a)):=by
 refine F.okX R4 ⋯ fun _ _ _ _ H _ Q E hr h=>?_;obtain⟨A',S,rfl,SA,h1,h2⟩:=h;refine⟨_,(Zb (Zx (Zp R9 (Zr (K:=K) rfl (pv 0) rfl) Y3 (Zq _))
  (Zd (Xe Xd rfl T.zp1 rfl (Za Up Zc)))
  Zn)
 (Zd (Zl (Zr (K:=K) rfl (pv 0) rfl)))),?_⟩
 obtain⟨⟨dx,v,a1,a2⟩,b,c,_⟩:=id SA;refine⟨_,rfl,A'.p,a.zle,dx,_,_,rfl,a1,T.zlf,T.zma,Wu,rfl,_,rfl,?_⟩;cases hc:S.cur with
 | none =>
   rw[hc] at a2;have a2:v=.non:=a2;rw[a2];exact iteT ⟨sz1,h1 hc⟩
 | some s =>
   rw[hc] at a2;obtain⟨q,rfl,hs⟩:=a2;refine iteF ?_;exact⟨_,rfl,A'.p,a.zle,dx,_,_,rfl,a1,T.zlf,T.zma,Wu,h2 s q hc hs⟩
abbrev Ue:Stmt:=Z0 (top 58) 7
theorem Nz:Zk ["self","at"] ["self","at"] (Zi Ue):=fnS
theorem N1(F:Fun K "sheet_of" "Season.sheet_of" Ue f fd)(T:Tx K mg a)(zlz:Zt P w K mg base a.zle "check_round" 1 ["self","at"] (De (ca a)))(zll:Zt P w K mg base a.zli "over" 1 ["self"] (Le a.zli))(zlh:Zt P w K mg base a.zle "at_hand" 2 ["self"] (Tz (ca a)))(zlk:Zt P w K mg base a.zle "sheet_at_hand" 1 ["self"] (Qi (ca a))):FnOk P w K mg base (CX1 P w) 3 f fd ["self","at"] (Oq (ca a)):=by
 refine F.okX Nz ⋯ fun _ _ _ _ H _ Q E hr h=>?_;obtain⟨A',S,i,rfl,SA,si,hol,h⟩:=h;refine⟨_,(Zb (Z2 (Y1 (pv 0) T.zlf zlz (hr.mono ⋯) Zj (Za (pv 1) Zc)))
 (Zb (Zx (Zp zde (pv 1) (Yr (Zr (K:=K) rfl (pv 0) rfl) T.zmb zll (hr.mono ⋯) Zj) (Zq _))
  (Zd (Zl (pI (iL K) (Zr (K:=K) rfl (pv 0) rfl) (Zu El (pv 1) Zf))))
  Zn)
 (Zb (Zx (Zp Q0 (pv 1) (Yr (pv 0) T.zlf zlh (hr.mono ⋯) Zj) (Zq _))
  (Zd (Xe Xd rfl T.zp1 rfl (Za (Vk (Zy (Xu ⋯) (Zy (Vb (pv 1)) (Zy (Xu ⋯) Vj))) ⋯) Zc)))
  Zn)
 (Zd (Zl (Yr (pv 0) T.zlf zlk (hr.mono ⋯) Zj)))))),?_⟩
 obtain⟨⟨dx,v,a1,a2⟩,b,c,d,⟨vs,f1,f2⟩,_⟩:=id SA;obtain⟨⟨dxl,hpl⟩,_⟩:=id c;refine⟨_,rfl,A'.p,dx,_,rfl,a1,Yb ⋯,_,rfl,A',S,i,rfl,SA,si,?_⟩;refine it2 h (fun _ z=>z) fun hn h=>?_;refine⟨_,rfl,_,rfl,A'.p,a.zle,dx,_,_,rfl,a1,T.zlf,T.zm3,Tj,A'.pl,dxl,_,rfl,hpl,J1 ⋯ ⋯,A'.pl,A'.lr,A'.ld,S.led,rfl,c,_,_,rfl,rfl,_,rfl,?_⟩;refine itD (fun hc=>?_) (fun hc=>?_)
 ·have hk:(i-1).toNat<S.old.length:=by omega
  have hs:V4 S i=some (S.old[(i-1).toNat]'hk):=by unfold V4;rw[if_pos hc];exact zs5 hk
  obtain⟨q,e1,e2⟩:=f2.getR (zs5 hk);exact⟨_,rfl,A'.p,a.zle,dx,_,_,rfl,a1,T.zlf,T.zoz,F6,_,rfl,_,_,rfl,rfl,A'.ls,_,_,_,rfl,rfl,SqL.of f1,(show atI vs (i-1)=some (.ref q) by rw[show i-1=(((i-1).toNat:Nat):Int) by omega];exact Zs e1),h.2 _ q hs e2⟩
 ·refine Zz ?_;refine⟨_,rfl,_,rfl,A'.p,dx,_,rfl,a1,Yb ⋯,A',S,rfl,SA,_,_,rfl,rfl,_,rfl,?_⟩;refine itD (fun hc2=>?_) (fun hc2=>?_)
  ·exact⟨_,rfl,.inl ⟨_,rfl,si⟩,fun z=>⟨sz1,h.1 (by unfold V4;rw[if_neg hc,if_pos (by unfold atV at hc2;omega)])⟩⟩
  ·have hs:V4 S i=S.cur:=by unfold V4;rw[if_neg hc,if_neg (by unfold atV at hc2;omega)]
   exact⟨_,rfl,A'.p,dx,_,rfl,a1,Yb ⋯,A',S,rfl,SA,fun hz=>h.1 (by rw[hs];exact hz),fun s q hz hq=>h.2 s q (by rw[hs];exact hz) hq⟩
abbrev Vt:Stmt:=Z0 (top 58) 8
theorem X2:Zk ["self","listed","people","at","out"] ["self","listed"] (Zi Vt):=fnS
theorem Oz(F:Fun K "takers_of" "Season.takers_of" Vt f fd)(T:Tx K mg a)(zms:Zt P w K mg base a.zlj "numbers" 1 ["self"] (Ih (ca a)))(znl:Zt P w K mg base a.zlj "person" 3 ["self","number"] (Bb (ca a)))(zlh:Zt P w K mg base a.zle "at_hand" 2 ["self"] (Tz (ca a)))(zp4:Z1 P w K mg base "takers" 4 ["people","match","out","ledger","rest"] (Cz K a.zli)):FnOk P w K mg base (CX1 P w) 5 f fd ["self","listed"] (Nm (ca a)):=by
 refine F.okX X2 ⋯ fun _ _ _ _ H _ Q E hr h=>?_;obtain⟨A',S,l,ts,ms,rfl,SA,hl,tl,hml,hpl,hsm,h⟩:=h;have hu:=Vg hr;refine⟨_,(Zb (pS 2 X2.nd (Wv rfl (cT ["self"] [0]) (Z4 (K:=K) rfl (Yr (Zr (K:=K) rfl (pv 0) rfl) T.zl2 zms (hr.mono ⋯) Zj)) (fun _ _ _ _ _=>W8) (fun _ _ _ _ _=>(Y1 (Zr (K:=K) rfl (pv 1) rfl) T.zl2 znl (hr.mono ⋯) Ct (Za (pv 0) Zc)))))
 (Zb (pS 3 X2.nd (Yr (pv 0) T.zlf zlh (hr.mono ⋯) Zj))
 (Zb (pS 4 X2.nd (Wv rfl (cT ["at","self"] [3,0]) (Z4 (K:=K) rfl (Yr (Zr (K:=K) rfl (pv 0) rfl) T.zl2 zms (hr.mono ⋯) Zj)) (fun _ _ _ _ _=>Sk (Sw (Jv hu (Xg (Za (pv 1) (Za (pv 0) Zc))) (Zr (K:=K) rfl (pv 2) rfl)))) (fun _ _ _ _ _=>(pv 0))))
 (Zd (Zl (Wv rfl (cT ["people","out","self"] [2,4,0]) (Z4 (K:=K) rfl (pv 1)) (fun _ _ _ _ _=>W8) (fun _ _ _ _ _=>(zaz zp4 (hr.mono ⋯) Ct rfl (Za (pv 1) (Za (pv 0) (Za (pv 2) (Za (Zr (K:=K) rfl (pv 3) rfl) (Za (Zr (K:=K) rfl (pv 3) rfl) Zc))))))))))))),?_⟩
 obtain⟨⟨dx,v,a1,a2⟩,b,c,⟨kvs,d1,d2⟩,_⟩:=id SA;obtain⟨⟨dxr,kvr,hpr,hdr,en⟩,ndr⟩:=id b;refine⟨_,rfl,A'.p,a.zle,dx,_,_,rfl,a1,T.zlf,T.zmx,Ut,A'.pr,dxr,_,rfl,hpr,Xj.no ⋯,A'.pr,A'.dr,S.ppl,rfl,b,fun ln hln=>?_⟩;refine al (upd _ ln _) hln rfl fun H1 q1 s1=>?_;have hnl:(S.ppl.map fun x=>V.int x.1).length=S.ppl.length:=by rw[zs4]
 refine⟨ln,rfl,⟨_,SqL.of q1⟩,Wi (K:=K) (xs:=S.ppl.map fun x=>V.int x.1) (fun i ys H'=>Same H H'/\Same H1 H'/\TupL H' ys ((S.ppl.take i).map pV)/\ys.length=i) ⟨s1,Same.refl _,.nil,rfl⟩ (fun i ys H' _ ⟨_,z,_⟩=>SqL.of (z _ _ q1)) (szN ⋯) (fun i ys H' ⟨_,_,_,e⟩=>by omega) ?_ ?_⟩
 ·rintro i x ys H' hx ⟨sh,s1',tl',hyl⟩;have hi:i<S.ppl.length:=by have:=(zs6.mp hx).1;omega
  have hpi:S.ppl[i]?=some (S.ppl[i]'hi):=zs5 hi;have etk:S.ppl.take (i+1)=S.ppl.take i++[S.ppl[i]'hi]:=ztp hi;have hmem:S.ppl[i]'hi∈S.ppl:=ztw hi;have ex:x=.int (S.ppl[i]'hi).1:=by rw[zs7,hpi] at hx;exact(Option.some.inj hx).symm
  generalize (S.ppl[i]'hi)=pp at hpi etk hmem ex;subst ex;unfold tYes;dsimp only;rw[if_pos rfl];refine⟨_,rfl,A'.p,a.zle,dx,_,_,rfl,sh _ _ a1,T.zlf,T.zmx,Ut,A'.pr,dxr,_,rfl,sh _ _ hpr,Xj.no ⋯,_,rfl,A'.pr,A'.dr,S.ppl,pp.1,rfl,b.same sh,hsm pp hmem,fun z=>absurd (zte.mpr ⟨pp,hmem,rfl⟩) z,fun g c' t H2 hm ht s2 _=>?_⟩;have epp:=zf9 b.nd hm hmem rfl;rw[epp] at ht;refine⟨sh.trans s2,s1'.trans s2,?_,by rw[zs8,hyl];rfl⟩;rw[etk,zti];exact(tl'.same s2).snoc ht
 rintro ys H2 ⟨sh2,s12,tl2,hyl⟩ lp hlp;rw[hnl,zto] at tl2;refine al (upd _ lp _) hlp rfl fun H3 q3 SH3=>?_;have s3:=sh2.trans SH3;have tl3:=tl2.same SH3;have SA3:=SA.same s3;refine⟨_,rfl,A'.p,dx,_,rfl,s3 _ _ a1,Yb ⋯,A',S,rfl,SA3,?_⟩;refine⟨_,rfl,A'.p,a.zle,dx,_,_,rfl,s3 _ _ a1,T.zlf,T.zmx,Ut,A'.pr,dxr,_,rfl,s3 _ _ hpr,Xj.no ⋯,A'.pr,A'.dr,S.ppl,rfl,b.same s3,fun ln4 hln4=>?_⟩;refine al (upd _ ln4 _) hln4 rfl fun H4 q4 s4=>?_;refine⟨ln4,rfl,⟨_,SqL.of q4⟩,Wi (K:=K) (xs:=S.ppl.map fun x=>V.int x.1) (fun i ys H'=>Same H4 H'/\ys=((S.ppl.take i).filter (pIn S.out (atV S))).map fun x=>V.int x.1) ⟨Same.refl _,rfl⟩ (fun i ys H' _ ⟨z,_⟩=>SqL.of (z _ _ q4)) (szN ⋯) (fun i ys H' ⟨_,e⟩=>by rw[e,zs4];exact ztk (zub _ _) (zu1 _ _)) ?_ ?_⟩
 ·rintro i x zs H' hx ⟨s4',rfl⟩;have hi:i<S.ppl.length:=by have:=(zs6.mp hx).1;omega
  have hpi:S.ppl[i]?=some (S.ppl[i]'hi):=zs5 hi;have etk:S.ppl.take (i+1)=S.ppl.take i++[S.ppl[i]'hi]:=ztp hi;have ex:x=.int (S.ppl[i]'hi).1:=by rw[zs7,hpi] at hx;exact(Option.some.inj hx).symm
  generalize (S.ppl[i]'hi)=pp at hpi etk ex;subst ex;refine⟨_,rfl,_,rfl,sz2,fun t ht=>?_⟩;refine al (upd _ t _) ht rfl fun H5 TH5 s5=>?_;have q5:H5 t=some (.tup (([inl (atV S),inl pp.1]:List Key).map kV)):=TH5;have sh5:=s3.trans (s4.trans (s4'.trans s5));refine⟨_,rfl,A'.p,a.zle,dx,_,_,rfl,sh5 _ _ a1,T.zlf,T.zn4,Oo,A'.da,_,rfl,DGet.t (k:=[inl (atV S),inl pp.1]) (sh5 _ _ d1) q5,_,rfl,?_⟩;rw[d2.isSome];have e2:∀ ws,((S.ppl.take (i+1)).filter (pIn S.out (atV S))).map (fun x=>V.int x.1)=((S.ppl.take i).filter (pIn S.out (atV S))).map (fun x=>V.int x.1)++ws↔ws=if pIn S.out (atV S) pp then [V.int pp.1] else []:=fun ws=>by
   rw[etk,zul,zti,List.append_cancel_left_eq];cases q:pIn S.out (atV S) pp<;>simp[q,eq_comm]
  refine itB (fun hb=>?_) (fun hb=>?_)
  ·exact⟨_,rfl,s4'.trans s5,((e2 [V.int pp.1]).mpr (by rw[show pIn S.out (atV S) pp=true from hb];rfl)).symm⟩
  ·refine⟨s4'.trans s5,?_⟩;have:=(e2 []).mpr (by rw[show pIn S.out (atV S) pp=false from hb];rfl);rw[zui] at this;exact this.symm
 rintro zs H5 ⟨s45,rfl⟩ lo hlo;rw[hnl,zto];have s6:=s45.trans (Zo (o:=.lst (outV S)) hlo);have q6:upd H5 lo (.lst (outV S)) lo=some (.lst (outV S)):=Ze;show Uo 4 (V.ref lo) _ (upd H5 lo (.lst (outV S))) _;generalize upd H5 lo (.lst (outV S))=H6 at s6 q6;have s36:=s4.trans s6;have s06:=s3.trans s36;have hl6:=s06 _ _ hl;have hts:ts.length=ms.length:=by rw[tl.length,zs4]
 refine⟨_,rfl,l,rfl,⟨_,SqL.of hl6⟩,Wi (K:=K) (xs:=ts) (fun i ys H'=>Same H6 H'/\∃ ls,ys=ls.map V.ref/\ILs H' ls ((mayS S ms).take i)/\ls.length=i/\∀ x∈ls,H x=none) ⟨Same.refl _,[],rfl,.nil,rfl,by simp⟩ (fun i ys H' _ ⟨z,_⟩=>SqL.of (z _ _ hl6)) (szN ⋯) (fun i ys H' ⟨_,ls,e1,_,e2,_⟩=>by rw[e1,zs4];omega) ?_ ?_⟩
 ·rintro i x ys' H' hx ⟨s6',ls,rfl,il,hll,hfr⟩;obtain⟨tm,m,rfl,hm,htm⟩:=zd9 tl hx;have s0:=s06.trans s6';unfold tYes;dsimp only;rw[if_pos rfl];refine⟨_,rfl,_,rfl,_,rfl,_,rfl,A'.p,a.zle,dx,_,_,rfl,s0 _ _ a1,T.zlf,T.zm3,Tj,_,rfl,A'.p,a.zle,dx,_,_,rfl,s0 _ _ a1,T.zlf,T.zqn,zf8,lp,lo,tm,A'.pl,A'.lr,A'.ld,S.led,ys,S.ppl,outV S,m.1,m.2.1,m.2.2,S.rest,rfl,(s36.trans s6') _ _ q3,tl3.same (s36.trans s6'),s6' _ _ q6,zet S,s0 _ _ htm,c.same s0,by omega,fun l2 H2 hl2 s2 f2=>?_⟩;rw[zh6] at hl2;refine⟨s6'.trans s2,ls++[l2],by rw[zti];rfl,?_,by rw[zs8,hll];rfl,fun y hy=>?_⟩
  ·have e:(mayS S ms).take (i+1)=(mayS S ms).take i++[mayM S m]:=by
    unfold mayS;rw[zuf,zs7,hm];rfl
   rw[e];exact(il.same s2).snoc hl2
  ·rcases ztg.mp hy with z|z
   ·exact hfr y z
   ·rw[zs9.mp z];exact s0.free f2
 ·rintro ys' H' ⟨s6',ls,rfl,il,hll,hfr⟩ l' hl';have hmy:(mayS S ms).length=ms.length:=by unfold mayS;rw[zs4]
  rw[hts,<- hmy,zto] at il;have s0:=s06.trans s6';exact h l' ls _ Ze (il.same (Zo hl')) (s0.trans (Zo hl')) (s0.free hl') hfr
abbrev Sa:Stmt:=Z0 (top 58) 9
theorem Ja:Zk ["self","number","grade","club"] ["self","number","grade","club"] (Zi Sa):=fnS
theorem Jb(F:Fun K "enrol" "Season.enrol" Sa f fd)(T:Tx K mg a)(zlu:Zt P w K mg base a.zle "check_undrawn" 4 ["self"] (Ln (ca a)))(zl3:Zt P w K mg base a.zlj "check_new" 2 ["self","number","grade","club"] (Nj (ca a)))(zlm:Zt P w K mg base a.zle "check_room" 1 ["self"] (Df (ca a)))(zl7:Zt P w K mg base a.zle "note" 1 ["self","word","number","at"] (Dg (ca a)))(zlh:Zt P w K mg base a.zle "at_hand" 2 ["self"] (Tz (ca a)))(zou:Zt P w K mg base a.zlj "add" 3 ["self","number","grade","club"] (zes (ca a))):FnOk P w K mg base (CX1 P w) 5 f fd ["self","number","grade","club"] (zbl (ca a)):=by
 refine F.okX Ja ⋯ fun _ _ _ _ H _ Q E hr h=>?_;obtain⟨A',S,n,g,c0,rfl,SA,sm,hz,hz2,h⟩:=h;refine⟨_,(Zb (Z2 (Yr (pv 0) T.zlf zlu (hr.mono ⋯) Zj))
 (Zb (Z2 (Y1 (Zr (K:=K) rfl (pv 0) rfl) T.zl2 zl3 (hr.mono ⋯) Zj (Za (pv 1) (Za (pv 2) (Za (pv 3) Zc)))))
 (Zb (Z2 (Yr (pv 0) T.zlf zlm (hr.mono ⋯) Zj))
 (Zb (Z2 (Y1 (pv 0) T.zlf zl7 (hr.mono ⋯) Zj (Za Up (Za (pv 1) (Za (Yr (pv 0) T.zlf zlh (hr.mono ⋯) Zj) Zc)))))
 (Zd (Z2 (Y1 (Zr (K:=K) rfl (pv 0) rfl) T.zl2 zou (hr.mono ⋯) Zj (Za (pv 1) (Za (pv 2) (Za (pv 3) Zc)))))))))),?_⟩
 obtain⟨⟨dx,v,a1,a2⟩,b,c,_⟩:=id SA;obtain⟨⟨dxr,kvr,hpr,hdr,en⟩,ndr⟩:=id b;refine⟨_,rfl,A'.p,dx,_,rfl,a1,Yb ⋯,A',S,rfl,SA,?_⟩;refine it2 h (fun _ z=>z) fun h1 h=>it2 h (fun _ z=>z) fun h2 h=>?_;refine⟨_,rfl,A'.p,a.zle,dx,_,_,rfl,a1,T.zlf,T.zmx,Ut,A'.pr,dxr,_,rfl,hpr,Xj.no ⋯,_,rfl,_,rfl,_,rfl,A'.pr,A'.dr,S.ppl,n,g,c0,rfl,b,sm,?_⟩;refine it2 h (fun _ z=>z) fun h3 h=>it2 h (fun _ z=>z) fun h4 h=>it2 h (fun _ z=>z) fun h5 h=>?_;refine⟨_,rfl,A'.p,dx,_,rfl,a1,Yb ⋯,A',S,rfl,SA,?_⟩;refine it2 h (fun _ z=>z) fun h6 h=>?_;refine⟨_,rfl,A'.p,dx,_,rfl,a1,Yb ⋯,_,rfl,_,rfl,A'.p,dx,_,rfl,a1,Yb ⋯,A',S,rfl,SA,A',S,"enrol",n,atV S,rfl,SA,hz,fun H1 SA1 f1=>?_⟩;obtain⟨⟨dx1,v1,a11,a12⟩,b1,c1,_⟩:=id SA1;obtain⟨⟨dxr1,kvr1,hpr1,hdr1,en1⟩,ndr1⟩:=id b1;refine⟨_,rfl,A'.p,a.zle,dx1,_,_,rfl,a11,T.zlf,T.zmx,Ut,A'.pr,dxr1,_,rfl,hpr1,Xj.no ⋯,_,rfl,_,rfl,_,rfl,A'.pr,A'.dr,S.ppl,n,g,c0,rfl,b1,sm,hz2,?_⟩;rw[if_neg h3,if_neg h4,if_neg h5];intro H2 R2 k2;obtain⟨SA2,f2⟩:=SA1.setRos R2 k2;exact h H2 SA2 (f1.trans f2)
abbrev Uy:Stmt:=Z0 (top 58) 10
theorem Sv:Zk ["self","matches","listed"] ["self","matches"] (Zi Uy):=fnS
theorem Mt(F:Fun K "draw_up" "Season.draw_up" Uy f fd)(T:Tx K mg a)(zlu:Zt P w K mg base a.zle "check_undrawn" 4 ["self"] (Ln (ca a)))(zpt:Z1 P w K mg base "checked" 3 ["matches"] (Il K (ca a)))(zlm:Zt P w K mg base a.zle "check_room" 1 ["self"] (Df (ca a)))(zl7:Zt P w K mg base a.zle "note" 1 ["self","word","number","at"] (Dg (ca a)))(zlh:Zt P w K mg base a.zle "at_hand" 2 ["self"] (Tz (ca a)))(zol:Z1 P w K mg base "drawn_sheet" 4 ["listed","lists"] (zbh (ca a)))(zl4:Zt P w K mg base a.zle "takers_of" 5 ["self","listed"] (Nm (ca a)))(zmt:Zt P w K mg base a.zlg "goes" 1 ["self"] (Ii (ca a))):FnOk P w K mg base (CX1 P w) 6 f fd ["self","matches"] (Bn K (ca a)):=by
 refine F.okX Sv ⋯ fun _ _ _ _ H _ Q E hr h=>?_;obtain⟨A',S,b,ts,ms,rfl,SA,hs,tl,sm,hml,hz,po,h⟩:=h;refine⟨_,(Zb (Z2 (Yr (pv 0) T.zlf zlu (hr.mono ⋯) Zj))
 (Zb (pS 2 Sv.nd (pF zpt hr (Za (pv 1) Zc)))
 (Zb (Z2 (Yr (pv 0) T.zlf zlm (hr.mono ⋯) Zj))
 (Zb (Z2 (Y1 (pv 0) T.zlf zl7 (hr.mono ⋯) Zj (Za Up (Za (Zm (cL K) (by rfl) T.zlq PySem.boot_len (Za (pv 2) Zc)) (Za (Yr (pv 0) T.zlf zlh (hr.mono ⋯) Zj) Zc)))))
 (Zb (Y6 (K:=K) rfl (pv 0) (pF zol hr (Za (pv 2) (Za (Y1 (pv 0) T.zlf zl4 (hr.mono ⋯) Zj (Za (pv 2) Zc)) Zc))) rfl)
 (Zd (Zl (Yr (Zr (K:=K) rfl (pv 0) rfl) T.zln zmt (hr.mono ⋯) Zj)))))))),?_⟩
 obtain⟨⟨dx,v,a1,a2⟩,br,cl,_⟩:=id SA;have hts:ts.length=ms.length:=by rw[tl.length,zs4]
 refine⟨_,rfl,A'.p,dx,_,rfl,a1,Yb ⋯,A',S,rfl,SA,?_⟩;refine it2 h (fun _ z=>z) fun h1 h=>it2 h (fun _ z=>z) fun h2 h=>?_;refine⟨_,rfl,b,ts,ms,rfl,hs,tl,sm,hml,h.1,h.2.1,h.2.2.1,fun g1 g2 g3 l1 hl1=>?_⟩;have h4:=h.2.2.2 g1 g2 g3;refine al (upd _ l1 _) hl1 rfl fun H1 q1 s1=>?_;have SA1:=SA.same s1;have a11:=s1 _ _ a1;refine⟨_,rfl,A'.p,dx,_,rfl,a11,Yb ⋯,A',S,rfl,SA1,?_⟩;refine Ew (fun z=>h4.1 z H1 s1) (fun hroom=>?_);refine⟨_,rfl,A'.p,dx,_,rfl,a11,Yb ⋯,_,rfl,l1,_,rfl,.inl (SqL.of q1),_,rfl,A'.p,dx,_,rfl,a11,Yb ⋯,A',S,rfl,SA1,A',S,"draw up",(ts.length:Nat),atV S,rfl,SA1,hz,fun H2 SA2 f2=>?_⟩;rw[hts] at SA2;have ok1:l1∉A'.fp:=SA.newOk l1 hl1;have q12:=f2 _ _ q1 ok1;have tl2:=(tl.same s1).mono (SA1.tups f2);obtain⟨⟨dx2,v2,a21,a22⟩,br2,_⟩:=id SA2;refine⟨_,rfl,_,rfl,A'.p,dx2,_,rfl,a21,Yb ⋯,_,rfl,A',_,l1,ts,ms,rfl,SA2,q12,tl2,by omega,ztk po.2 ⋯,po.small,fun l2 ls H3 h3 il3 s3 f3 fl3=>?_⟩;have SA3:=SA2.same s3;have mo:Ws (mayS S ms) (S.ppl.map (·.1)):=po.may br2.nd g1;refine⟨(·∉A'.fp),l1,l2,ts,ls,ms,mayS S ms,_,rfl,s3 _ _ q12,tl2.same s3,h3,il3,ok1,SA2.newOk l2 f3,fun x hx=>SA2.newOk x (fl3 x hx),SA3.newOk,mo,fun q gv H4 ShA FP SP s4 fq=>?_⟩;have SA4:=SA3.same s4;obtain⟨⟨dx4,v4,a41,a42⟩,_⟩:=id SA4;refine⟨_,rfl,A'.p,a.zle,dx4,_,rfl,a41,T.zlf,T.zma,(by show 8<1000;decide),?_⟩;obtain⟨SA5,f5,Sh5⟩:=SA4.newSheet a41 ShA;generalize upd H4 A'.p (.ins a.zle dx4 (putF "sheet" (.ref q) (seaF A' S.len S.rest v4)))=H5 at SA5 f5 Sh5;obtain⟨⟨dx5,v5,a51,a52⟩,_⟩:=id SA5;obtain⟨q',rfl,Sq⟩:=a52;obtain⟨dxq,m1,m2,m3,m4,hq'⟩:=ShAt.ins Sq;refine⟨_,rfl,A'.p,a.zle,dx5,_,_,rfl,a51,T.zlf,T.zma,Wu,q',dxq,_,rfl,hq',Us ⋯ ⋯ ⋯ ⋯,(·∉A'.fp),q',_,rfl,Sq,fun l H6 hl s6 fl=>?_⟩;have fr5:FrS A' H H5:=(FrS.of A' s1).trans (f2.trans ((FrS.of A' (s3.trans s4)).trans f5));exact h4.2 ⋯ l gv H6 hl (SA5.same s6) FP SP (fr5.trans (FrS.of A' s6)) (fr5.free SA5 fl)
abbrev Ri:Stmt:=Z0 (top 58) 11
theorem Hn:Zk ["self","at","number"] ["self","at","number"] (Zi Ri):=fnS
theorem Ho(F:Fun K "away" "Season.away" Ri f fd)(T:Tx K mg a)(zlz:Zt P w K mg base a.zle "check_round" 1 ["self","at"] (De (ca a)))(zll:Zt P w K mg base a.zli "over" 1 ["self"] (Le a.zli))(zly:Zt P w K mg base a.zlj "check_known" 1 ["self","number"] (Qg (ca a)))(zlm:Zt P w K mg base a.zle "check_room" 1 ["self"] (Df (ca a)))(zl7:Zt P w K mg base a.zle "note" 1 ["self","word","number","at"] (Dg (ca a)))(zlh:Zt P w K mg base a.zle "at_hand" 2 ["self"] (Tz (ca a)))(zm8:Zt P w K mg base a.zle "step_in" 6 ["self","number"] (Bo (ca a))):FnOk P w K mg base (CX1 P w) 7 f fd ["self","at","number"] (spF (zeu (ca a))):=by
 refine FnOk.frame ?_;refine F.okX Hn ⋯ fun _ _ _ _ H _ Q E hr h=>?_;obtain⟨A',S,i,n,rfl,SA,si,sn,hz,hoz,po,hcur,h⟩:=h;have hu:=Vg hr;refine⟨_,(Zb (Z2 (Y1 (pv 0) T.zlf zlz (hr.mono ⋯) Zj (Za (pv 1) Zc)))
 (Zb (Zx (Zp zde (pv 1) (Yr (Zr (K:=K) rfl (pv 0) rfl) T.zmb zll (hr.mono ⋯) Zj) (Zq _))
  (Zd (Xe Xd rfl T.zqp rfl (Za (Vk (Zy (Xu ⋯) (Zy (Vb (pv 1)) (Zy (Xu ⋯) Vj))) ⋯) Zc)))
  Zn)
 (Zb (Z2 (Y1 (Zr (K:=K) rfl (pv 0) rfl) T.zl2 zly (hr.mono ⋯) Zj (Za (pv 2) Zc)))
 (Zb (Zx (Sw (Jv hu (Xg (Za (pv 1) (Za (pv 2) Zc))) (Zr (K:=K) rfl (pv 0) rfl)))
  (Zd (Xe Xd rfl T.zqd rfl (Za (Vk (Zy (Xu ⋯) (Zy (Vb (pv 2)) (Zy (Xu ⋯) (Zy (Vb (pv 1)) (Zy (Xu ⋯) Vj))))) ⋯) Zc)))
  Zn)
 (Zb (Z2 (Yr (pv 0) T.zlf zlm (hr.mono ⋯) Zj))
 (Zb (Z2 (Y1 (pv 0) T.zlf zl7 (hr.mono ⋯) Zj (Za Up (Za (pv 2) (Za (pv 1) Zc)))))
 (Zb (V1 hu (Zr (K:=K) rfl (pv 0) rfl) (Xg (Za (pv 1) (Za (pv 2) Zc))) Yp rfl)
 (Zb (Zx (PW.pt (We (Zp Q0 (pv 1) (Yr (pv 0) T.zlf zlh (hr.mono ⋯) Zj) (Zq _)) (Xn (Zp R9 (Zr (K:=K) rfl (pv 0) rfl) Y3 (Zq _)))))
  (Zd (Zl (Yl Zc)))
  Zn)
 (Zd (Zl (Y1 (pv 0) T.zlf zm8 (hr.mono ⋯) Zj (Za (pv 2) Zc)))))))))))),?_⟩
 show let y1:TS:=_;let y2:TS:=Zw _ y1;let y3:TS:=Zw _ y2;let y4:TS:=Zw _ y3;let y5:TS:=Zw _ y4;let y6:TS:=Zw _ y5;let y7:TS:=Zw _ y6;let y8:TS:=Zw _ y7;Zw _ y8 _ _ _;intro y1 y2 y3 y4 y5 y6 y7 y8;obtain⟨⟨dx,v,a1,a2⟩,br,cl,⟨kvs,d1,d2⟩,_⟩:=id SA;obtain⟨⟨dxl,hpl⟩,_⟩:=id cl;obtain⟨⟨dxr,kvr,hpr,hdr,en⟩,ndr⟩:=id br;refine⟨_,rfl,A'.p,dx,_,rfl,a1,Yb ⋯,_,rfl,A',S,i,rfl,SA,si,?_⟩;refine it2 h (fun _ z=>z) fun h1 h=>?_;refine⟨_,rfl,_,rfl,A'.p,a.zle,dx,_,_,rfl,a1,T.zlf,T.zm3,Tj,A'.pl,dxl,_,rfl,hpl,J1 ⋯ ⋯,A'.pl,A'.lr,A'.ld,S.led,rfl,cl,_,_,rfl,rfl,_,rfl,?_⟩;refine itD (fun hc=>?_) (fun hc=>?_)
 ·rw[if_pos hc] at h;exact⟨_,rfl,.inl ⟨_,rfl,si⟩,fun z=>⟨sz1,h⟩⟩
 rw[if_neg hc] at h;refine Zz ?_;refine⟨_,rfl,A'.p,a.zle,dx,_,_,rfl,a1,T.zlf,T.zmx,Ut,A'.pr,dxr,_,rfl,hpr,Xj.no ⋯,_,rfl,A'.pr,A'.dr,S.ppl,n,rfl,br,sn,?_⟩;refine it2 h (fun hk h=>?_) (fun _ z=>z);refine⟨_,rfl,_,rfl,sz2,fun t ht=>?_⟩;refine al (upd _ t _) ht rfl fun H1 TH1 s1=>?_;have q1:H1 t=some (.tup (([inl i,inl n]:List Key).map kV)):=TH1;have SA1:=SA.same s1;have a11:=s1 _ _ a1;refine⟨_,rfl,A'.p,a.zle,dx,_,_,rfl,a11,T.zlf,T.zn4,Oo,A'.da,_,rfl,DGet.t (k:=[inl i,inl n]) (s1 _ _ d1) q1,_,rfl,?_⟩;rw[d2.isSome];refine itD (fun hm=>?_) (fun hm=>?_)
 ·rw[if_pos hm] at h;exact⟨_,rfl,.inl ⟨_,rfl,sn⟩,_,rfl,.inl ⟨_,rfl,si⟩,fun z=>⟨sz1,h H1 s1⟩⟩
 rw[if_neg hm] at h;refine Zz ?_;refine⟨_,rfl,A'.p,dx,_,rfl,a11,Yb ⋯,A',S,rfl,SA1,?_⟩;refine it2 h (fun _ z=>z H1 s1) fun h6 h=>?_;refine⟨_,rfl,A'.p,dx,_,rfl,a11,Yb ⋯,_,rfl,_,rfl,A',S,"away",n,i,rfl,SA1,hz,fun H2 SA2 f2=>?_⟩;obtain⟨⟨dx2,v2,a21,a22⟩,br2,cl2,⟨kvs2,d21,d22⟩,_⟩:=id SA2;refine⟨_,rfl,A'.p,a.zle,dx2,_,_,rfl,a21,T.zlf,T.zn4,Oo,_,rfl,_,rfl,sz2,fun t2 ht2=>?_⟩;refine al (upd _ t2 _) ht2 rfl fun H3 TH3 s3=>?_;have q3:H3 t2=some (.tup (([inl i,inl n]:List Key).map kV)):=TH3;have SA3:=SA2.same s3;refine⟨A'.da,_,rfl,DPut.t (k:=[inl i,inl n]) (s3 _ _ d21) q3 (by have:=d22.2;have h9:kvs2.length<=S.out.length:=this;have:=Rv;omega),?_⟩;obtain⟨SA4,f4⟩:=SA3.setOut (out:=S.out++[(i,n)]) Ze (d22.put i n) (fun b o e hb=>by rw[Zh hb];exact e);generalize upd H3 A'.da (.dT (putK kvs2 [inl i,inl n] (.bl true)))=H4 at SA4 f4;have SA4:Zv (ca a) H4 A' (Xk S i n):=SA4;have fr4:FrS A' H H4:=(FrS.of A' s1).trans (f2.trans ((FrS.of A' s3).trans f4));obtain⟨⟨dx4,v4,a41,a42⟩,br4,_⟩:=id SA4;have empty:(S.cur=none\/atV S<i)->∀ l,H4 l=none->Q (.ref l) (upd H4 l (.lst [])):=fun hz l hl=>h.1 hz l _ Ze (SA4.same (Zo hl)) (fr4.trans (FrS.of A' (Zo hl))) (fr4.free SA4 hl);refine⟨_,rfl,_,rfl,A'.p,dx4,_,rfl,a41,Yb ⋯,A',_,rfl,SA4,_,_,rfl,rfl,_,rfl,?_⟩;refine itD (fun hgt=>?_) (fun hle=>?_)
 ·refine iteT ?_;exact⟨by show 0<=sizeLine;decide,fun l hl=>empty (.inr hgt) l hl⟩
 have hat:i=atV S:=by
  have hle:¬ (atV S<i):=hle;unfold atV at hle ⊢;omega
 refine⟨_,rfl,A'.p,a.zle,dx4,_,_,rfl,a41,T.zlf,T.zma,Wu,rfl,_,rfl,?_⟩;cases hc4:S.cur with
 | none =>
   have e4:v4=.non:=by
    have:ShO a.zlg (·∉A'.fp) H4 v4 S.cur:=a42;rw[hc4] at this;exact this
   rw[e4];refine iteT ?_;exact⟨by show 0<=sizeLine;decide,fun l hl=>empty (.inl hc4) l hl⟩
 | some s =>
   have e4:∃ q,v4=.ref q:=by
    have:ShO a.zlg (·∉A'.fp) H4 v4 S.cur:=a42;rw[hc4] at this;obtain⟨q,e,_⟩:=this;exact⟨q,e⟩
   obtain⟨q4,rfl⟩:=e4;refine iteF (Zz ?_);obtain⟨hm20,FP,emay,hgz⟩:=hcur s hc4;have po4:Mi (Xk S i n):=po;have hgl:s.gv.length<=100:=by rw[FP.len,emay];unfold mayS;rw[zs4];omega
   refine⟨_,rfl,A'.p,dx4,_,rfl,a41,Yb ⋯,_,rfl,A',Xk S i n,n,s,(Xk S i n).ppl.map (·.1),rfl,SA4,hc4,po4,hm20,FP.one,hgl,hgz,po4.may br4.nd hm20,fun hp l H5 hl SA5 f5 fl=>?_,fun p hp=>?_⟩
   ·exact h.2.1 s hat hc4 hp l H5 hl SA5 (fr4.trans f5) (fr4.free SA4 fl)
   ·have hgp:=Qj hp;refine⟨hgp,fun j hj=>FP.inj j p n hj hgp,?_,fun l us st e w' H5 hl tl CR SA5 f5 fl=>?_⟩
    ·rw[hat,V6,<- emay];exact V3 FP hgp
    ·exact h.2.2 s p hat hc4 hp l us st e w' H5 hl tl CR SA5 (fr4.trans f5) (fr4.free SA4 fl)
abbrev Uz:Stmt:=Z0 (top 58) 12
theorem Ug:Zk ["self","number","lists","fallen"] ["self","number"] (Zi Uz):=fnS
theorem Mu(F:Fun K "step_in" "Season.step_in" Uz f fd)(T:Tx K mg a)(zl4:Zt P w K mg base a.zle "takers_of" 5 ["self","listed"] (Nm (ca a)))(znh:Zt P w K mg base a.zlg "matches" 1 ["self"] (Kn (ca a)))(zmn:Zt P w K mg base a.zlg "where" 2 ["self","number"] (Lj (ca a)))(zny:Zt P w K mg base a.zlg "barred" 3 ["self","lists"] (Bf (ca a)))(zm2:Zt P w K mg base a.zlg "fallen_out" 3 ["self","number","lists"] (Bg (ca a)))(zmg:Zt P w K mg base a.zlg "chains" 1 ["self"] (Nl (ca a))):FnOk P w K mg base (CX1 P w) 6 f fd ["self","number"] (Bo (ca a)):=by
 refine F.okX Ug ⋯ fun _ _ _ _ H _ Q E hr h=>?_;obtain⟨A',S,n,s,nu,rfl,SA,hc,po,hml,ho,hgl,hgz,mo,h1,h2⟩:=h;refine⟨_,(Zb (pS 2 Ug.nd (Y1 (pv 0) T.zlf zl4 (hr.mono ⋯) Zj (Za (Yr (Zr (K:=K) rfl (pv 0) rfl) T.zln znh (hr.mono ⋯) Zj) Zc)))
 (Zb (Zx (Zp R9 (Y1 (Zr (K:=K) rfl (pv 0) rfl) T.zln zmn (hr.mono ⋯) Zj (Za (pv 1) Zc)) Y3 (Zq _))
  (Zb (Y6 (K:=K) rfl (pv 0) (Y1 (Zr (K:=K) rfl (pv 0) rfl) T.zln zny (hr.mono ⋯) Zj (Za (pv 2) Zc)) rfl)
  (Zd (Zl (Yl Zc))))
  Zn)
 (Zb (Y6 (K:=K) rfl (pv 0) (Y1 (Zr (K:=K) rfl (pv 0) rfl) T.zln zm2 (hr.mono ⋯) Zj (Za (pv 1) (Za (pv 2) Zc))) rfl)
 (Zb (pS 3 Ug.nd (Yr (Zr (K:=K) rfl (pv 0) rfl) T.zln zmg (hr.mono ⋯) Zj))
 (Zd (Zl (pI (iU K) (pI (iL K) (pv 3) (Qy U9 Zf)) Zf))))))),?_⟩
 obtain⟨⟨dx,v,a1,a2⟩,br,cl,_⟩:=id SA;rw[hc] at a2;obtain⟨q,rfl,Sq⟩:=a2;obtain⟨dxq,m1,m2,m3,m4,hq⟩:=ShAt.ins Sq;refine⟨_,rfl,A'.p,dx,_,rfl,a1,Yb ⋯,_,rfl,A'.p,a.zle,dx,_,_,rfl,a1,T.zlf,T.zma,Wu,q,dxq,_,rfl,hq,Us ⋯ ⋯ ⋯ ⋯,(·∉A'.fp),q,s,rfl,Sq,fun l1 ts H1 hl1 tl s1 f1=>?_⟩;have SA1:=SA.same s1;refine⟨A',S,l1,ts,s.ms,rfl,SA1,hl1,tl,by omega,ztk po.2 ⋯,po.small,fun l2 ls H2 h3 il3 s2 f3 fl3=>?_⟩;have s12:=s1.trans s2;have SA2:=SA1.same s2;have Sq2:=Sq.same s12;refine⟨_,rfl,A'.p,a.zle,dx,_,_,rfl,s12 _ _ a1,T.zlf,T.zma,Wu,q,dxq,_,rfl,s12 _ _ hq,Us ⋯ ⋯ ⋯ ⋯,_,rfl,(·∉A'.fp),q,s,n,rfl,Sq2,ho,hgl,fun H3 s3=>?_⟩;have s13:=s12.trans s3;have SA3:=SA2.same s3;have Sq3:=Sq2.same s3;have il4:=il3.same s3;refine⟨rfl,_,rfl,?_⟩;cases hp:Wr s.gv n with
 | none =>
   refine iteT ?_;refine⟨_,rfl,A'.p,a.zle,dx,_,_,rfl,s13 _ _ a1,T.zlf,T.zma,Wu,q,dxq,_,rfl,s13 _ _ hq,Us ⋯ ⋯ ⋯ ⋯,_,rfl,(·∉A'.fp),q,l2,ls,mayS S s.ms,s,rfl,Sq3,s3 _ _ h3,il4,SA1.newOk l2 f3,fun x hx=>SA1.newOk x (fl3 x hx),SA3.newOk,fun q' H4 ShA s4 fq=>?_⟩;have SA4:=SA3.same s4;obtain⟨⟨dx4,v4,a41,a42⟩,_⟩:=id SA4;refine⟨_,rfl,A'.p,a.zle,dx4,_,rfl,a41,T.zlf,T.zma,(by show 8<1000;decide),?_⟩;obtain⟨SA5,f5,Sh5⟩:=SA4.newSheet a41 ShA;generalize upd H4 A'.p (.ins a.zle dx4 (putF "sheet" (.ref q') (seaF A' S.len S.rest v4)))=H5 at SA5 f5 Sh5;have fr5:FrS A' H H5:=(FrS.of A' (s13.trans s4)).trans f5;refine⟨by show 0<=sizeLine;decide,fun l hl=>?_⟩;exact h1 hp l _ Ze (SA5.same (Zo hl)) (fr5.trans (FrS.of A' (Zo hl))) (fr5.free SA5 hl)
 | some p =>
   refine iteF (Zz ?_);obtain⟨hgp,hun,FP,h3'⟩:=h2 p hp;refine⟨_,rfl,A'.p,a.zle,dx,_,_,rfl,s13 _ _ a1,T.zlf,T.zma,Wu,q,dxq,_,rfl,s13 _ _ hq,Us ⋯ ⋯ ⋯ ⋯,_,rfl,_,rfl,(·∉A'.fp),q,l2,ls,mayS S s.ms,nu,s,n,p,rfl,Sq3,s3 _ _ h3,il4,SA1.newOk l2 f3,fun x hx=>SA1.newOk x (fl3 x hx),SA3.newOk,mo,ho,hgp,hun,FP,by omega,fun q' st e w' H4 ShA CR s4 fq=>?_⟩;have SA4:=SA3.same s4;obtain⟨⟨dx4,v4,a41,a42⟩,_⟩:=id SA4;refine⟨_,rfl,A'.p,a.zle,dx4,_,rfl,a41,T.zlf,T.zma,(by show 8<1000;decide),?_⟩;obtain⟨SA5,f5,Sh5⟩:=SA4.newSheet a41 ShA;generalize upd H4 A'.p (.ins a.zle dx4 (putF "sheet" (.ref q') (seaF A' S.len S.rest v4)))=H5 at SA5 f5 Sh5;have fr5:FrS A' H H5:=(FrS.of A' (s13.trans s4)).trans f5;obtain⟨⟨dx5,v5,a51,a52⟩,_⟩:=id SA5;obtain⟨q5,rfl,Sq5⟩:=a52;obtain⟨dxq5,m51,m52,m53,m54,hq5⟩:=ShAt.ins Sq5;refine⟨_,rfl,A'.p,a.zle,dx5,_,_,rfl,a51,T.zlf,T.zma,Wu,q5,dxq5,_,rfl,hq5,Us ⋯ ⋯ ⋯ ⋯,(·∉A'.fp),q5,_,rfl,Sq5,by show (s.gaps++[(n,st)]).length<=1000;rw[zs8];show s.gaps.length+1<=1000;omega,fun l us H6 hl gl s6 fl=>?_⟩;obtain⟨vs',t,l',us',rfl,ht,hl',tl',ok',_⟩:=Wg.unsnoc gl;refine⟨_,rfl,_,rfl,l,_,_,_,rfl,rfl,SqL.of hl,atI_last,t,_,_,_,rfl,rfl,SqT.of ht,rfl,?_⟩;exact h3' l' us' st e w' H6 hl' tl' CR (SA5.same s6) (fr5.trans (FrS.of A' s6)) (fr5.free SA5 ok')
abbrev Sb:Stmt:=Z0 (top 58) 13
theorem Q6:Zk ["self","sheet"] ["self"] (Zi Sb):=fnS
theorem Jc(F:Fun K "close" "Season.close" Sb f fd)(T:Tx K mg a)(zlt:Zt P w K mg base a.zle "check_not_over" 3 ["self"] (Ll (ca a)))(zlk:Zt P w K mg base a.zle "sheet_at_hand" 1 ["self"] (Qi (ca a)))(znw:Zt P w K mg base a.zli "write" 1 ["self","rows"] (Bd a.zli))(zor:Zt P w K mg base a.zlg "rows" 1 ["self"] (Bh (ca a)))(zll:Zt P w K mg base a.zli "over" 1 ["self"] (Le a.zli)):FnOk P w K mg base (CX1 P w) 4 f fd ["self"] (zbm (ca a)):=by
 refine F.okX Q6 ⋯ fun _ _ _ _ H _ Q E hr h=>?_;obtain⟨A',S,rfl,SA,ht,hl,hol,hcur,h⟩:=h;refine⟨_,(Zb (Z2 (Yr (pv 0) T.zlf zlt (hr.mono ⋯) Zj))
 (Zb (pS 1 Q6.nd (Yr (pv 0) T.zlf zlk (hr.mono ⋯) Zj))
 (Zb (Z2 (Y1 (Zr (K:=K) rfl (pv 0) rfl) T.zmb znw (hr.mono ⋯) Zj (Za (Yr (pv 1) T.zln zor (hr.mono ⋯) Zj) Zc)))
 (Zb (Yo (Zr (K:=K) rfl (pv 0) rfl) (pv 1))
 (Zb (Y6 (K:=K) rfl (pv 0) Y3 rfl)
 (Zb (Y6 (K:=K) rfl (pv 0) (Yl Zc) rfl)
 (Zd (Zl (Yr (Zr (K:=K) rfl (pv 0) rfl) T.zmb zll (hr.mono ⋯) Zj))))))))),?_⟩
 obtain⟨⟨dx,v,a1,a2⟩,br,cl,_⟩:=id SA;obtain⟨⟨dxl,hpl⟩,_⟩:=id cl;refine⟨_,rfl,A'.p,dx,_,rfl,a1,Yb ⋯,A',S,rfl,SA,?_⟩;refine it2 h (fun _ z=>z) fun h1 h=>?_;refine⟨_,rfl,A'.p,dx,_,rfl,a1,Yb ⋯,A',S,rfl,SA,h.1,fun s q hc Sq=>?_⟩;obtain⟨ho,hgl,hml⟩:=hcur s hc;obtain⟨dxq,m1,m2,m3,m4,hq⟩:=ShAt.ins Sq;refine⟨_,rfl,A'.p,a.zle,dx,_,_,rfl,a1,T.zlf,T.zm3,Tj,A'.pl,dxl,_,rfl,hpl,J1 ⋯ ⋯,_,rfl,q,dxq,_,rfl,hq,Us ⋯ ⋯ ⋯ ⋯,(·∉A'.fp),q,s,rfl,Sq,ho,hgl,hml,fun l1 ts H1 hl1 tl s1 f1=>?_⟩;have SA1:=SA.same s1;have ok1:l1∉A'.fp:=SA.newOk l1 f1;refine⟨A'.pl,A'.lr,A'.ld,S.led,l1,ts,Xz s,rfl,SA1.led,hl1,fun z=>ok1 (by rw[z];simp[SAd.fp]),tl,by rw[Bi hgl];omega,hl,fun H2 L2' k2=>?_⟩;obtain⟨SA2,f2⟩:=SA1.setLed L2' k2;obtain⟨⟨dx2,v2,a21,a22⟩,br2,cl2,d2,⟨vs,f21,f22⟩,_⟩:=id SA2;have Sq2:=(Sq.same s1).keep (fun x o hx e=>f2 x o e hx) (SA1.tups f2);refine⟨_,rfl,A'.p,a.zle,dx2,_,_,rfl,a21,T.zlf,T.zoz,F6,A'.ls,vs,rfl,f21,_,rfl,vs,f21,by have:=f22.length;have h9:vs.length=S.old.length:=this;have:=Rv;omega,?_⟩;have k3:∀ b o,H2 b=some o->b≠A'.ls->upd H2 A'.ls (.lst (vs++[.ref q])) b=some o:=fun b o e hb=>by rw[Zh hb];exact e
 have kt3:∀ t xs,H2 t=some (.tup xs)->upd H2 A'.ls (.lst (vs++[.ref q])) t=some (.tup xs):=fun t xs e=>k3 t _ e (Xm e f21 (fun z=>nomatch z));have ko3:∀ x o,x∉A'.fp->H2 x=some o->upd H2 A'.ls (.lst (vs++[.ref q])) x=some o:=fun x o hx e=>k3 x o e fun z=>hx (by rw[z];simp[SAd.fp]);obtain⟨SA3,f3⟩:=SA2.setOld (old:=S.old++[s]) Ze ((f22.keep ko3 kt3).snoc (Sq2.keep ko3 kt3)) k3;generalize upd H2 A'.ls (.lst (vs++[.ref q]))=H3 at SA3 f3;obtain⟨⟨dx3,v3,a31,a32⟩,_⟩:=id SA3;refine⟨_,rfl,A'.p,a.zle,dx3,_,rfl,a31,T.zlf,T.zma,(by show 8<1000;decide),?_⟩;obtain⟨SA4,f4⟩:=SA3.setCur (H':=upd H3 A'.p (.ins a.zle dx3 (putF "sheet" .non (seaF A' S.len S.rest v3)))) (cur:=none) (v:=.non) ⟨dx3,by rw[Ze];exact congrArg (fun x=>some (HO.ins a.zle dx3 x)) Nn⟩ rfl (fun b o e hb=>by rw[Zh hb];exact e);generalize upd H3 A'.p (.ins a.zle dx3 (putF "sheet" .non (seaF A' S.len S.rest v3)))=H4 at SA4 f4;obtain⟨⟨dx4,v4,a41,a42⟩,_⟩:=id SA4;refine⟨by show 0<=sizeLine;decide,fun x hx=>?_⟩;have npx:A'.p≠x:=Zg a41 hx;refine⟨_,rfl,A'.p,a.zle,dx4,_,rfl,(by rw[Zh npx];exact a41),T.zlf,T.zmq,(by show 8<1000;decide),?_⟩;obtain⟨SA5,f5⟩:=SA4.freshStd hx a41 a42 rfl;have fr4:FrS A' H H4:=(FrS.of A' s1).trans (f2.trans (f3.trans f4));have fx:H x=none:=fr4.free SA4 hx;generalize upd (upd H4 x (.lst [])) A'.p (.ins a.zle dx4 (putF "standing" (.ref x) (seaF A' S.len S.rest v4)))=H5 at SA5 f5;have SA5:Zv (ca a) H5 { A' with lt:=x } (Mj S s):=SA5;obtain⟨⟨dx5,v5,a51,a52⟩,br5,cl5,_⟩:=id SA5;obtain⟨⟨dxl5,hpl5⟩,_⟩:=id cl5;refine⟨_,rfl,A'.p,a.zle,dx5,_,_,rfl,a51,T.zlf,T.zm3,Tj,A'.pl,dxl5,_,rfl,hpl5,J1 ⋯ ⋯,A'.pl,A'.lr,A'.ld,S.led++[Xz s],rfl,cl5,?_⟩;have hfin:=h.2 s x H5 hc SA5 (fr4.trans f5) fx;have e:(((S.led++[Xz s]).length:Nat):Int)=atV S:=by rw[zs8];rfl
 rw[e];exact hfin
abbrev Vu:Stmt:=Z0 (top 58) 14
theorem Ve:Zk ["self","last","deed"] ["self"] (Zi Vu):=fnS
theorem O0(F:Fun K "take_back" "Season.take_back" Vu f fd)(T:Tx K mg a)(zni:Zt P w K mg base a.zlj "strike" 1 ["self","number"] (C9 (ca a))):FnOk P w K mg base (CX1 P w) 2 f fd ["self"] (spF (Io (ca a))):=by
 refine FnOk.frame ?_;refine F.okX Ve ⋯ fun _ _ _ _ H _ Q E hr h=>?_;obtain⟨A',S,rfl,SA,h1,h2⟩:=h;have hu:=Vg hr;refine⟨_,(Zb (Zx (Yj (Fn (K:=K) rfl (Zr (K:=K) rfl (pv 0) rfl) (fun _=>rfl)))
  (Zd (Xe Xd rfl T.zpd rfl (Za Up Zc)))
  Zn)
 (Zb (pS 1 Ve.nd (Aq PySem.F.plainAttrs_list PySem.F.slot_list_pop PySem.F.type_list_pop zdt (Zr (K:=K) rfl (pv 0) rfl)))
 (Zb (pS 2 Ve.nd (pI (iU K) (pv 1) Zf))
 (Zb (Y6 (K:=K) rfl (pv 0) (pI (iU K) (pv 1) Zf) rfl)
 (Zb (Zx (Zp X8 (pI (iU K) (pv 2) Zf) Up (Zq _))
  (Zd (Z2 (Y1 (Zr (K:=K) rfl (pv 0) rfl) T.zl2 zni (hr.mono ⋯) Zj (Za (pI (iU K) (pv 2) Zf) Zc))))
  Zn)
 (Zb (Zx (Zp X8 (pI (iU K) (pv 2) Zf) Up (Zq _))
  (Zd (Z2 (zer hu (Zr (K:=K) rfl (pv 0) rfl) (Xg (Za (pI (iU K) (pv 2) Zf) (Za (pI (iU K) (pv 2) Zf) Zc))) ⟨rfl,rfl,rfl,rfl⟩)))
  Zn)
 (Zd (Zl (pv 2))))))))),?_⟩
 show let y1:TS:=_;let y2:TS:=Zw _ y1;let y3:TS:=Zw _ y2;let y4:TS:=Zw _ y3;let y5:TS:=Zw _ y4;let y6:TS:=Zw _ y5;Zw _ y6 _ _ _;intro y1 y2 y3 y4 y5 y6;obtain⟨⟨dx,v,a1,a2⟩,br,cl,d0,f0,⟨us,g1,g2⟩,_⟩:=id SA;refine⟨_,rfl,A'.p,a.zle,dx,_,_,rfl,a1,T.zlf,T.zmq,Sr,_,.inl ⟨_,SqL.of g1,rfl⟩,?_⟩;have hul:=g2.length;rcases List.eq_nil_or_concat S.std with hn|⟨std',⟨d,s⟩,he⟩
 ·rw[hn] at hul;have hu0:us=[]:=List.length_eq_zero_iff.mp hul;rw[hu0];exact iteT ⟨sz1,h1 hn⟩
 have he:S.std=std'++[(d,s)]:=by rw[he,List.concat_eq_append]
 rw[he] at g2;obtain⟨vs',t,u,v',rfl,ht,hu',hs,g3⟩:=Sz.unsnoc g2;have hne:(vs'++[V.ref t]).isEmpty=false:=by cases vs'<;>rfl
 rw[hne];refine iteF (Zz ?_);obtain⟨ppl,out,hbk,hfin⟩:=h2 std' d s he;refine⟨_,rfl,A'.p,a.zle,dx,_,_,rfl,a1,T.zlf,T.zmq,Sr,.inl ⟨rfl,_,SqL.of g1⟩,A'.lt,_,V.ref t,rfl,rfl,g1,by simp,?_⟩;rw[List.dropLast_concat];have k1:∀ b o,H b=some o->b≠A'.lt->upd H A'.lt (.lst vs') b=some o:=fun b o e hb=>by rw[Zh hb];exact e
 have kt1:∀ t xs,H t=some (.tup xs)->upd H A'.lt (.lst vs') t=some (.tup xs):=fun t xs e=>k1 t _ e (Xm e g1 (fun z=>nomatch z));have ko1:∀ x o,x∉A'.fp->H x=some o->upd H A'.lt (.lst vs') x=some o:=fun x o hx e=>k1 x o e fun z=>hx (by rw[z];simp[SAd.fp]);obtain⟨SA1,f1⟩:=SA.setStd (std:=std') Ze (g3.keep ko1 kt1) k1;have ht1:=kt1 _ _ ht;have hu1:=kt1 _ _ hu';have hs1:=hs.keep ko1 kt1;generalize upd H A'.lt (.lst vs')=H1 at SA1 f1 ht1 hu1 hs1;refine⟨_,rfl,t,_,_,_,rfl,rfl,SqT.of ht1,rfl,?_⟩;obtain⟨⟨dx1,v1,a11,a12⟩,_⟩:=id SA1;refine⟨_,rfl,t,_,_,_,rfl,rfl,SqT.of ht1,rfl,_,rfl,A'.p,a.zle,dx1,_,rfl,a11,T.zlf,T.zma,(by show 8<1000;decide),?_⟩;have k2:∀ b o,H1 b=some o->b≠A'.p->upd H1 A'.p (.ins a.zle dx1 (putF "sheet" v' (seaF A' S.len S.rest v1))) b=some o:=fun b o e hb=>by rw[Zh hb];exact e
 have kt2:∀ t xs,H1 t=some (.tup xs)->upd H1 A'.p (.ins a.zle dx1 (putF "sheet" v' (seaF A' S.len S.rest v1))) t=some (.tup xs):=fun t xs e=>k2 t _ e (Xm e a11 (fun z=>nomatch z));obtain⟨SA2,f2⟩:=SA1.setCur (cur:=s) (v:=v') ⟨dx1,by rw[Ze];exact congrArg (fun x=>some (HO.ins a.zle dx1 x)) Nn⟩ (hs1.keep (fun x o hx e=>k2 x o e fun z=>hx (by rw[z];simp[SAd.fp])) kt2) k2;have hu2:=kt2 _ _ hu1;generalize upd H1 A'.p (.ins a.zle dx1 (putF "sheet" v' (seaF A' S.len S.rest v1)))=H2 at SA2 f2 hu2;have fr2:=f1.trans f2;have d0:atI (Q3 d) 0=some (.str d.1):=rfl;have d1:atI (Q3 d) 1=some (.int d.2.1):=rfl;have d2:atI (Q3 d) 2=some (.int d.2.2):=rfl;have es:∀ w:Str,decide (V.str d.1=V.str w)=decide (d.1=w):=fun w=>by
  by_cases z:d.1=w
  ·rw[zta z,zta (congrArg V.str z)]
  ·rw[ztd z,ztd (fun q=>z (V.str.inj q))]
 walk_at "if";refine Wk ?_;refine⟨_,rfl,u,_,_,_,rfl,rfl,SqT.of hu2,d0,rfl,_,rfl,?_⟩;rw[es];obtain⟨⟨dx2,v2,a21,a22⟩,br2,cl2,⟨kvs2,e21,e22⟩,_⟩:=id SA2;have n1:¬ (("enrol":Str)="away"):=by decide +kernel
 have n2:¬ (("draw up":Str)="away"):=by decide +kernel
 have n3:¬ (("draw up":Str)="enrol"):=by decide +kernel
 have n4:¬ (("away":Str)="enrol"):=by decide +kernel
 rcases hbk with ⟨hd,⟨g,c0,hp⟩,ho⟩|⟨hd,hp,ho,hno⟩|⟨hd,hp,ho⟩
 ·rw[zta hd];refine iteT ?_;obtain⟨⟨dxr,kvr,hpr,hdr,en⟩,ndr⟩:=id br2;refine⟨_,rfl,A'.p,a.zle,dx2,_,_,rfl,a21,T.zlf,T.zmx,Ut,A'.pr,dxr,_,rfl,hpr,Xj.no ⋯,_,rfl,u,_,_,_,rfl,rfl,SqT.of hu2,d1,A'.pr,A'.dr,ppl,d.2.1,g,c0,rfl,(show Xj a.zlj H2 A'.pr A'.dr (ppl++[(d.2.1,g,c0)]) by have:Xj a.zlj H2 A'.pr A'.dr S.ppl:=br2;rw[hp] at this;exact this),fun H3 R3 k3=>?_⟩;obtain⟨SA3,f3⟩:=SA2.setRos R3 k3;have hu3:=SA2.tups f3 _ _ hu2;refine⟨_,rfl,u,_,_,_,rfl,rfl,SqT.of hu3,d0,rfl,_,rfl,?_⟩;rw[es,ztd (by rw[hd];exact n1)];refine iteF (Zz ⟨_,rfl,?_⟩);refine hfin u H3 hu3 ?_ (fr2.trans f3);rw[ho];exact SA3
 ·rw[ztd (by rw[hd];exact n4)];refine iteF (Zz ?_);refine⟨_,rfl,u,_,_,_,rfl,rfl,SqT.of hu2,d0,rfl,_,rfl,?_⟩;rw[es,zta hd];refine iteT ?_;refine⟨_,rfl,A'.p,a.zle,dx2,_,_,rfl,a21,T.zlf,T.zn4,Oo,A'.da,rfl,.inr ⟨kvs2,.inl e21⟩,_,rfl,u,_,_,_,rfl,rfl,SqT.of hu2,d2,_,rfl,u,_,_,_,rfl,rfl,SqT.of hu2,d1,sz2,fun tk htk=>?_⟩;refine al (upd _ tk _) htk rfl fun H3 TH3 s3=>?_;have q3:H3 tk=some (.tup (([inl d.2.2,inl d.2.1]:List Key).map kV)):=TH3;have SA3:=SA2.same s3;have e22:Pr kvs2 S.out:=e22;rw[ho] at e22;have hv:∃ vv,valV kvs2 [inl d.2.2,inl d.2.1]=some vv:=zuw.mp (by rw[e22.1,zta (by simp)]);obtain⟨vv,hv⟩:=hv;refine⟨kvs2,[inl d.2.2,inl d.2.1],tk,vv,s3 _ _ e21,rfl,q3,hv,?_⟩;obtain⟨SA4,f4⟩:=SA3.setOut (out:=out) Ze (e22.drop hno) (fun b o e hb=>by rw[Zh hb];exact e);have hu4:=SA3.tups f4 _ _ (s3 _ _ hu2);refine⟨_,rfl,hfin u _ hu4 ?_ (fr2.trans ((FrS.of A' s3).trans f4))⟩;rw[hp];exact SA4
 ·rw[ztd (by rw[hd];exact n3)];refine iteF (Zz ?_);refine⟨_,rfl,u,_,_,_,rfl,rfl,SqT.of hu2,d0,rfl,_,rfl,?_⟩;rw[es,ztd (by rw[hd];exact n2)];refine iteF (Zz ⟨_,rfl,hfin u H2 hu2 ?_ fr2⟩);rw[hp,ho];exact SA2
abbrev U0:Stmt:=Z0 (top 58) 15
theorem Mv:Zk ["self"] ["self"] (Zi U0):=fnS
theorem Mw(F:Fun K "at_hand" "Season.at_hand" U0 f fd)(T:Tx K mg a)(zll:Zt P w K mg base a.zli "over" 1 ["self"] (Le a.zli)):FnOk P w K mg base (CX1 P w) 2 f fd ["self"] (Tz (ca a)):=by
 refine F.okX Mv ⋯ fun _ _ _ _ H _ Q E hr h=>?_;obtain⟨A',S,rfl,SA,h⟩:=h;refine⟨_,(Zd (Zl (Zu Yk (Yr (Zr (K:=K) rfl (pv 0) rfl) T.zmb zll (hr.mono ⋯) Zj) Zf))),?_⟩;obtain⟨⟨dx,v,a1,a2⟩,b,c,_⟩:=id SA;obtain⟨⟨dxl,hpl⟩,_⟩:=id c;refine⟨_,rfl,A'.p,a.zle,dx,_,_,rfl,a1,T.zlf,T.zm3,Tj,A'.pl,dxl,_,rfl,hpl,J1 ⋯ ⋯,A'.pl,A'.lr,A'.ld,S.led,rfl,c,_,_,rfl,rfl,?_⟩;exact h
abbrev Rj:Stmt:=Z0 (top 58) 21
theorem Hq:Zk ["self","at"] ["self","at"] (Zi Rj):=fnS
theorem Hr(F:Fun K "goes" "Season.goes" Rj f fd)(T:Tx K mg a)(zls:Zt P w K mg base a.zle "sheet_of" 3 ["self","at"] (Oq (ca a)))(zmt:Zt P w K mg base a.zlg "goes" 1 ["self"] (Ii (ca a))):FnOk P w K mg base (CX1 P w) 4 f fd ["self","at"] (Dj (ca a)):=by
 refine F.okX Hq ⋯ fun _ _ _ _ H _ Q E hr h=>?_;obtain⟨A',S,i,rfl,SA,hr0⟩:=h;refine⟨_,(Zd (Zl (Yr (Y1 (pv 0) T.zlf zls (hr.mono ⋯) Zj (Za (pv 1) Zc)) T.zln zmt (hr.mono ⋯) Zj))),?_⟩;obtain⟨si,hol,h⟩:=hr0;obtain⟨⟨dx,v,a1,a2⟩,_⟩:=id SA;refine⟨_,rfl,A'.p,dx,_,rfl,a1,Yb ⋯,_,rfl,A',S,i,rfl,SA,si,hol,it2 h (fun _ z=>z) fun hn h=>⟨h.1,fun s q hs Sq=>?_⟩⟩;obtain⟨dxq,m1,m2,m3,m4,hq⟩:=ShAt.ins Sq;exact⟨q,dxq,_,rfl,hq,Us ⋯ ⋯ ⋯ ⋯,(·∉A'.fp),q,s,rfl,Sq,fun l H' a b c=>h.2 s hs l H' a b c⟩
abbrev Qs:Stmt:=Z0 (top 58) 24
theorem G4:Zk ["self","at"] ["self","at"] (Zi Qs):=fnS
theorem G5(F:Fun K "why" "Season.why" Qs f fd)(T:Tx K mg a)(zls:Zt P w K mg base a.zle "sheet_of" 3 ["self","at"] (Oq (ca a)))(zo0:Zt P w K mg base a.zlg "why" 3 ["self"] (zbi (ca a))):FnOk P w K mg base (CX1 P w) 4 f fd ["self","at"] (zgq (ca a)):=by
 refine F.okX G4 ⋯ fun _ _ _ _ H _ Q E hr h=>?_;obtain⟨A',S,i,rfl,SA,hr0⟩:=h;refine⟨_,(Zd (Zl (Yr (Y1 (pv 0) T.zlf zls (hr.mono ⋯) Zj (Za (pv 1) Zc)) T.zln zo0 (hr.mono ⋯) Zj))),?_⟩;obtain⟨si,hol,h⟩:=hr0;obtain⟨⟨dx,v,a1,a2⟩,_⟩:=id SA;refine⟨_,rfl,A'.p,dx,_,rfl,a1,Yb ⋯,_,rfl,A',S,i,rfl,SA,si,hol,it2 h (fun _ z=>z) fun hn h=>⟨h.1,fun s q hs Sq=>?_⟩⟩;obtain⟨dxq,m1,m2,m3,m4,hq⟩:=ShAt.ins Sq;obtain⟨⟨nu,k0⟩,k1,k2,k3⟩:=h.2 s hs;exact⟨q,dxq,_,rfl,hq,Us ⋯ ⋯ ⋯ ⋯,(·∉A'.fp),q,s,nu,rfl,Sq,k0,k1,k2,fun t lp lr ps rs H'=>k3 t lp lr ps rs H'⟩
abbrev Te:Stmt:=Z0 (top 58) 25
theorem L6:Zk ["self","at"] ["self","at"] (Zi Te):=fnS
theorem L7(F:Fun K "chains" "Season.chains" Te f fd)(T:Tx K mg a)(zls:Zt P w K mg base a.zle "sheet_of" 3 ["self","at"] (Oq (ca a)))(zmg:Zt P w K mg base a.zlg "chains" 1 ["self"] (Nl (ca a))):FnOk P w K mg base (CX1 P w) 4 f fd ["self","at"] (Bp (ca a)):=by
 refine F.okX L6 ⋯ fun _ _ _ _ H _ Q E hr h=>?_;obtain⟨A',S,i,rfl,SA,hr0⟩:=h;refine⟨_,(Zd (Zl (Yr (Y1 (pv 0) T.zlf zls (hr.mono ⋯) Zj (Za (pv 1) Zc)) T.zln zmg (hr.mono ⋯) Zj))),?_⟩;obtain⟨si,hol,h⟩:=hr0;obtain⟨⟨dx,v,a1,a2⟩,_⟩:=id SA;refine⟨_,rfl,A'.p,dx,_,rfl,a1,Yb ⋯,_,rfl,A',S,i,rfl,SA,si,hol,it2 h (fun _ z=>z) fun hn h=>⟨h.1,fun s q hs Sq=>?_⟩⟩;obtain⟨dxq,m1,m2,m3,m4,hq⟩:=ShAt.ins Sq;obtain⟨k1,k3⟩:=h.2 s hs;exact⟨q,dxq,_,rfl,hq,Us ⋯ ⋯ ⋯ ⋯,(·∉A'.fp),q,s,rfl,Sq,k1,fun l ts H' a b c d=>k3 l ts H' a b c d⟩
abbrev Qt:Stmt:=Z0 (top 58) 26
theorem G6:Zk ["self","place"] ["self","place"] (Zi Qt):=fnS
theorem G7(F:Fun K "may" "Season.may" Qt f fd)(T:Tx K mg a)(zlk:Zt P w K mg base a.zle "sheet_at_hand" 1 ["self"] (Qi (ca a)))(zo1:Zt P w K mg base a.zlg "may" 2 ["self","place"] (zbj (ca a))):FnOk P w K mg base (CX1 P w) 3 f fd ["self","place"] (zgr (ca a)):=by
 refine F.okX G6 ⋯ fun _ _ _ _ H _ Q E hr h=>?_;obtain⟨A',S,i,rfl,SA,si,h1,h2⟩:=h;refine⟨_,(Zd (Zl (Y1 (Yr (pv 0) T.zlf zlk (hr.mono ⋯) Zj) T.zln zo1 (hr.mono ⋯) Zj (Za (pv 1) Zc)))),?_⟩;obtain⟨⟨dx,v,a1,a2⟩,_⟩:=id SA;refine⟨_,rfl,A'.p,dx,_,rfl,a1,Yb ⋯,A',S,rfl,SA,h1,fun s q hs Sq=>?_⟩;obtain⟨dxq,m1,m2,m3,m4,hq⟩:=ShAt.ins Sq;obtain⟨k1,k2,k3⟩:=h2 s hs;exact⟨q,dxq,_,rfl,hq,Us ⋯ ⋯ ⋯ ⋯,_,rfl,(·∉A'.fp),q,s,i,rfl,Sq,si,k1,k2,fun k r e1 e2 l H' a b c=>k3 k r e1 e2 l H' a b c⟩
abbrev Ob:Stmt:=top 60
theorem Dw:Zk ["_law_found"] ["_law_found"] (Zi Ob):=fnS
theorem Dz(F:Fun K "_law_whole" "_law_whole" Ob f fd)(T:Tx K mg a):FnOk P w K mg base (CX1 P w) 1 f fd ["_law_found"] N9:=by
 refine F.okX Dw ⋯ fun _ _ _ _ H _ Q E hr h=>?_;obtain⟨i,rfl,h⟩:=h;refine⟨_,(Zd (Zl (Sx (Zm (Xh (K:=K) rfl) (by rfl) T.zlp PyProof.Rows.boot_isinstance (Za (pv 0) (Za (W7 rfl T.zqv PyProof.Rows.boot_int (show RelV (.ty "int") _ from rfl)) Zc))) (U8 (zg2 (Zm (Xh (K:=K) rfl) (by rfl) T.zlp PyProof.Rows.boot_isinstance (Za (pv 0) (Za (W7 rfl T.zqt PyProof.Rows.boot_bool (show RelV (.ty "bool") _ from rfl)) Zc)))))))),?_⟩;refine⟨_,rfl,_,_,_,_,rfl,.of (.int i),.inl ⟨_,rfl⟩,zhs K,_,rfl,?_⟩;refine iteT ?_;exact⟨_,rfl,_,_,_,_,rfl,.of (.int i),.inl ⟨_,rfl⟩,zht K,_,rfl,h⟩
abbrev Hu:Stmt:=top 61
theorem zc5:Zk ["_law_script","_law_k"] ["_law_script","_law_k"] (Zi Hu):=fnS
theorem zc6(F:Fun K "_law_at" "_law_at" Hu f fd)(T:Tx K mg a):FnOk P w K mg base (CX1 P w) 1 f fd ["_law_script","_law_k"] (zhu K):=by
 refine F.okX zc5 ⋯ fun _ _ _ _ H _ Q E hr h=>?_;obtain⟨b,ns,k,rfl,hs,h⟩:=h;refine⟨_,(Zb (Zx (Zp Kd (pv 1) (Zm (cL K) (by rfl) T.zlq PySem.boot_len (Za (pv 0) Zc)) (Zq _))
  (Zd (Zl (pI (iL K) (pv 0) (pv 1))))
  Zn)
 (Zd (Zl Zf))),?_⟩
 refine⟨_,rfl,_,rfl,b,_,rfl,.inl hs,_,_,rfl,rfl,_,rfl,?_⟩;rw[zs4];refine itD (fun hk=>?_) (fun hk=>?_)
 ·have hk':k<ns.length:=by omega
  refine⟨_,rfl,_,rfl,b,_,_,_,rfl,rfl,hs,Zs (show (ns.map V.int)[k]?=some (.int (Z7 ns k)) from ?_),h⟩;unfold Z7;rw[zs7,zs5 hk'];rfl
 ·have e:Z7 ns k=0:=by unfold Z7;rw[zup ⋯];rfl
  rw[e] at h;exact h
abbrev L8:Stmt:=top 62
theorem Vv:Zk ["_law_cell","_law_many","_law_base","_law_mixed","_law_out","_law_rest","_law_k"] ["_law_cell","_law_many","_law_base","_law_mixed"] (Zi L8):=fnS
theorem zai(F:Fun K "_law_row" "_law_row" L8 f fd)(T:Tx K mg a):FnOk P w K mg base (CX1 P w) 1 f fd ["_law_cell","_law_many","_law_base","_law_mixed"] zgo:=by
 refine F.okX Vv ⋯ fun _ _ _ _ H _ Q E hr h=>?_;obtain⟨c,many,bs,mixed,rfl,hm,hb0,hb1,h⟩:=h;refine⟨_,(Zb (pS 4 Vv.nd (Yl Zc))
 (Zb (pS 5 Vv.nd (pv 0))
 (Zb (Yf PassesOwn.leaving rfl (Yd rfl T.zlw (Za (pv 1) Zc)) (pN 6 Vv.nd)
  (Zd (Zx (Ye (pv 3))
   (Zb (pS 5 Vv.nd (Zu Y9 (Zu Yk (Zu Yk (Zu Tn (pv 5) Zf) (pv 6)) Zf) Zf))
   (Zb (pS 5 Vv.nd (Zu Y9 (Zu Yk (Zu Tn (pv 5) Zf) (Zu Tn Zf (pv 6))) Zf))
   (Zd (Yo (pv 4) (Zu Y9 (Zu Wn (pv 5) Zf) (pv 2))))))
   (Zb (Yo (pv 4) (Zu Y9 (pv 5) (pv 2)))
   (Zd (pS 5 Vv.nd (Zu Wn (pv 5) (pv 2))))))))
 (Zd (Zl (pv 4)))))),?_⟩
 show let y1:TS:=_;let y2:TS:=Zw _ y1;let y3:TS:=_;let y4:TS:=Zw (Ek _ _ (Ac _ (Zw _ y2) _)) y3;let y5:TS:=Zw _ y4;Zw _ y5 _ _ _;intro y1 y2 y3 y4 y5;refine⟨by show 0<=sizeLine;decide,fun lo hlo=>?_⟩;refine al (upd _ lo _) hlo rfl fun H1 TH1 s0=>?_;have q0:H1 lo=some (.lst (([]:List Int).map V.int)):=TH1;walk_at "rd";refine⟨by omega,by omega,?_⟩;rw[ztl]
 let jv1:Nat->L2.St->Hp->Prop:=fun i σ H'=>∃ (rest:Int) (xs:List Int) (v6:Option V),σ=[some (.int c),some (.int many),some (.int bs),some (.bl mixed),some (.ref lo),some (.int rest),v6]/\Same H H'/\H' lo=some (.lst (xs.map V.int))/\xs.length=i/\∀ x∈xs,0<=x/\x<bs
 refine Ym jv1 ⟨_,[],_,rfl,s0,q0,rfl,by simp⟩ ?_ ?_
 ·rintro i σ H' hi ⟨rest,xs,v6,rfl,sm,hl,hx,hbx⟩;have snoc:∀ z:Int,∀ x∈xs++[z%bs],0<=x/\x<bs:=fun z x hx=>by
   rcases ztg.mp hx with q|q
   ·exact hbx x q
   ·rw[zs9.mp q];exact⟨Int.emod_nonneg _ ⋯,zvf _ hb0⟩
  have e:∀ z:Int,xs.map V.int++[V.int (z%bs)]=(xs++[z%bs]).map V.int:=fun z=>by rw[zti];rfl
  refine⟨_,rfl,_,rfl,?_⟩;refine itB (fun _=>?_) (fun _=>?_)
  ·walk_at "rd";refine⟨lo,_,rfl,hl,_,rfl,_,_,rfl,rfl,⟨by decide,by decide⟩,_,rfl,_,_,rfl,rfl,hb0,_,hl,Yn (by rw[zs4];omega),?_⟩;refine⟨_,xs++[_%bs],_,rfl,Z8 hlo sm,by rw[Ze];exact congrArg some (congrArg HO.lst (e _)),by rw[zs8,hx];rfl,snoc _⟩
  ·refine⟨_,rfl,lo,_,rfl,hl,_,rfl,_,rfl,_,_,rfl,rfl,hb0,_,hl,Yn (by rw[zs4];omega),?_⟩;refine⟨_,rfl,_,rfl,_,_,rfl,rfl,⟨hb0,by omega⟩,?_⟩;refine⟨_,xs++[_%bs],_,rfl,Z8 hlo sm,by rw[Ze];exact congrArg some (congrArg HO.lst (e _)),by rw[zs8,hx];rfl,snoc _⟩
 ·rintro σ H' ⟨rest,xs,v6,rfl,sm,hl,hx,hbx⟩;exact⟨_,rfl,h lo xs H' hl hx hbx sm hlo⟩
abbrev Ys:Stmt:=top 63
theorem Oc:Zk ["_law_cell","_law_many","_law_step"] ["_law_cell","_law_many"] (Zi Ys):=fnS
@[irreducible] noncomputable def Uh:List Expr:=zjw (zgb (Bs (Ml (Yt Ys) 0)))
@[irreducible] noncomputable def Od:Pos:=zjx (zgb (Bs (Ml (Yt Ys) 0)))
theorem L9:Yt Ys=[.Assign (zjt (Ml (Yt Ys) 0)) (.Subscript (.List Uh Od) (zju (Bs (Ml (Yt Ys) 0))) (zjv (Bs (Ml (Yt Ys) 0)))) (stP (Ml (Yt Ys) 0)),Ml (Yt Ys) 1]:=by unfold Uh Od;kernel_rfl
theorem Ka:zew Uh [1,2,5,10,100,500,998]:=by unfold Uh;exact⟨by kernel_rfl,by kernel_rfl⟩
theorem Hv(F:Fun K "_law_numbers" "_law_numbers" Ys f fd)(T:Tx K mg a):FnOk P w K mg base (CX1 P w) 1 f fd ["_law_cell","_law_many"] Nf:=by
 refine F.okX Oc ⋯ fun _ _ _ _ H _ Q E hr h=>?_;obtain⟨c,m,rfl,hm,h⟩:=h;rw[L9];refine⟨_,(Zb (pS 2 Oc.nd (pI (iL K) (Yl (zbn [1,2,5,10,100,500,998] Ka)) (Zu Y9 (pv 0) Zf)))
 (Zd (Zl (Wv rfl (cT ["_law_cell","_law_step"] [0,2]) (Yd rfl T.zlw (Za (pv 1) Zc)) (fun _ _ _ _ _=>W8) (fun _ _ _ _ _=>(Zu Yk Zf (Zu Y9 (Zu Yk (Zu Wn (pv 1) Zf) (Zu Tn (pv 2) (pv 0))) Zf))))))),?_⟩
 refine⟨by show 7<=sizeLine;decide,fun p0 hp0=>?_⟩;walk_at "rd";refine⟨p0,_,_,_,rfl,rfl,SqL.of Ze,Cu (xs:=[1,2,5,10,100,500,998]) ⋯ (by show c%7<7;omega),?_⟩;refine⟨_,rfl,_,rfl,by omega,by omega,Fm (fun j=>V.int (numS c j)) (by rw[ztl];exact ztk hm ⋯) (fun i R hi k=>?_) (fun p hp=>?_)⟩
 ·rw[ztl] at hi;walk_at "rd";refine⟨.inr ⟨by omega,by omega⟩,?_⟩;walk_at "rd";rw[zuc];exact k
 ·rw[ztl];refine h p _ ?_ ((Zo hp0).trans (Zo hp)) ((Zo hp0).free hp);rw[Ze];unfold O2;rw[zud];rfl
abbrev Xb:Stmt:=top 64
theorem Mx:Zk ["_law_cell","_law_many","_law_step"] ["_law_cell","_law_many"] (Zi Xb):=fnS
@[irreducible] noncomputable def Ti:List Expr:=zjw (zgb (Bs (Ml (Yt Xb) 0)))
@[irreducible] noncomputable def My:Pos:=zjx (zgb (Bs (Ml (Yt Xb) 0)))
theorem Hw:Yt Xb=[.Assign (zjt (Ml (Yt Xb) 0)) (.Subscript (.List Ti My) (zju (Bs (Ml (Yt Xb) 0))) (zjv (Bs (Ml (Yt Xb) 0)))) (stP (Ml (Yt Xb) 0)),Ml (Yt Xb) 1]:=by unfold Ti My;kernel_rfl
theorem Ga:zew Ti [1,2,5,10,50,97,98]:=by unfold Ti;exact⟨by kernel_rfl,by kernel_rfl⟩
theorem D1(F:Fun K "_law_clubs" "_law_clubs" Xb f fd)(T:Tx K mg a):FnOk P w K mg base (CX1 P w) 1 f fd ["_law_cell","_law_many"] za2:=by
 refine F.okX Mx ⋯ fun _ _ _ _ H _ Q E hr h=>?_;obtain⟨c,m,rfl,hm,h⟩:=h;rw[Hw];refine⟨_,(Zb (pS 2 Mx.nd (pI (iL K) (Yl (zbn [1,2,5,10,50,97,98] Ga)) (Zu Y9 (pv 0) Zf)))
 (Zd (Zl (Wv rfl (cT ["_law_cell","_law_step"] [0,2]) (Yd rfl T.zlw (Za (pv 1) Zc)) (fun _ _ _ _ _=>W8) (fun _ _ _ _ _=>(Zu Yk Zf (Zu Y9 (Zu Yk (Zu Wn (pv 1) Zf) (Zu Tn (pv 2) (pv 0))) Zf))))))),?_⟩
 refine⟨by show 7<=sizeLine;decide,fun p0 hp0=>?_⟩;walk_at "rd";refine⟨p0,_,_,_,rfl,rfl,SqL.of Ze,Cu (xs:=[1,2,5,10,50,97,98]) ⋯ (by show c%7<7;omega),?_⟩;refine⟨_,rfl,_,rfl,by omega,by omega,Fm (fun j=>V.int (Pl c j)) (by rw[ztl];exact ztk hm ⋯) (fun i R hi k=>?_) (fun p hp=>?_)⟩
 ·rw[ztl] at hi;walk_at "rd";refine⟨.inr ⟨by omega,by omega⟩,?_⟩;walk_at "rd";rw[zuc];exact k
 ·rw[ztl];refine h p _ ?_ ((Zo hp0).trans (Zo hp)) ((Zo hp0).free hp);rw[Ze];unfold zd1;rw[zud];rfl
abbrev Qu:Stmt:=top 65
theorem G8:Zk ["_law_found","_law_due"] ["_law_found","_law_due"] (Zi Qu):=fnS
theorem G9(F:Fun K "_law_one_is" "_law_one_is" Qu f fd)(T:Tx K mg a)(zl0:Z1 P w K mg base "_law_whole" 1 ["_law_found"] N9):FnOk P w K mg base (CX1 P w) 2 f fd ["_law_found","_law_due"] Ma:=by
 refine F.okX G8 ⋯ fun _ _ _ _ H _ Q E hr h=>?_;obtain⟨x,rfl,hx,h⟩:=h;refine⟨_,(Zd (Zl (Ca (Zp R9 (pv 1) Y3 (Zq _)) (Yx R9 (pv 0) Y3 (Zq _)) (Sx (pF zl0 hr (Za (pv 0) Zc)) (U8 (Yx X8 (pv 0) (pv 1) (Zq _))))))),?_⟩;rcases hx with rfl|⟨i,rfl⟩
 ·refine⟨_,rfl,rfl,_,rfl,?_⟩;refine iteT ?_;exact⟨_,rfl,rfl,h⟩
 ·refine⟨_,rfl,rfl,_,rfl,?_⟩;refine iteF ?_;refine⟨_,rfl,i,rfl,_,rfl,?_⟩;refine iteT ?_;refine⟨_,rfl,_,rfl,rfl,?_⟩;rw[zta rfl];exact h
abbrev Rk:Stmt:=top 66
theorem Oe:Zk ["_law_found","_law_due","_law_k"] ["_law_found","_law_due"] (Zi Rk):=fnS
theorem Gb(F:Fun K "_law_list_is" "_law_list_is" Rk f fd)(T:Tx K mg a)(zlv:Z1 P w K mg base "_law_one_is" 2 ["_law_found","_law_due"] Ma):FnOk P w K mg base (CX1 P w) 3 f fd ["_law_found","_law_due"] (Pm K):=by
 refine F.okX Oe ⋯ fun _ _ _ _ H _ Q E hr h=>?_;obtain⟨b,c,xs,rfl,hb,hc,ho,hl,h⟩:=h;refine⟨_,(Zb (Zx (PW.pt (We (Yj (Ye (Zm (Xh (K:=K) rfl) (by rfl) T.zlp PyProof.Rows.boot_isinstance (Za (pv 0) (Za (W7 rfl T.zmk PyProof.Rows.boot_list (show RelV (.ty "list") _ from rfl)) Zc))))) (Xn (Zp Qz (Zm (cL K) (by rfl) T.zlq PySem.boot_len (Za (pv 0) Zc)) (Zm (cL K) (by rfl) T.zlq PySem.boot_len (Za (pv 1) Zc)) (Zq _)))))
  (Zd (Zl Yp))
  Zn)
 (Zb (Yf PassesOwn.leaving rfl (Yd rfl T.zlw (Za (Zm (cL K) (by rfl) T.zlq PySem.boot_len (Za (pv 1) Zc)) Zc)) (pN 2 Oe.nd)
  (Zd (Zx (Yj (Ye (pF zlv hr (Za (pI (iL K) (pv 0) (pv 2)) (Za (pI (iL K) (pv 1) (pv 2)) Zc)))))
   (Zd (Zl Yp))
   Zn)))
 (Zd (Zl Yp)))),?_⟩
 refine⟨_,rfl,_,_,_,_,rfl,.of (.lst hb),.inl ⟨_,rfl⟩,Nd K,_,rfl,?_⟩;refine iteF ?_;refine⟨_,rfl,b,_,rfl,.inl (SqL.of hb),_,rfl,c,_,rfl,.inl hc,rfl,_,rfl,?_⟩;rw[zta rfl];refine iteF ?_;refine⟨_,rfl,c,_,rfl,.inl hc,_,rfl,by omega,by omega,Ym (fun i σ H'=>H'=H/\(∃ v,σ=[some (.ref b),some (.ref c),v])) ⟨rfl,⟨_,rfl⟩⟩ (fun i σ H' hi ⟨e,⟨v,hv⟩⟩=>?_) (fun σ H' ⟨e,⟨v,hv⟩⟩=>?_)⟩
 ·subst e hv;rw[ztl] at hi;have h1:xs[i]?=some (xs[i]'hi):=zs5 hi;rw[zuc];refine⟨_,rfl,_,rfl,b,_,_,_,rfl,rfl,SqL.of hb,Zs h1,_,rfl,_,rfl,c,_,_,_,rfl,rfl,hc,Zs h1,_,rfl,ho _ (ztw hi),_,rfl,?_⟩;exact iteF ⟨rfl,⟨_,rfl⟩⟩
 ·subst e hv;exact h
abbrev Se:Stmt:=top 67
theorem Q7:Zk ["_law_found","_law_due","_law_k"] ["_law_found","_law_due"] (Zi Se):=fnS
theorem Jd(F:Fun K "_law_tuple_is" "_law_tuple_is" Se f fd)(T:Tx K mg a)(zlv:Z1 P w K mg base "_law_one_is" 2 ["_law_found","_law_due"] Ma):FnOk P w K mg base (CX1 P w) 3 f fd ["_law_found","_law_due"] (Fo K):=by
 refine F.okX Q7 ⋯ fun _ _ _ _ H _ Q E hr h=>?_;obtain⟨b,c,xs,rfl,hb,hc,ho,hl,h⟩:=h;refine⟨_,(Zb (Zx (PW.pt (We (Yj (Ye (Zm (Xh (K:=K) rfl) (by rfl) T.zlp PyProof.Rows.boot_isinstance (Za (pv 0) (Za (W7 rfl T.zox PyProof.Rows.boot_tuple (show RelV (.ty "tuple") _ from rfl)) Zc))))) (Xn (Zp Qz (Zm (cL K) (by rfl) T.zlq PySem.boot_len (Za (pv 0) Zc)) (Zm (cL K) (by rfl) T.zlq PySem.boot_len (Za (pv 1) Zc)) (Zq _)))))
  (Zd (Zl Yp))
  Zn)
 (Zb (Yf PassesOwn.leaving rfl (Yd rfl T.zlw (Za (Zm (cL K) (by rfl) T.zlq PySem.boot_len (Za (pv 1) Zc)) Zc)) (pN 2 Q7.nd)
  (Zd (Zx (Yj (Ye (pF zlv hr (Za (pI (iU K) (pv 0) (pv 2)) (Za (pI (iU K) (pv 1) (pv 2)) Zc)))))
   (Zd (Zl Yp))
   Zn)))
 (Zd (Zl Yp)))),?_⟩
 refine⟨_,rfl,_,_,_,_,rfl,.of (.tup hb),.inl ⟨_,rfl⟩,Ez K,_,rfl,?_⟩;refine iteF ?_;refine⟨_,rfl,b,_,rfl,.inr (SqT.of hb),_,rfl,c,_,rfl,.inr hc,rfl,_,rfl,?_⟩;rw[zta rfl];refine iteF ?_;refine⟨_,rfl,c,_,rfl,.inr hc,_,rfl,by omega,by omega,Ym (fun i σ H'=>H'=H/\(∃ v,σ=[some (.ref b),some (.ref c),v])) ⟨rfl,⟨_,rfl⟩⟩ (fun i σ H' hi ⟨e,⟨v,hv⟩⟩=>?_) (fun σ H' ⟨e,⟨v,hv⟩⟩=>?_)⟩
 ·subst e hv;rw[ztl] at hi;have h1:xs[i]?=some (xs[i]'hi):=zs5 hi;rw[zuc];refine⟨_,rfl,_,rfl,b,_,_,_,rfl,rfl,SqT.of hb,Zs h1,_,rfl,_,rfl,c,_,_,_,rfl,rfl,hc,Zs h1,_,rfl,ho _ (ztw hi),_,rfl,?_⟩;exact iteF ⟨rfl,⟨_,rfl⟩⟩
 ·subst e hv;exact h
abbrev Sf:Stmt:=top 68
theorem Q8:Zk ["_law_found","_law_due","_law_k"] ["_law_found","_law_due"] (Zi Sf):=fnS
theorem Je(F:Fun K "_law_rows_are" "_law_rows_are" Sf f fd)(T:Tx K mg a)(zn6:Z1 P w K mg base "_law_tuple_is" 3 ["_law_found","_law_due"] (Fo K)):FnOk P w K mg base (CX1 P w) 4 f fd ["_law_found","_law_due"] (Fp K):=by
 refine F.okX Q8 ⋯ fun _ _ _ _ H _ Q E hr h=>?_;obtain⟨b,c,ts,us,R,rfl,hb,hc,tl,ul,ho,hl,h⟩:=h;refine⟨_,(Zb (Zx (PW.pt (We (Yj (Ye (Zm (Xh (K:=K) rfl) (by rfl) T.zlp PyProof.Rows.boot_isinstance (Za (pv 0) (Za (W7 rfl T.zmk PyProof.Rows.boot_list (show RelV (.ty "list") _ from rfl)) Zc))))) (Xn (Zp Qz (Zm (cL K) (by rfl) T.zlq PySem.boot_len (Za (pv 0) Zc)) (Zm (cL K) (by rfl) T.zlq PySem.boot_len (Za (pv 1) Zc)) (Zq _)))))
  (Zd (Zl Yp))
  Zn)
 (Zb (Yf PassesOwn.leaving rfl (Yd rfl T.zlw (Za (Zm (cL K) (by rfl) T.zlq PySem.boot_len (Za (pv 1) Zc)) Zc)) (pN 2 Q8.nd)
  (Zd (Zx (Yj (Ye (pF zn6 hr (Za (pI (iL K) (pv 0) (pv 2)) (Za (pI (iL K) (pv 1) (pv 2)) Zc)))))
   (Zd (Zl Yp))
   Zn)))
 (Zd (Zl Yp)))),?_⟩
 have el:ts.length=us.length:=by rw[tl.length,ul.length]
 have hul:=ul.length;refine⟨_,rfl,_,_,_,_,rfl,.of (.lst hb),.inl ⟨_,rfl⟩,Nd K,_,rfl,?_⟩;refine iteF ?_;refine⟨_,rfl,b,_,rfl,.inl (SqL.of hb),_,rfl,c,_,rfl,.inl hc,rfl,_,rfl,?_⟩;rw[el,zta rfl];refine iteF ?_;refine⟨_,rfl,c,_,rfl,.inl hc,_,rfl,by omega,by omega,Ym (fun i σ H'=>H'=H/\(∃ v,σ=[some (.ref b),some (.ref c),v])) ⟨rfl,⟨_,rfl⟩⟩ (fun i σ H' hi ⟨e,⟨v,hv⟩⟩=>?_) (fun σ H' ⟨e,⟨v,hv⟩⟩=>?_)⟩
 ·subst e hv;rw[ztl] at hi;have hR:i<R.length:=by rw[<- ul.length];exact hi
  obtain⟨t1,e1,q1⟩:=tl.getR (zs5 hR);obtain⟨t2,e2,q2⟩:=ul.getR (zs5 hR);obtain⟨o1,o2⟩:=ho _ (ztw hR);rw[zuc];refine⟨_,rfl,_,rfl,b,_,_,_,rfl,rfl,SqL.of hb,Zs e1,_,rfl,_,rfl,c,_,_,_,rfl,rfl,hc,Zs e2,t1,t2,_,rfl,q1,SqT.of q2,o2,o1,_,rfl,?_⟩;exact iteF ⟨rfl,⟨_,rfl⟩⟩
 ·subst e hv;exact h
abbrev Tf:Stmt:=top 69
theorem R7:Zk ["_law_found","_law_due","_law_k"] ["_law_found","_law_due"] (Zi Tf):=fnS
theorem Kb(F:Fun K "_law_lists_are" "_law_lists_are" Tf f fd)(T:Tx K mg a)(zlr:Z1 P w K mg base "_law_list_is" 3 ["_law_found","_law_due"] (Pm K)):FnOk P w K mg base (CX1 P w) 4 f fd ["_law_found","_law_due"] (J2 K):=by
 refine F.okX R7 ⋯ fun _ _ _ _ H _ Q E hr h=>?_;obtain⟨l,m,ls,ms,rows,rfl,hl,hm,il,im,hrl,hrr,h⟩:=h;refine⟨_,(Zb (Zx (PW.pt (We (Yj (Ye (Zm (Xh (K:=K) rfl) (by rfl) T.zlp PyProof.Rows.boot_isinstance (Za (pv 0) (Za (W7 rfl T.zmk PyProof.Rows.boot_list (show RelV (.ty "list") _ from rfl)) Zc))))) (Xn (Zp Qz (Zm (cL K) (by rfl) T.zlq PySem.boot_len (Za (pv 0) Zc)) (Zm (cL K) (by rfl) T.zlq PySem.boot_len (Za (pv 1) Zc)) (Zq _)))))
  (Zd (Zl Yp))
  Zn)
 (Zb (Yf PassesOwn.leaving rfl (Yd rfl T.zlw (Za (Zm (cL K) (by rfl) T.zlq PySem.boot_len (Za (pv 1) Zc)) Zc)) (pN 2 R7.nd)
  (Zd (Zx (Yj (Ye (pF zlr hr (Za (pI (iL K) (pv 0) (pv 2)) (Za (pI (iL K) (pv 1) (pv 2)) Zc)))))
   (Zd (Zl Yp))
   Zn)))
 (Zd (Zl Yp)))),?_⟩
 refine⟨_,rfl,_,_,_,_,rfl,.of (.lst hl),.inl ⟨_,rfl⟩,Nd K,_,rfl,?_⟩;refine iteF ?_;refine⟨_,rfl,l,_,rfl,.inl (SqL.of hl),_,rfl,m,_,rfl,.inl (SqL.of hm),rfl,_,rfl,?_⟩;rw[zs4,zs4,il.length,im.length,zta rfl];refine iteF ?_;refine⟨_,rfl,m,_,rfl,.inl (SqL.of hm),_,rfl,by omega,by rw[zs4,im.length];omega,Ym (fun i σ H'=>H'=H/\(∃ v,σ=[some (.ref l),some (.ref m),v])) ⟨rfl,⟨_,rfl⟩⟩ (fun i σ H' hi ⟨e,⟨v,hv⟩⟩=>?_) (fun σ H' ⟨e,⟨v,hv⟩⟩=>?_)⟩
 ·subst e hv;rw[zs4,im.length,ztl] at hi;obtain⟨l1,e1,q1⟩:=il.getR (zs5 hi);obtain⟨l2,e2,q2⟩:=im.getR (zs5 hi);have hlen:=hrr _ (ztw hi);rw[zuc];refine⟨_,rfl,_,rfl,l,_,_,_,rfl,rfl,SqL.of hl,Zs (show (ls.map V.ref)[i]?=some (.ref l1) by rw[zs7,e1];rfl),_,rfl,_,rfl,m,_,_,_,rfl,rfl,SqL.of hm,Zs (show (ms.map V.ref)[i]?=some (.ref l2) by rw[zs7,e2];rfl),l1,l2,_,rfl,q1,SqL.of q2,C0,by rw[zs4];exact hlen,_,rfl,?_⟩;exact iteF ⟨rfl,⟨_,rfl⟩⟩
 ·subst e hv;exact h
abbrev N2:Stmt:=top 70
theorem B9:Zk ["_law_shape","_law_k","_law_j","_law_figure"] ["_law_shape","_law_k","_law_j","_law_figure"] (Zi N2):=fnS
theorem Aa(F:Fun K "_law_near" "_law_near" N2 f fd)(T:Tx K mg a):FnOk P w K mg base (CX1 P w) 1 f fd ["_law_shape","_law_k","_law_j","_law_figure"] zec:=by
 refine F.okX B9 ⋯ fun _ _ _ _ H _ Q E hr h=>?_;obtain⟨s,k,j,f,rfl,h⟩:=h;refine⟨_,(Zb (Zx (Zp X8 (pv 0) Zf (Zq _))
  (Zd (Zl (Yx X8 (pv 3) Zf (Zq _))))
  Zn)
 (Zb (Zx (Zp X8 (pv 0) Zf (Zq _))
  (Zd (Zl (Sx (Yx Kd (Zm zdi (by rfl) T.zqy PyProof.Rows.boot_abs (Za (Zu El (pv 2) (pv 1)) Zc)) Zf (Zq _)) (U8 (Yx Q0 (pv 3) Zf (Zq _))))))
  Zn)
 (Zb (Zx (Zp X8 (pv 0) Zf (Zq _))
  (Zd (Zl (Sx (Yx Kd (pv 2) Zf (Zq _)) (U8 (Yx X8 (pv 3) Zf (Zq _))))))
  Zn)
 (Zd (Zl (zc8 (Yx X8 (pv 2) (pv 1) (Zq _)) (zc8 (Yx X8 (pv 2) (Zu Yk (pv 1) Zf) (Zq _)) (U8 (Yx X8 (pv 3) Zf (Zq _)))))))))),?_⟩
 refine⟨_,rfl,rfl,_,rfl,?_⟩;refine itV (fun _=>⟨_,rfl,rfl,h _⟩) (fun _=>?_);refine⟨_,rfl,rfl,_,rfl,?_⟩;refine itV (fun _=>⟨_,rfl,_,rfl,_,_,rfl,rfl,_,rfl,_,_,rfl,rfl,_,rfl,itD (fun _=>⟨_,rfl,_,_,rfl,rfl,h _⟩) (fun _=>h _)⟩) (fun _=>?_);refine⟨_,rfl,rfl,_,rfl,?_⟩;refine itV (fun _=>⟨_,rfl,_,_,rfl,rfl,_,rfl,itD (fun _=>⟨_,rfl,rfl,h _⟩) (fun _=>h _)⟩) (fun _=>?_);exact⟨_,rfl,_,rfl,rfl,_,rfl,itV (fun _=>h _) (fun _=>⟨_,rfl,_,rfl,_,_,rfl,rfl,rfl,_,rfl,itV (fun _=>h _) (fun _=>⟨_,rfl,rfl,h _⟩)⟩)⟩
theorem zaj(c:Int){m:Nat}(hm:m<=40):(O2 c m).Nodup:=by
 unfold O2;rw[List.nodup_iff_pairwise_ne,List.pairwise_map];refine List.Pairwise.imp_of_mem (fun {i j} hi hj (hne:i≠j) z=>?_) (List.nodup_iff_pairwise_ne.mp List.nodup_range);exact hne (Cy c (by have:=zt5.mp hi;omega) (by have:=zt5.mp hj;omega) z)
theorem ze9(c:Int)(m:Nat):∀ n∈O2 c m,1<=n/\n<=999:=fun n hn=>by
 unfold O2 at hn;obtain⟨j,_,rfl⟩:=zte.mp hn;unfold numS;omega
abbrev Of:Stmt:=top 71
theorem Z5:Zk ["_law_script","_law_most","_law_crowd","_law_head","_law_mixed","_law_shape","_law_base","_law_places","_law_many","_law_numbers_here","_law_may","_law_k","_law_cell","_law_figures","_law_row_here"] ["_law_script","_law_most","_law_crowd"] (Zi Of):=fnS
theorem D2(F:Fun K "_law_graph" "_law_graph" Of f fd)(T:Tx K mg a)(zmc:Z1 P w K mg base "_law_at" 1 ["_law_script","_law_k"] (zhu K))(zmm:Z1 P w K mg base "_law_numbers" 1 ["_law_cell","_law_many"] Nf)(zpv:Z1 P w K mg base "_law_row" 1 ["_law_cell","_law_many","_law_base","_law_mixed"] zgo)(zpm:Z1 P w K mg base "_law_near" 1 ["_law_shape","_law_k","_law_j","_law_figure"] zec):FnOk P w K mg base (CX1 P w) 2 f fd ["_law_script","_law_most","_law_crowd"] (za6 K):=by
 refine F.okX Z5 ⋯ fun _ _ _ _ H _ Q E hr h=>?_;obtain⟨b,ns,most,crowd,rfl,hS,hm,hc,h⟩:=h;refine⟨_,(Zb (pS 3 Z5.nd (pF zmc hr (Za (pv 0) (Za Zf Zc))))
 (Zb (pS 4 Z5.nd (Yx X8 (Zu Y9 (pv 3) Zf) Zf (Zq _)))
 (Zb (pS 5 Z5.nd (Zu Y9 (Zu Wn (pv 3) Zf) Zf))
 (Zb (pS 6 Z5.nd (pI (iL K) (Yl (Za (Zu Yk Zf (Zu Y9 (Zu Wn (pv 3) Zf) Zf)) (Za (Zu Yk Zf (Zu Y9 (Zu Wn (pv 3) Zf) Zf)) (Za Zf (Za (pI (iL K) (Yl (Za Zf (Za Zf Zc))) (Zu Y9 (Zu Wn (pv 3) Zf) Zf)) Zc))))) (pv 5)))
 (Zb (pS 7 Z5.nd (Zu Y9 (pF zmc hr (Za (pv 0) (Za Zf Zc))) (Zu Yk (pv 1) Zf)))
 (Zb (pS 8 Z5.nd (Zu Y9 (pF zmc hr (Za (pv 0) (Za Zf Zc))) (Zu Yk (pv 2) Zf)))
 (Zb (Zx (Zp X8 (Zu Y9 (pv 5) Zf) Zf (Zq _))
  (Zd (pS 8 Z5.nd (Zm (M4 rfl) (by rfl) T.zqk PyProof.Rows.boot_min (Za (pv 2) (Za (Zu Yk (pv 7) (Zu Y9 (Zu Wn (pv 3) Zf) Zf)) Zc)))))
  Zn)
 (Zb (pS 9 Z5.nd (pF zmm hr (Za (pF zmc hr (Za (pv 0) (Za Zf Zc))) (Za (pv 8) Zc))))
 (Zb (pS 10 Z5.nd (Yl Zc))
 (Zb (Yf PassesOwn.leaving rfl (Yd rfl T.zlw (Za (pv 7) Zc)) (pN 11 Z5.nd)
  (Zb (pS 12 Z5.nd (pF zmc hr (Za (pv 0) (Za (Zu Yk Zf (pv 11)) Zc))))
  (Zb (Zx (Ye (pv 4))
   (Zd (pS 12 Z5.nd (Zu Yk (Zu Yk (pv 12) (Zu Tn Zf (pv 11))) (pv 3))))
   Zn)
  (Zb (pS 13 Z5.nd (pF zpv hr (Za (pv 12) (Za (pv 8) (Za (pv 6) (Za (pv 4) Zc))))))
  (Zb (Vz (i:=14) Z5.nd rfl rfl rfl (cT ["_law_numbers_here","_law_shape","_law_k","_law_figures"] [9,5,11,13]) (Yd rfl T.zlw (Za (pv 8) Zc)) (fun _ _ _ _ _=>Sk (Ye (zaz zpm (hr.mono ⋯) Ct rfl (Za (pv 2) (Za (pv 3) (Za (pv 0) (Za (pI (iL K) (pv 4) (pv 0)) Zc))))))) (fun _ _ _ _ _=>(pI (iL K) (pv 1) (pv 0))))
  (Zb (Zx (Zp X8 (Zu Y9 (Zu Wn (pv 3) Zf) Zf) Zf (Zq _))
   (Zd (pS 14 Z5.nd (zd8 (K:=K) rfl (pv 14) (Qy U9 Zf))))
   Zn)
  (Zd (Yo (pv 10) (pv 14)))))))))
 (Zb (Zx (Zp X8 (Zu Y9 (Zu Wn (pv 3) Zf) Zf) Zf (Zq _))
  (Zd (pS 10 Z5.nd (zd8 (K:=K) rfl (pv 10) (Qy U9 Zf))))
  Zn)
 (Zd (Zl (pv 10)))))))))))))),?_⟩
 show let y1:TS:=_;let y2:TS:=Zw _ y1;let y3:TS:=Zw _ y2;let y4:TS:=Zw _ y3;let y5:TS:=Zw _ y4;let y6:TS:=_;let y7:TS:=Zw _ y6;let y8:TS:=Zw (Ek _ _ (Zw _ y5)) y7;let y9:TS:=Zw _ y8;let y10:TS:=Zw _ y9;let y11:TS:=Zw _ y10;let y12:TS:=Zw _ y11;let y13:TS:=Zw _ y12;let y14:TS:=Zw _ y13;let y15:TS:=Zw _ y14;let y16:TS:=Zw _ y15;Zw _ y16 _ _ _;intro y1 y2 y3 y4 y5 y6 y7 y8 y9 y10 y11 y12 y13 y14 y15 y16;refine⟨_,rfl,b,ns,0,rfl,hS,?_⟩;refine⟨_,rfl,_,_,rfl,rfl,(show (0:Int)<2 by decide),rfl,?_⟩;refine⟨_,rfl,_,_,rfl,rfl,⟨by decide,by decide⟩,_,_,rfl,rfl,(show (0:Int)<4 by decide),?_⟩;walk_at "rd";refine⟨sz2,fun m1 hm1=>?_⟩;walk_at "rd";obtain⟨x4,p4,x40,x41⟩:∃ x4:Int,atI [V.int 50,V.int 7] (Z7 ns 0/8%2)=some (.int x4)/\0<x4/\x4<=50:=by
  have h01:Z7 ns 0/8%2=0\/Z7 ns 0/8%2=1:=by omega
  rcases h01 with e|e<;>rw[e]
  ·exact⟨50,rfl,by decide,by decide⟩
  ·exact⟨7,rfl,by decide,by decide⟩
 refine⟨m1,_,_,_,rfl,rfl,SqL.of Ze,p4,sz4,fun m2 hm2=>?_⟩;obtain⟨bs,pb,bs0,bs1⟩:∃ bs:Int,atI [V.int (2+Z7 ns 0/8%4),V.int (2+Z7 ns 0/8%4),V.int 2,V.int x4] (Z7 ns 0/2%4)=some (.int bs)/\0<bs/\bs<=50:=by
  have h01:Z7 ns 0/2%4=0\/Z7 ns 0/2%4=1\/Z7 ns 0/2%4=2\/Z7 ns 0/2%4=3:=by omega
  rcases h01 with e|e|e|e<;>rw[e]
  ·exact⟨_,rfl,by omega,by omega⟩
  ·exact⟨_,rfl,by omega,by omega⟩
  ·exact⟨_,rfl,by decide,by decide⟩
  ·exact⟨_,rfl,x40,x41⟩
 have s2:=(Zo (o:=.lst [.int 50,.int 7]) hm1).trans (Zo (o:=.lst [.int (2+Z7 ns 0/8%4),.int (2+Z7 ns 0/8%4),.int 2,.int x4]) hm2);have hS2:=s2.seq hS;refine⟨_,rfl,m2,_,_,_,rfl,rfl,SqL.of Ze,pb,?_⟩;generalize decide (V.int (Z7 ns 0%2)=V.int 1)=mx;refine⟨_,rfl,b,ns,1,rfl,hS2,_,rfl,_,_,rfl,rfl,_,_,rfl,rfl,(show (0:Int)<most+1 by omega),?_⟩;refine⟨_,rfl,b,ns,2,rfl,hS2,_,rfl,_,_,rfl,rfl,_,_,rfl,rfl,(show (0:Int)<crowd+1 by omega),?_⟩;obtain⟨pl,hpl,pl1⟩:∃ pl:Nat,Z7 ns 1%((most:Int)+1)=pl/\pl<=most:=by
  have h0:=Int.emod_nonneg (Z7 ns 1) (show ((most:Int)+1)≠0 by omega);have h1:=zvf (Z7 ns 1) (show 0<((most:Int)+1) by omega);exact⟨(Z7 ns 1%((most:Int)+1)).toNat,by omega,by omega⟩
 obtain⟨ma,hma,ma1⟩:∃ ma:Nat,Z7 ns 2%((crowd:Int)+1)=ma/\ma<=crowd:=by
  have h0:=Int.emod_nonneg (Z7 ns 2) (show ((crowd:Int)+1)≠0 by omega);have h1:=zvf (Z7 ns 2) (show 0<((crowd:Int)+1) by omega);exact⟨(Z7 ns 2%((crowd:Int)+1)).toNat,by omega,by omega⟩
 walk_at "if";rw[hpl,hma];generalize upd (upd H m1 (.lst [.int 50,.int 7])) m2 (.lst [.int (2+Z7 ns 0/8%4),.int (2+Z7 ns 0/8%4),.int 2,.int x4])=H2 at s2 hS2 ⊢;generalize hsh:Z7 ns 0/2%4=sh;have hd0:Z7 ns 0=Z7 ns 0:=rfl;generalize Z7 ns 0=hd at *
 let jv2:L2.St->Hp->Prop:=fun σ' H'=>H'=H2/\∃ many:Nat,σ'=[some (.ref b),some (.int most),some (.int crowd),some (.int hd),some (.bl mx),some (.int sh),some (.int bs),some (.int pl),some (.int many),none,none,none,none,none,none]/\many<=crowd
 refine U6 (b:=decide (V.int (sh%2)=V.int 1)) jv2
  (fun Q q=>⟨_,rfl,_,_,rfl,rfl,(show (0:Int)<2 by decide),rfl,_,rfl,q⟩) (fun _ N hN=>?_) (fun _ N hN=>Zz (hN _ _ ⟨rfl,ma,rfl,ma1⟩)) ?_
 ·refine⟨_,rfl,_,rfl,_,rfl,_,_,rfl,rfl,⟨by decide,by decide⟩,_,_,rfl,rfl,(show (0:Int)<3 by decide),_,_,rfl,rfl,_,_,rfl,?_⟩;obtain⟨mm,hmm,hmc⟩:∃ mm:Nat,(if (pl:Int)+hd/32%3<crowd then (pl:Int)+hd/32%3 else crowd)=mm/\mm<=crowd:=by
   by_cases hz:(pl:Int)+hd/32%3<crowd
   ·exact⟨((pl:Int)+hd/32%3).toNat,by rw[if_pos hz];omega,by omega⟩
   ·exact⟨crowd,by rw[if_neg hz],ztc _⟩
  exact hN _ _ ⟨rfl,mm,by rw[<- hmm];rfl,hmc⟩
 rintro σ' H3 ⟨rfl,many,rfl,hmany⟩;refine⟨_,rfl,b,ns,3,rfl,hS2,_,rfl,_,many,rfl,by omega,fun ln H4 hln s4 _=>?_⟩;have hS4:=s4.seq hS2;have s04:=s2.trans s4;have nd:=zaj (Z7 ns 3) (show many<=40 by omega);have rg:=ze9 (Z7 ns 3) many;have pll:(O2 (Z7 ns 3) many).length=many:=by unfold O2;rw[zs4,ztr]
 generalize O2 (Z7 ns 3) many=nu at hln nd rg pll;clear s2 s4 hS2 hma ma1 hpl;refine⟨by show 0<=sizeLine;decide,fun lm hlm=>?_⟩;refine al (upd _ lm _) hlm rfl fun H5 TH5 s5=>?_;have q5:H5 lm=some (.lst (([]:List Addr).map V.ref)):=TH5;refine⟨_,rfl,_,rfl,by omega,by omega,?_⟩;rw[ztl]
 let jv3:Nat->L2.St->Hp->Prop:=fun i σ H'=>∃ ls rows v11 v12 v13 v14,σ=[some (.ref b),some (.int most),some (.int crowd),some (.int hd),some (.bl mx),some (.int sh),some (.int bs),some (.int pl),some (.int many),some (.ref ln),some (.ref lm),v11,v12,v13,v14]/\Same H4 H'/\H' lm=some (.lst (ls.map V.ref))/\ILs H' ls rows/\rows.length=i/\(∀ r∈rows,r.Nodup/\∀ n∈r,n∈nu)/\∀ x∈ls,H4 x=none/\x≠lm
 refine Ym jv3 ⟨[],[],_,_,_,_,rfl,s5,q5,.nil,rfl,by simp,by simp⟩ ?_ ?_
 ·rintro i σ H' hi ⟨ls,rows,v11,v12,v13,v14,rfl,sm,hl,il,hrl,hrs,hfr⟩;rw[zuc];refine⟨_,rfl,_,rfl,_,_,rfl,rfl,b,ns,5+i,rfl,sm.seq hS4,?_⟩;walk_at "if"
  let jv4:L2.St->Hp->Prop:=fun σ' H2=>H2=H'/\∃ c',σ'=[some (.ref b),some (.int most),some (.int crowd),some (.int hd),some (.bl mx),some (.int sh),some (.int bs),some (.int pl),some (.int many),some (.ref ln),some (.ref lm),some (.int i),some (.int c'),v13,v14]
  refine U6 (b:=mx) jv4
   (fun Q q=>⟨_,rfl,_,rfl,q⟩) (fun _ N hN=>⟨_,rfl,_,rfl,_,_,rfl,rfl,.inl ⟨by decide,by decide⟩,_,_,rfl,rfl,_,rfl,_,_,rfl,rfl,hN _ _ ⟨rfl,_,rfl⟩⟩) (fun _ N hN=>Zz (hN _ _ ⟨rfl,_,rfl⟩)) ?_
  rintro σ' H2 ⟨rfl,c',rfl⟩;refine⟨_,rfl,_,rfl,_,rfl,_,rfl,_,many,bs,mx,rfl,by omega,bs0,by omega,fun lf fs H6 hlf hfl hfb s6 _=>?_⟩;have sm6:=sm.trans s6;have hl6:=s6 _ _ hl;have il6:=il.same s6;refine⟨_,rfl,_,rfl,by omega,by omega,?_⟩;rw[ztl];refine Qb (fun j ys H'=>H'=H6/\∃ zs:List Int,ys=zs.map V.int/\zs.Sublist (nu.take j)/\zs.length<=j) ⟨rfl,[],rfl,List.nil_sublist _,ztc _⟩ (szN ⋯) (fun j ys H' ⟨_,zs,e,_,hz⟩=>by rw[e,zs4];exact hz) ?_ ?_
  ·rintro j ys H7 hj ⟨rfl,zs,rfl,hz,hzl⟩;have hnj:nu[j]?=some (nu[j]'⋯):=zs5 ⋯;have hnv:(nu.map V.int)[j]?=some (.int (nu[j]'⋯)):=by rw[zs7,hnj];rfl
   rw[zuc];refine⟨_,rfl,_,rfl,_,rfl,_,rfl,_,rfl,lf,_,_,_,rfl,rfl,SqL.of hlf,Zs (zeb ⋯),_,_,_,_,rfl,fun bb=>⟨_,rfl,?_⟩⟩;refine itB (fun _=>?_) (fun _=>?_)
   ·refine⟨_,rfl,_,rfl,ln,_,_,_,rfl,rfl,SqL.of (sm6 _ _ hln),Zs hnv,rfl,zs++[nu[j]'⋯],?_,?_,?_⟩
    ·rw[zti];rfl
    ·rw[zuf,hnj];exact List.Sublist.append hz (List.Sublist.refl _)
    ·rw[zs8];show zs.length+1<=_;omega
   ·refine⟨rfl,zs,rfl,?_,by omega⟩;rw[zuf];exact hz.trans (List.sublist_append_left _ _)
  rintro ys H7 ⟨rfl,zs,rfl,hz,hzl⟩ lr hlr;rw[<- pll,zto] at hz;have hzn:=hz.nodup nd;have hzs:∀ n∈zs,n∈nu:=fun n hn=>hz.subset hn;refine al (upd _ lr _) hlr rfl fun H8 q8 s8=>?_;have fr8:H4 lr=none:=sm6.free hlr;have nl8:lr≠lm:=fun z=>by rw[z,hl6] at hlr;cases hlr
  have sm8:=sm6.trans s8;have hl8:=s8 _ _ hl6;have il8:=il6.same s8;walk_at "if"
  let jv5:L2.St->Hp->Prop:=fun σ' H9=>∃ (lr:Addr) (zs:List Int),σ'=[some (.ref b),some (.int most),some (.int crowd),some (.int hd),some (.bl mx),some (.int sh),some (.int bs),some (.int pl),some (.int many),some (.ref ln),some (.ref lm),some (.int i),some (.int c'),some (.ref lf),some (.ref lr)]/\Same H8 H9/\H9 lr=some (.lst (zs.map V.int))/\zs.Nodup/\(∀ n∈zs,n∈nu)/\H4 lr=none/\lr≠lm
  refine U6 (b:=decide (V.int (hd/96%2)=V.int 1)) jv5
   (fun Q q=>⟨_,rfl,_,_,rfl,rfl,⟨by decide,by decide⟩,_,_,rfl,rfl,(show (0:Int)<2 by decide),rfl,_,rfl,q⟩) (fun _ N hN=>?_) (fun _ N hN=>Zz (hN _ _ ⟨lr,zs,rfl,Same.refl _,q8,hzn,hzs,fr8,nl8⟩)) ?_
  ·refine⟨_,rfl,_,rfl,rfl,lr,_,rfl,SqL.of q8,fun l9 hl9=>hN _ _ ⟨l9,zs.reverse,rfl,Zo hl9,?_,(List.reverse_perm zs).symm.nodup hzn,fun n hn=>hzs n (List.mem_reverse.mp hn),sm8.free hl9,fun z=>by rw[z,hl8] at hl9;cases hl9⟩⟩;rw[Ze,List.map_reverse]
  rintro σ' H9 ⟨l9,z9,rfl,s9,q9,n9,m9,f9,ne9⟩;have hl9:=s9 _ _ hl8;refine⟨_,rfl,lm,_,rfl,hl9,_,rfl,_,hl9,Yn (by rw[zs4,il.length];omega),?_⟩;refine⟨ls++[l9],rows++[z9],_,_,_,_,rfl,Z8 hlm (sm8.trans s9),by rw[Ze,zti];rfl,?_,by rw[zs8,hrl];rfl,fun r hr=>?_,fun x hx=>?_⟩
  ·exact((il8.same s9).keep fun x hx o q=>by rw[Zh (hfr x hx).2];exact q).snoc (by rw[Zh ne9];exact q9)
  ·rcases ztg.mp hr with q|q
   ·exact hrs r q
   ·rw[zs9.mp q];exact⟨n9,m9⟩
  ·rcases ztg.mp hx with q|q
   ·exact hfr x q
   ·rw[zs9.mp q];exact⟨f9,ne9⟩
 rintro σ H' ⟨ls,rows,v11,v12,v13,v14,rfl,sm,hl,il,hrl,hrs,hfr⟩;have MO:Ws rows nu:=⟨by omega,by omega,nd,rg,hrs⟩;walk_at "if"
 let jv6:L2.St->Hp->Prop:=fun σ' H9=>∃ lm ls rows,σ'=[some (.ref b),some (.int most),some (.int crowd),some (.int hd),some (.bl mx),some (.int sh),some (.int bs),some (.int pl),some (.int many),some (.ref ln),some (.ref lm),v11,v12,v13,v14]/\Same H4 H9/\H9 lm=some (.lst (ls.map V.ref))/\ILs H9 ls rows/\Ws rows nu/\rows.length<=most/\H4 lm=none/\∀ x∈ls,H4 x=none
 refine U6 (b:=decide (V.int (hd/192%2)=V.int 1)) jv6
  (fun Q q=>⟨_,rfl,_,_,rfl,rfl,⟨by decide,by decide⟩,_,_,rfl,rfl,(show (0:Int)<2 by decide),rfl,_,rfl,q⟩) (fun _ N hN=>?_) (fun _ N hN=>Zz (hN _ _ ⟨lm,ls,rows,rfl,sm,hl,il,MO,by omega,hlm,fun x hx=>(hfr x hx).1⟩)) ?_
 ·refine⟨_,rfl,_,rfl,rfl,lm,_,rfl,SqL.of hl,fun l9 hl9=>hN _ _ ⟨l9,ls.reverse,rows.reverse,rfl,sm.trans (Zo hl9),?_,(il.same (Zo hl9)).reverse,⟨by rw[zu7];omega,MO.crowd,nd,rg,fun r hr=>hrs r (List.mem_reverse.mp hr)⟩,by rw[zu7];omega,sm.free hl9,fun x hx=>(hfr x (List.mem_reverse.mp hx)).1⟩⟩;rw[Ze,List.map_reverse]
 rintro σ' H9 ⟨l9,ls9,rows9,rfl,s9,q9,i9,M9,n9,f9,g9⟩;exact⟨_,rfl,h l9 ls9 rows9 nu H9 q9 i9 M9 n9 ⋯ (s04.trans s9) (s04.free f9) fun x hx=>s04.free (g9 x hx)⟩
abbrev U1:Stmt:=top 72
theorem Ui:Zk ["_law_may","_law_given","_law_seen","_law_k"] ["_law_may","_law_given"] (Zi U1):=fnS
theorem Mz(F:Fun K "_law_is_filling" "_law_is_filling" U1 f fd)(T:Tx K mg a)(zl0:Z1 P w K mg base "_law_whole" 1 ["_law_found"] N9):FnOk P w K mg base (CX1 P w) 2 f fd ["_law_may","_law_given"] (Kk K):=by
 refine F.okX Ui ⋯ fun _ _ _ _ H _ Q E hr h=>?_;obtain⟨l,lg,ls,rows,gs,rfl,hl,il,hrl,hg,FP,h⟩:=h;have hu:=Vg hr;refine⟨_,(Zb (Zx (PW.pt (We (Yj (Ye (Zm (Xh (K:=K) rfl) (by rfl) T.zlp PyProof.Rows.boot_isinstance (Za (pv 1) (Za (W7 rfl T.zmk PyProof.Rows.boot_list (show RelV (.ty "list") _ from rfl)) Zc))))) (Xn (Zp Qz (Zm (cL K) (by rfl) T.zlq PySem.boot_len (Za (pv 1) Zc)) (Zm (cL K) (by rfl) T.zlq PySem.boot_len (Za (pv 0) Zc)) (Zq _)))))
  (Zd (Zl Yp))
  Zn)
 (Zb (pS 2 Ui.nd Tp)
 (Zb (Yf PassesOwn.leaving rfl (Yd rfl T.zlw (Za (Zm (cL K) (by rfl) T.zlq PySem.boot_len (Za (pv 0) Zc)) Zc)) (pN 3 Ui.nd)
  (Zd (Zx (Zp Si (pI (iL K) (pv 1) (pv 3)) Y3 (Zq _))
   (Zb (Zx (PW.pt (We (Yj (Ye (pF zl0 hr (Za (pI (iL K) (pv 1) (pv 3)) Zc)))) (We (Zp (Xw (K:=K) rfl) (pI (iL K) (pv 1) (pv 3)) (pI (iL K) (pv 0) (pv 3)) (by with_unfolding_all rfl)) (Xn (Sw (Jv hu (pI (iL K) (pv 1) (pv 3)) (pv 2)))))))
    (Zd (Zl Yp))
    Zn)
   (Zd (V1 hu (pv 2) (pI (iL K) (pv 1) (pv 3)) Yp rfl)))
   Zn)))
 (Zd (Zl Yp))))),?_⟩
 refine⟨_,rfl,_,_,_,_,rfl,.of (.lst hg),.inl ⟨_,rfl⟩,Nd K,_,rfl,?_⟩;refine iteF ?_;refine⟨_,rfl,lg,_,rfl,.inl (SqL.of hg),_,rfl,l,_,rfl,.inl (SqL.of hl),rfl,_,rfl,?_⟩;rw[zs4,il.length,FP.len,zta rfl];refine iteF ?_;intro ld hld;refine al (upd _ ld _) hld rfl fun H1 q0 s0=>?_;refine⟨_,rfl,l,_,rfl,.inl (SqL.of (s0 _ _ hl)),_,rfl,by omega,by rw[zs4,il.length];omega,?_⟩;rw[zs4,il.length,ztl]
 let jv7:Nat->L2.St->Hp->Prop:=fun i σ H'=>(∃ v3,σ=[some (.ref l),some (.ref lg),some (.ref ld),v3])/\Same H H'/\∃ kvs,H' ld=some (.dK kvs)/\kvs.length<=i/\∀ n:Int,(valV kvs (inl n:Key)).isSome=true->∃ j,j<i/\gs[j]?=some (.int n)
 refine Ym jv7 ⟨⟨_,rfl⟩,s0,[],q0,ztc _,fun n z=>(nomatch z)⟩ ?_ ?_
 ·rintro i σ H' hi ⟨⟨v3,rfl⟩,sm,kvs,hd,hkl,hks⟩;rw[zuc];have hgi:i<gs.length:=by rw[FP.len];exact hi
  have hx:gs[i]?=some (gs[i]'hgi):=zs5 hgi;have hone:=FP.one _ (ztw hgi);generalize (gs[i]'hgi)=x at hx hone;refine⟨_,rfl,_,rfl,lg,_,_,_,rfl,rfl,SqL.of (sm _ _ hg),Zs hx,rfl,_,rfl,?_⟩;rcases hone with rfl|⟨n,rfl⟩
  ·refine iteF ?_;refine⟨⟨_,rfl⟩,sm,kvs,hd,by omega,fun n hn=>?_⟩;obtain⟨j,h1,h2⟩:=hks n hn;exact⟨j,by omega,h2⟩
  ·refine iteT ?_;obtain⟨r,hr',hnr⟩:=FP.may i n hx;obtain⟨lr,e1,e2⟩:=il.getR hr';have hl':(ls.map V.ref)[i]?=some (.ref lr):=by rw[zs7,e1];rfl
   have hno:valV kvs (inl n:Key)=none:=by
    cases q:valV kvs (inl n:Key) with
    | none=>rfl
    | some v =>
      obtain⟨j,h1,h2⟩:=hks n (by rw[q];rfl);exact absurd (FP.inj j i n h2 hx) ⋯
   have gx:∀ {Q:VK},Q (.int n) H'->∃ v,([some (V.ref l),some (V.ref lg),some (V.ref ld),some (V.int (i:Int))]:L2.St)[1]?=some (some v)/\∃ w,([some (V.ref l),some (V.ref lg),some (V.ref ld),some (V.int (i:Int))]:L2.St)[3]?=some (some w)/\zfu K v w H' Q:=fun q=>⟨_,rfl,_,rfl,lg,_,_,_,rfl,rfl,SqL.of (sm _ _ hg),Zs hx,q⟩
   walk_at "if";refine Wk (Y7 (b:=false) (Vh (b:=false) (c:=false) (fun Q q=>⟨_,rfl,_,rfl,lg,_,_,_,rfl,rfl,SqL.of (sm _ _ hg),Zs hx,n,rfl,_,rfl,q⟩) (Vh (b:=false) (c:=false) (fun Q q=>⟨_,rfl,_,rfl,lg,_,_,_,rfl,rfl,SqL.of (sm _ _ hg),Zs hx,_,rfl,_,rfl,l,_,_,_,rfl,rfl,SqL.of (sm _ _ hl),Zs hl',lr,_,rfl,.inl (SqL.of (sm _ _ e2)),rfl,Om r,_,rfl,by rw[Sl,zta hnr];exact q⟩)
    (fun Q q=>⟨_,rfl,_,rfl,lg,_,_,_,rfl,rfl,SqL.of (sm _ _ hg),Zs hx,_,rfl,ld,_,rfl,DGet.k (k:=inl n) hd,_,rfl,by rw[hno];exact q⟩))) (iteF (Zz ?_)))
   refine⟨_,rfl,_,rfl,_,rfl,lg,_,_,_,rfl,rfl,SqL.of (sm _ _ hg),Zs hx,ld,_,rfl,DPut.k (k:=inl n) hd (Yn ⋯),?_⟩;refine⟨⟨_,rfl⟩,Z8 hld sm,_,Ze,ztk (Xr _ _ _) ⋯,fun n' hn'=>?_⟩;rw[U3] at hn';by_cases e:(inl n':Key)=inl n
   ·cases e;exact⟨i,zvc _,hx⟩
   ·rw[if_neg e] at hn';obtain⟨j,h1,h2⟩:=hks n' hn';exact⟨j,by omega,h2⟩
 ·rintro σ H' ⟨⟨v3,rfl⟩,sm,_⟩;exact h H' sm
def zbs(K:Frag):Sp:=fun vs H Q _=>∃ (l lg:Addr) (ls:List Addr) (rows:List (List Int)) (gs:List V) (p:Nat),vs=[.ref l,.ref lg,.int p]/\H l=some (.lst (ls.map V.ref))/\ILs H ls rows/\rows.length<=100/\H lg=some (.lst gs)/\Ya rows gs/\p<rows.length/\Qc rows gs p/\∀ H',Same H H'->Q (.bl true) H'
theorem zfa{c:Nat}{cs:List Nat}:inV (.int (c:Nat)) (cs.map fun k=>V.int (k:Nat))=decide (c∈cs):=by
 have e:(cs.map fun k=>V.int (k:Nat))=(cs.map fun (k:Nat)=>((k:Nat):Int)).map V.int:=by rw[zud];rfl
 rw[e,Sl];by_cases h:c∈cs
 ·rw[zta h,zta (zte.mpr ⟨c,h,rfl⟩)]
 ·rw[ztd h,ztd];intro z;obtain⟨k,hk,q⟩:=zte.mp z;have:k=c:=by omega
  subst this;exact h hk
abbrev Og:Stmt:=top 73
theorem Wb:Zk ["_law_may","_law_given","_law_place","_law_held","_law_k","_law_came","_law_done","_law_number"] ["_law_may","_law_given","_law_place"] (Zi Og):=fnS
theorem D3(F:Fun K "_law_stuck" "_law_stuck" Og f fd)(T:Tx K mg a):FnOk P w K mg base (CX1 P w) 1 f fd ["_law_may","_law_given","_law_place"] (zbs K):=by
 refine F.okX Wb ⋯ fun _ _ _ _ H _ Q E hr h=>?_;obtain⟨l,lg,ls,rows,gs,p,rfl,hl,il,hrl,hg,FP,hp,SA,h⟩:=h;have hu:=Vg hr;refine⟨_,(Zb (pS 3 Wb.nd Tp)
 (Zb (Yf PassesOwn.leaving rfl (Yd rfl T.zlw (Za (pv 2) Zc)) (pN 4 Wb.nd)
  (Zd (Zx (Zp Si (pI (iL K) (pv 1) (pv 4)) Y3 (Zq _))
   (Zd (V1 hu (pv 3) (pI (iL K) (pv 1) (pv 4)) (pv 4) rfl))
   Zn)))
 (Zb (pS 5 Wb.nd (Yl (Za (pv 2) Zc)))
 (Zb (pS 6 Wb.nd Zf)
 (Zb (N7 PassesOwn.leaving (Zp Kd (pv 6) (Zm (cL K) (by rfl) T.zlq PySem.boot_len (Za (pv 5) Zc)) (Zq _))
  (Zb (Yf PassesOwn.leaving rfl (Z4 (K:=K) rfl (pI (iL K) (pv 0) (pI (iL K) (pv 5) (pv 6)))) (pN 7 Wb.nd)
   (Zb (Zx (Sw (Rp hu (pv 7) (pv 3)))
    (Zd (Zl Yp))
    Zn)
   (Zd (Zx (Zp (Xw (K:=K) rfl) (pD hu (pv 3) (pv 7)) (pv 5) (by with_unfolding_all rfl))
    (Zd (Yo (pv 5) (pD hu (pv 3) (pv 7))))
    Zn))))
  (Zd (pS 6 Wb.nd (Zu Yk (pv 6) Zf)))))
 (Zd (Zl Yp))))))),?_⟩
 show let y1:TS:=_;let y2:TS:=_;let y3:TS:=_;let y4:TS:=Zw (Ej _ (Zw (Ek _ _ (Zw _ y1)) y2)) y3;let y5:TS:=Zw _ y4;let y6:TS:=Zw _ y5;let y7:TS:=Zw _ y6;Zw _ y7 _ _ _;intro y1 y2 y3 y4 y5 y6 y7;obtain⟨S,hSp,hS⟩:=SA;intro ld hld;refine al (upd _ ld _) hld rfl fun H1 q0 s0=>?_;refine⟨_,rfl,_,rfl,by omega,by omega,?_⟩;rw[ztl]
 let jv8:Nat->L2.St->Hp->Prop:=fun i σ H'=>(∃ v4,σ=[some (.ref l),some (.ref lg),some (.int p),some (.ref ld),v4,none,none,none])/\Same H H'/\∃ kvs,H' ld=some (.dK kvs)/\kvs.length<=i/\∀ (n:Int) (j:Nat),j<i->gs[j]?=some (.int n)->valV kvs (inl n:Key)=some (.int j)
 refine Ym jv8 ⟨⟨_,rfl⟩,s0,[],q0,ztc _,fun n j hj=>absurd hj (zu2 _)⟩ ?_ ?_
 ·rintro i σ H' hi ⟨⟨v4,rfl⟩,sm,kvs,hd,hkl,hks⟩;rw[zuc];have hgi:i<gs.length:=by rw[FP.len];omega
  have hx:gs[i]?=some (gs[i]'hgi):=zs5 hgi;have hone:=FP.one _ (ztw hgi);generalize (gs[i]'hgi)=x at hx hone;refine⟨_,rfl,_,rfl,lg,_,_,_,rfl,rfl,SqL.of (sm _ _ hg),Zs hx,rfl,_,rfl,?_⟩;rcases hone with rfl|⟨n,rfl⟩
  ·refine iteF ?_;refine⟨⟨_,rfl⟩,sm,kvs,hd,by omega,fun n j hj e=>?_⟩;by_cases hji:j=i
   ·subst hji;rw[hx] at e;cases e
   ·exact hks n j ⋯ e
  ·refine iteT ?_;refine⟨_,rfl,_,rfl,_,rfl,_,rfl,lg,_,_,_,rfl,rfl,SqL.of (sm _ _ hg),Zs hx,ld,_,rfl,DPut.k (k:=inl n) hd (Yn ⋯),?_⟩;refine⟨⟨_,rfl⟩,Z8 hld sm,_,Ze,ztk (Xr _ _ _) ⋯,fun n' j hj e=>?_⟩;rw[U3];by_cases en:n'=n
   ·subst en;have:j=i:=FP.inj j i n' e hx;subst this;rw[if_pos rfl]
   ·rw[if_neg (fun z=>en (inl.inj z))];refine hks n' j ?_ e;have:j≠i:=fun z=>by subst z;rw[hx] at e;cases e;exact en rfl
    omega
 rintro σ H' ⟨⟨v4,rfl⟩,sm,kvs,hd,hkl,hks⟩;refine⟨_,rfl,sz1,fun lc hlc=>?_⟩;refine al (upd _ lc _) hlc rfl fun H2 TH2 t2=>?_;have s2:=sm.trans t2;have fc:H lc=none:=sm.free hlc;have q2:H2 lc=some (.lst (([p]:List Nat).map fun k=>V.int (k:Nat))):=TH2;have hd2:=t2 _ _ hd;have ncd:ld≠lc:=Zg hd hlc;clear sm hd;have hbound:∀ cs:List Nat,cs.Nodup->(∀ c∈cs,S c)->cs.length<=rows.length:=fun cs nd hc=>by
  have:=nd.length_le_of_subset (l₂:=List.range rows.length) fun c hcc=>zt5.mpr (hS c (hc c hcc)).1;rw[ztr] at this;exact this
 refine⟨fun m σ H'=>∃ (d:Nat) (cs:List Nat) (v4 v7:Option V),m=rows.length-d/\d<=cs.length/\σ=[some (.ref l),some (.ref lg),some (.int p),some (.ref ld),v4,some (.ref lc),some (.int d),v7]/\Same H H'/\H' ld=some (.dK kvs)/\H' lc=some (.lst (cs.map fun k=>V.int (k:Nat)))/\cs.Nodup/\∀ c∈cs,S c,
  ⟨_,0,[p],_,_,rfl,zt6 _,rfl,s2,hd2,q2,by simp,by simpa using hSp⟩,?_⟩
 rintro m σ Ha ⟨d,cs,w4,w7,rfl,hdl,rfl,sa,hda,hca,nd,hcs⟩;have hcl:=hbound cs nd hcs;refine⟨_,rfl,_,rfl,lc,_,rfl,.inl (SqL.of hca),_,_,rfl,rfl,_,rfl,?_⟩;rw[zs4];refine itD (fun hlt=>?_) (fun hlt=>?_)
 ·have hdc:d<cs.length:=by omega
  have hcd:cs[d]?=some (cs[d]'hdc):=zs5 hdc;have hSc:=hcs _ (ztw hdc);generalize (cs[d]'hdc)=c at hcd hSc;obtain⟨hcr,hcn⟩:=hS c hSc;have hr':rows[c]?=some (rows[c]'hcr):=zs5 hcr;generalize (rows[c]'hcr)=r at hr';obtain⟨lr,e1,e2⟩:=il.getR hr';have hl':(ls.map V.ref)[c]?=some (.ref lr):=by rw[zs7,e1];rfl
  have hcv:(cs.map fun k=>V.int (k:Nat))[d]?=some (.int c):=by rw[zs7,hcd];rfl
  refine⟨fun σ' H'=>∃ (cs:List Nat) (v4 v7:Option V),d+1<=cs.length/\σ'=[some (.ref l),some (.ref lg),some (.int p),some (.ref ld),v4,some (.ref lc),some (.int ((d:Int)+1)),v7]/\Same H H'/\H' ld=some (.dK kvs)/\H' lc=some (.lst (cs.map fun k=>V.int (k:Nat)))/\cs.Nodup/\∀ c∈cs,S c,
   fun σ' H' ⟨cs',u4,u7,h1,h2,h3,h4,h5,h6,h7⟩=>⟨rows.length-(d+1),by omega,d+1,cs',u4,u7,rfl,h1,h2,h3,h4,h5,h6,h7⟩,?_⟩
  refine⟨_,rfl,_,rfl,_,rfl,lc,_,_,_,rfl,rfl,SqL.of hca,Zs hcv,l,_,_,_,rfl,rfl,SqL.of (sa _ _ hl),Zs hl',lr,rfl,⟨_,SqL.of (sa _ _ e2)⟩,?_⟩
  let jv9:Nat->L2.St->Hp->Prop:=fun i σ H'=>∃ (cs:List Nat) (v4 v7:Option V),d+1<=cs.length/\σ=[some (.ref l),some (.ref lg),some (.int p),some (.ref ld),v4,some (.ref lc),some (.int d),v7]/\Same H H'/\H' ld=some (.dK kvs)/\H' lc=some (.lst (cs.map fun k=>V.int (k:Nat)))/\cs.Nodup/\∀ c∈cs,S c
  refine Xi (K:=K) (a:=lr) (xs:=r.map V.int) jv9 ⟨cs,_,_,hdc,rfl,sa,hda,hca,nd,hcs⟩ (by rintro i σ H' _ ⟨_,_,_,_,_,s,_⟩;exact SqL.of (s _ _ e2)) ?_ ?_
  ·rintro i y σ Hb hy ⟨cs',u4,u7,hdl',rfl,sb,hdb,hcb,nd',hcs'⟩;obtain⟨n,hn,rfl⟩:=zte.mp (ztb hy);obtain⟨q',hq',hgq,hSq⟩:=hcn r hr' n hn;have hv:valV kvs (inl n:Key)=some (.int q'):=hks n q' hq' hgq;have hcl':=hbound cs' nd' hcs';have hflat:(cs'.map fun k=>V.int (k:Nat)).all U4=true:=by rw[List.all_map];exact zut.mpr fun _ _=>rfl
   have hget:DGet Hb ld (.int n) (some (.int q')):=by rw[<- hv];exact DGet.k (k:=inl n) hdb
   refine⟨_,rfl,_,rfl,ld,_,rfl,hget,_,rfl,?_⟩;refine iteF ?_;refine⟨_,rfl,_,rfl,ld,_,rfl,hget,_,rfl,lc,_,rfl,.inl (SqL.of hcb),rfl,hflat,_,rfl,?_⟩;rw[if_pos rfl,zfa];refine itN (fun hnot=>?_) (fun hin=>?_)
   ·refine⟨_,rfl,lc,_,rfl,hcb,_,rfl,_,rfl,ld,_,rfl,hget,_,hcb,Yn (by rw[zs4];omega),?_⟩;refine⟨cs'++[q'],_,_,by rw[zs8];omega,rfl,Z8 fc sb,by rw[Zh ncd];exact hdb,by rw[Ze,zti];rfl,Jj nd' hnot,fun c' hc'=>?_⟩;rcases ztg.mp hc' with w|w
    ·exact hcs' c' w
    ·rw[zs9.mp w];exact hSq
   ·exact⟨cs',_,_,hdl',rfl,sb,hdb,hcb,nd',hcs'⟩
  ·rintro σ Hb ⟨cs',u4,u7,hdl',rfl,sb,hdb,hcb,nd',hcs'⟩;exact⟨_,rfl,_,_,rfl,rfl,cs',_,_,hdl',rfl,sb,hdb,hcb,nd',hcs'⟩
 ·exact h Ha sa
def Gd(K:Frag):Sp:=fun vs H Q _=>∃ (l lg:Addr) (ls:List Addr) (rows:List (List Int)) (gs:List V),vs=[.ref l,.ref lg]/\H l=some (.lst (ls.map V.ref))/\ILs H ls rows/\rows.length<=100/\H lg=some (.lst gs)/\Ya rows gs/\Wl rows gs/\∀ H',Same H H'->Q (.bl true) H'
abbrev Wm:Stmt:=top 74
theorem Uj:Zk ["_law_may","_law_given","_law_k"] ["_law_may","_law_given"] (Zi Wm):=fnS
theorem Qv(F:Fun K "_law_left_just_where" "_law_left_just_where" Wm f fd)(T:Tx K mg a)(zpa:Z1 P w K mg base "_law_stuck" 1 ["_law_may","_law_given","_law_place"] (zbs K)):FnOk P w K mg base (CX1 P w) 2 f fd ["_law_may","_law_given"] (Gd K):=by
 refine F.okX Uj ⋯ fun _ _ _ _ H _ Q E hr h=>?_;obtain⟨l,lg,ls,rows,gs,rfl,hl,il,hrl,hg,FP,SP,h⟩:=h;refine⟨_,(Zb (Yf PassesOwn.leaving rfl (Yd rfl T.zlw (Za (Zm (cL K) (by rfl) T.zlq PySem.boot_len (Za (pv 0) Zc)) Zc)) (pN 2 Uj.nd)
  (Zd (Zx (PW.pt (M3 (Zp R9 (pI (iL K) (pv 1) (pv 2)) Y3 (Zq _)) (Oi (Yj (Ye (pF zpa hr (Za (pv 0) (Za (pv 1) (Za (pv 2) Zc)))))))))
   (Zd (Zl Yp))
   Zn)))
 (Zd (Zl Yp))),?_⟩
 refine⟨_,rfl,l,_,rfl,.inl (SqL.of hl),_,rfl,by omega,by rw[zs4,il.length];omega,?_⟩;rw[zs4,il.length,ztl];refine Ym (fun i σ H'=>(∃ v2,σ=[some (.ref l),some (.ref lg),v2])/\Same H H') ⟨⟨_,rfl⟩,Same.refl _⟩ ?_ ?_
 ·rintro i σ H' hi ⟨⟨v2,rfl⟩,sm⟩;rw[zuc];have hgi:i<gs.length:=by rw[FP.len];exact hi
  have hx:gs[i]?=some (gs[i]'hgi):=zs5 hgi;have hone:=FP.one _ (ztw hgi);generalize (gs[i]'hgi)=x at hx hone;refine⟨_,rfl,_,rfl,lg,_,_,_,rfl,rfl,SqL.of (sm _ _ hg),Zs hx,rfl,_,rfl,?_⟩;rcases hone with rfl|⟨n,rfl⟩
  ·refine iteT ?_;refine⟨_,rfl,_,rfl,_,rfl,l,lg,ls,rows,gs,i,rfl,sm _ _ hl,il.same sm,hrl,sm _ _ hg,FP,hi,SP i hx,fun H2 s2=>⟨_,rfl,?_⟩⟩;exact iteF ⟨⟨_,rfl⟩,sm.trans s2⟩
  ·exact iteF ⟨⟨_,rfl⟩,sm⟩
 ·rintro σ H' ⟨⟨v2,rfl⟩,sm⟩;exact h H' sm
abbrev Sg:Stmt:=top 75
theorem Xq:Zk ["_law_may","_law_given","_law_place","_law_steps_here","_law_here","_law_k","_law_spot","_law_number"] ["_law_may","_law_given","_law_place","_law_steps_here"] (Zi Sg):=fnS
theorem Jf(F:Fun K "_law_is_chain" "_law_is_chain" Sg f fd)(T:Tx K mg a)(zl0:Z1 P w K mg base "_law_whole" 1 ["_law_found"] N9):FnOk P w K mg base (CX1 P w) 2 f fd ["_law_may","_law_given","_law_place","_law_steps_here"] (Fw K):=by
 refine F.okX Xq ⋯ fun _ _ _ _ H _ Q E hr h=>?_;obtain⟨l,lg,lt,ls,rows,gs,ts,p,e,st,w,rfl,hl,il,hrl,hg,FP,hp,ht,tl,hst,hc,hw,h⟩:=h;refine⟨_,(Zb (Zx (Yj (Ye (Zm (Xh (K:=K) rfl) (by rfl) T.zlp PyProof.Rows.boot_isinstance (Za (pv 3) (Za (W7 rfl T.zmk PyProof.Rows.boot_list (show RelV (.ty "list") _ from rfl)) Zc)))))
  (Zd (Zl Yp))
  Zn)
 (Zb (pS 4 Xq.nd (pv 2))
 (Zb (Yf PassesOwn.leaving rfl (Yd rfl T.zlw (Za (Zm (cL K) (by rfl) T.zlq PySem.boot_len (Za (pv 3) Zc)) Zc)) (pN 5 Xq.nd)
  (Zb (Zx (PW.pt (We (Yj (Ye (Zm (Xh (K:=K) rfl) (by rfl) T.zlp PyProof.Rows.boot_isinstance (Za (pI (iL K) (pv 3) (pv 5)) (Za (W7 rfl T.zox PyProof.Rows.boot_tuple (show RelV (.ty "tuple") _ from rfl)) Zc))))) (Xn (Zp Qz (Zm (cL K) (by rfl) T.zlq PySem.boot_len (Za (pI (iL K) (pv 3) (pv 5)) Zc)) Zf (Zq _)))))
   (Zd (Zl Yp))
   Zn)
  (Zb (Ei (pI (iL K) (pv 3) (pv 5)) (V2 (K:=K) (n:=2) rfl rfl (Z6 (pN 6 Xq.nd) (Z6 (pN 7 Xq.nd) V0))))
  (Zb (Zx (PW.pt (We (Yj (Ye (pF zl0 hr (Za (pv 6) Zc)))) (Xn (Zp Qz (pv 6) (pv 4) (Zq _)))))
   (Zd (Zl Yp))
   Zn)
  (Zb (Zx (Zp R9 (pv 7) Y3 (Zq _))
   (Zd (Zl (Yx X8 (Zu Yk (pv 5) Zf) (Zm (cL K) (by rfl) T.zlq PySem.boot_len (Za (pv 3) Zc)) (Zq _))))
   Zn)
  (Zb (Zx (PW.pt (We (Yj (Ye (pF zl0 hr (Za (pv 7) Zc)))) (Xn (Zp (Xw (K:=K) rfl) (pv 7) (pI (iL K) (pv 0) (pv 4)) (by with_unfolding_all rfl)))))
   (Zd (Zl Yp))
   Zn)
  (Zb (Zx (Zp (Xw (K:=K) rfl) (pv 7) (pv 1) (by with_unfolding_all rfl))
   (Zd (Zl (Yx X8 (Zu Yk (pv 5) Zf) (Zm (cL K) (by rfl) T.zlq PySem.boot_len (Za (pv 3) Zc)) (Zq _))))
   Zn)
  (Zd (pS 4 Xq.nd (zax PySem.F.plainAttrs_list PySem.F.slot_list_index PySem.F.type_list_index J3 (pv 1) (Za (pv 7) Zc)))))))))))
 (Zd (Zl Yp))))),?_⟩
 show let y1:TS:=_;let y2:TS:=Zw _ y1;let y3:TS:=Zw _ y2;let y4:TS:=Zw _ y3;let y5:TS:=Zw _ y4;let y6:TS:=Zw _ y5;let y7:TS:=_;let y8:TS:=Zw (Ek _ _ (Zw _ y6)) y7;let y9:TS:=Zw _ y8;Zw _ y9 _ _ _;intro y1 y2 y3 y4 y5 y6 y7 y8 y9;have htl:ts.length=st.length:=by rw[tl.length,zs4]
 have hgf:gs.all U4=true:=zut.mpr fun z hz=>Ts (FP.one z hz);refine⟨_,rfl,_,_,_,_,rfl,.of (.lst ht),.inl ⟨_,rfl⟩,Nd K,_,rfl,?_⟩;refine iteF ?_;refine⟨_,rfl,?_⟩;refine⟨_,rfl,lt,_,rfl,.inl (SqL.of ht),_,rfl,by omega,by omega,?_⟩;rw[htl,ztl]
 let jv10:Nat->L2.St->Hp->Prop:=fun i σ H'=>H'=H/\∃ (q:Nat) (v5 v6 v7:Option V),σ=[some (.ref l),some (.ref lg),some (.int p),some (.ref lt),some (.int q),v5,v6,v7]/\q<rows.length/\Ch rows gs q (st.drop i) e w
 refine Ym jv10 ⟨rfl,p,_,_,_,rfl,hp,hc⟩ ?_ ?_
 ·rintro i σ H' hi ⟨rfl,q,v5,v6,v7,rfl,hq,hci⟩;rw[zuc];obtain⟨x,rest,ed⟩:=hci.hd;have hsi:st[i]?=some (q,x):=by
   have:(st.drop i)[0]?=some (q,x):=by rw[ed];rfl
   rw[List.getElem?_drop,Nat.add_zero] at this;exact this
  obtain⟨t,e1,htt⟩:=za7 tl hsi;have hlen:st.length=i+(rest.length+1):=by
   have:=congrArg List.length ed;rw[zu8,ztt] at this;omega
  walk_at "if";refine Wk (Y7 (b:=false) (Vh (b:=false) (c:=false) (fun Q k=>⟨_,rfl,_,rfl,lt,_,_,_,rfl,rfl,SqL.of ht,Zs e1,_,_,_,_,rfl,.of (.tup htt),.inl ⟨_,rfl⟩,Ez K,_,rfl,k⟩) (fun Q k=>⟨_,rfl,_,rfl,lt,_,_,_,rfl,rfl,SqL.of ht,Zs e1,t,_,rfl,.inr (SqT.of htt),rfl,_,rfl,k⟩)) (iteF (Zz ?_)));refine⟨_,rfl,_,rfl,lt,_,_,_,rfl,rfl,SqL.of ht,Zs e1,t,_,rfl,SqT.of htt,rfl,_,_,rfl,_,_,rfl,rfl,?_⟩;walk_at "if";refine Wk (Y7 (b:=false) (Vh (b:=false) (c:=false) (fun Q k=>⟨_,rfl,_,rfl,_,rfl,k⟩) (fun Q k=>⟨_,rfl,_,rfl,rfl,_,rfl,by rw[zta rfl];exact k⟩)) (iteF (Zz ?_)));have fin:rest.length=0->∀ {Q':VK},Q' (.bl true) H'->∀ {D:N5} {σ2:L2.St},D.rt=Q'->σ2[5]?=some (some (.int (i:Int)))->σ2[3]?=some (some (.ref lt))->zik (tOp rEq (tOp (rI0 fun i j=>V.int (i+j)) (tVar 5) (tC (V.int 1))) (tCB (fun xs H Q=>∃ p ys,xs=[V.ref p]/\(SqL K H p ys\/SqT K H p ys)/\Q (V.int (ys.length:Nat)) H) (zao (tVar 3) tNil))) D σ2 H':=fun h0 {Q'} q {D} {σ2} hD h5 h3=>by
   refine⟨_,h5,_,_,rfl,rfl,_,h3,lt,_,rfl,.inl (SqL.of ht),rfl,?_⟩;rw[hD,htl,zta (by rw[hlen,h0];rfl)];exact q
  refine⟨_,rfl,rfl,_,rfl,?_⟩;cases x with
  | none =>
    refine iteT ?_;have h0:rest.length=0:=by
     rw[ed] at hci;cases hci with
     | one q w=>rfl
    exact fin h0 h rfl rfl rfl
  | some n =>
    refine iteF (Zz ?_);have hr':rows[q]?=some (rows[q]'hq):=zs5 hq;generalize (rows[q]'hq)=r at hr';obtain⟨lr,e2,e3⟩:=il.getR hr';have hl':(ls.map V.ref)[q]?=some (.ref lr):=by rw[zs7,e2];rfl
    have hnr:n∈r:=by
     have:∃ r,rows[q]?=some r/\n∈r:=by
      rw[ed] at hci;cases hci with
      | one q w=>exact(hw n rfl).1
      | step a h=>exact a.1
     obtain⟨r',h1,h2⟩:=this;rw[hr'] at h1;cases h1;exact h2
    walk_at "if";refine Wk (Y7 (b:=false) (Vh (b:=false) (c:=false) (fun Q k=>⟨_,rfl,n,rfl,_,rfl,k⟩) (fun Q k=>⟨_,rfl,_,rfl,_,rfl,l,_,_,_,rfl,rfl,SqL.of hl,Zs hl',lr,_,rfl,.inl (SqL.of e3),rfl,Om r,_,rfl,by rw[show oV (some n)=V.int n from rfl,Sl,zta hnr];exact k⟩)) (iteF (Zz ?_)));refine⟨_,rfl,_,rfl,lg,gs,rfl,.inl (SqL.of hg),rfl,hgf,_,rfl,?_⟩;rw[if_pos rfl];rw[ed] at hci;cases hci with
    | one q w =>
      have hno:inV (.int n) gs=false:=by
       rw[Bool.eq_false_iff];intro z;obtain⟨j,hj⟩:=(Ru FP.one).mp z;exact(hw n rfl).2 j hj
      rw[show inV (oV (some n)) gs=false from hno];refine iteT ?_;exact fin rfl h rfl rfl rfl
    | @step q q' e n st' w a hc' =>
      have hin:inV (.int n) gs=true:=(Ru FP.one).mpr ⟨q',a.2⟩;rw[show inV (oV (some n)) gs=true from hin];refine iteF ?_;have hq':q' < rows.length:=by
       have:=(zs6.mp a.2).1;rw[FP.len] at this;exact this
      refine⟨_,rfl,.inl ⟨rfl,_,SqL.of hg⟩,_,rfl,lg,gs,.int n,q',rfl,rfl,hg,rfl,hgf,⟨_,a.2,by show (n == n)=true;simp⟩,fun m z hm hz=>?_,rfl,q',_,_,_,rfl,hq',?_⟩
      ·rw[Bool.eq_false_iff];intro k;have:=(Qd (FP.one z (ztb hz))).mp k;subst this;exact absurd (FP.inj m q' n hz a.2) ⋯
      ·have:st.drop (i+1)=rest:=by
        rw[<- List.drop_drop,ed];rfl
       rw[this];exact hc'
 ·rintro σ H' ⟨rfl,q,v5,v6,v7,rfl,hq,hci⟩;rw[List.drop_length] at hci;cases hci
abbrev Oh:Stmt:=top 76
theorem Wc:Zk ["_law_may","_law_given","_law_place","_law_known","_law_news","_law_more","_law_here","_law_there"] ["_law_may","_law_given","_law_place"] (Zi Oh):=fnS
theorem D4(F:Fun K "_law_steps" "_law_steps" Oh f fd)(T:Tx K mg a):FnOk P w K mg base (CX1 P w) 1 f fd ["_law_may","_law_given","_law_place"] (za9 K):=by
 refine F.okX Wc ⋯ fun _ _ _ _ H _ Q E hr h=>?_;obtain⟨l,lg,ls,rows,gs,p,rfl,hl,il,hrl,hg,FP,hp,h⟩:=h;have hu:=Vg hr;refine⟨_,(Zb (pS 3 Wc.nd (zas (Cn (pv 2) Zf zar) rfl rfl (by simp) ⋯))
 (Zb (pS 4 Wc.nd (Yl (Za (pv 2) Zc)))
 (Zb (N7 PassesOwn.leaving (Zp (za1 (K:=K) rfl hr.units) (pv 4) (Yl Zc) (Zq _))
  (Zb (pS 5 Wc.nd (Yl Zc))
  (Zb (Yf PassesOwn.leaving rfl (Z4 (K:=K) rfl (pv 4)) (pN 6 Wc.nd)
   (Zd (Yf PassesOwn.leaving rfl (Yd rfl T.zlw (Za (Zm (cL K) (by rfl) T.zlq PySem.boot_len (Za (pv 1) Zc)) Zc)) (pN 7 Wc.nd)
    (Zd (Zx (PW.pt (M3 (Zp (Ur (K:=K) rfl) (pI (iL K) (pv 1) (pv 7)) (pI (iL K) (pv 0) (pv 6)) (by with_unfolding_all rfl)) (Oi (Sw (Rp hu (pv 7) (pv 3))))))
     (Zb (V1 hu (pv 3) (pv 7) (Zu Yk (pD hu (pv 3) (pv 6)) Zf) rfl)
     (Zd (Yo (pv 5) (pv 7))))
     Zn)))))
  (Zd (pS 4 Wc.nd (pv 5))))))
 (Zd (Zl (pv 3)))))),?_⟩
 show let y1:TS:=_;let y2:TS:=Zw _ y1;let y3:TS:=_;let y4:TS:=Zw (Ej _ (Zw _ y2)) y3;let y5:TS:=Zw _ y4;Zw _ y5 _ _ _;intro y1 y2 y3 y4 y5;intro ld hld;refine⟨_,rfl,Ze,[(inl (p:Int),.int 1)],rfl,(by show 1<=15;decide),?_⟩;have s0:Same H (upd (upd H ld (.dK [])) ld (.dK (Vo [] [(inl (p:Int),.int 1)]))):=Z8 hld (Zo hld);have q0:upd (upd H ld (.dK [])) ld (.dK (Vo [] [(inl (p:Int),.int 1)])) ld=some (.dK (Y4 [p] (fun _=>0))):=Ze;generalize upd (upd H ld (.dK [])) ld (.dK (Vo [] [(inl (p:Int),.int 1)]))=H1 at s0 q0;refine⟨_,rfl,sz1,fun ln hln=>?_⟩;refine al (upd _ ln _) hln rfl fun H2 TH2 s1=>?_;have e1:H2 ln=some (.lst (Yc [p])):=TH2;have q1:=s1 _ _ q0;have s01:=s0.trans s1;have nln:ld≠ln:=Zg q0 hln;have fln:H ln=none:=s0.free hln;have hbound:∀ line:List Nat,line.Nodup->(∀ c∈line,c<rows.length)->line.length<=rows.length:=fun line nd hc=>by
  have:=nd.length_le_of_subset (l₂:=List.range rows.length) fun c hcc=>zt5.mpr (hc c hcc);rw[ztr] at this;exact this
 refine⟨fun m σ H'=>∃ (line pre news:List Nat) (dep:Nat->Nat) (ln:Addr) (v5 v6 v7:Option V) (D:Nat),m=rows.length-pre.length/\line=pre++news/\σ=[some (.ref l),some (.ref lg),some (.int p),some (.ref ld),some (.ref ln),v5,v6,v7]/\Same H H'/\H' ld=some (.dK (Y4 line dep))/\H' ln=some (.lst (Yc news))/\ln≠ld/\Bfs rows gs p line dep/\Done rows gs line dep pre.length/\(∀ q∈line,q<rows.length)/\(∀ q∈line,dep q<=D)/\∀ q∈news,dep q=D,
  ⟨_,[p],[],[p],fun _=>0,ln,_,_,_,0,rfl,rfl,rfl,s01,q1,e1,Ne.symm nln,Fv rows gs p,fun i q hi=>absurd hi (zu2 _),by simpa using hp,fun q _=>ztc _,fun q _=>rfl⟩,?_⟩
 rintro m σ Ha ⟨line,pre,news,dep,ln',v5,v6,v7,D,rfl,rfl,rfl,sa,hda,hna,nn,B,Dn,hlt,hD1,hD2⟩;have hll:=hbound _ B.nodup hlt;rw[zs8] at hll;refine⟨_,rfl,by show 0<=sizeLine;decide,fun m0 hm0=>⟨.lst ((news.map fun (k:Nat)=>((k:Nat):Int)).map Dt.int),.lst [],.lst (SqL.of (Zo hm0 _ _ hna)) (E5 news),.lst (SqL.of Ze) .nil,Mb _,Jl,_,rfl,?_⟩⟩;rw[if_pos rfl,Jm];refine al (upd _ m0 _) hm0 rfl fun Hb _ t0=>?_;have sb:=sa.trans t0;have hdb:=t0 _ _ hda;have hnb:=t0 _ _ hna;cases hne:(news.map fun (k:Nat)=>((k:Nat):Int)).isEmpty with
 | true =>
   refine iteF ?_;have e0:news=[]:=by
    cases news with
    | nil=>rfl
    | cons x xs=>cases hne
   subst e0;rw[zui] at hdb B Dn hlt;exact⟨_,rfl,h ld pre dep Hb hdb B Dn hlt sb hld⟩
 | false =>
   refine iteT ?_;have npos:0<news.length:=by
    cases news with
    | nil=>cases hne
    | cons x xs=>rw[ztt];omega
   refine⟨fun σ' H'=>∃ (more:List Nat) (dep:Nat->Nat) (lm:Addr) (v5 v6 v7:Option V),σ'=[some (.ref l),some (.ref lg),some (.int p),some (.ref ld),some (.ref lm),v5,v6,v7]/\Same H H'/\H' ld=some (.dK (Y4 (pre++news++more) dep))/\H' lm=some (.lst (Yc more))/\lm≠ld/\Bfs rows gs p (pre++news++more) dep/\Done rows gs (pre++news++more) dep (pre++news).length/\(∀ q∈pre++news++more,q<rows.length)/\(∀ q∈pre++news++more,dep q<=D+1)/\∀ q∈more,dep q=D+1,
    fun σ' H' ⟨more,dep',lm,w5,w6,w7,a1,a2,a3,a4,a5,a6,a7,a8,a9,a10⟩=>⟨rows.length-(pre++news).length,by rw[zs8];omega,_,pre++news,more,dep',lm,w5,w6,w7,D+1,rfl,rfl,a1,a2,a3,a4,a5,a6,a7,a8,a9,a10⟩,?_⟩
   refine⟨by show 0<=sizeLine;decide,fun lm hlm=>?_⟩;refine al (upd _ lm _) hlm rfl fun Hc THc t1=>?_;have sc:=sb.trans t1;have hdc:=t1 _ _ hdb;have hnc:=t1 _ _ hnb;have qm:Hc lm=some (.lst (Yc [])):=THc;have nmd:lm≠ld:=Ne.symm (Zg hdb hlm);have nmn:ln'≠lm:=Zg hnb hlm;have flm:H lm=none:=sb.free hlm;refine⟨_,rfl,ln',rfl,⟨_,SqL.of hnc⟩,?_⟩
   let jv11:Nat->L2.St->Hp->Prop:=fun j σ H'=>∃ (more:List Nat) (dep:Nat->Nat) (v6 v7:Option V),σ=[some (.ref l),some (.ref lg),some (.int p),some (.ref ld),some (.ref ln'),some (.ref lm),v6,v7]/\Same H H'/\H' ln'=some (.lst (Yc news))/\H' ld=some (.dK (Y4 (pre++news++more) dep))/\H' lm=some (.lst (Yc more))/\Bfs rows gs p (pre++news++more) dep/\Done rows gs (pre++news++more) dep (pre.length+j)/\(∀ q∈pre++news++more,q<rows.length)/\(∀ q∈pre++news++more,dep q<=D+1)/\(∀ q∈news,dep q=D)/\∀ q∈more,dep q=D+1
   refine Xi (K:=K) (a:=ln') (xs:=Yc news) jv11
    ⟨[],dep,_,_,rfl,sc,hnc,by rw[zui];exact hdc,qm,by rw[zui];exact B,by rw[zui];exact Dn,by rw[zui];exact hlt,by rw[zui];exact fun q hq=>zuq (hD1 q hq),hD2,by simp⟩ (by rintro j σ H' _ ⟨_,_,_,_,_,_,z,_⟩;exact SqL.of z) ?_ ?_
   ·rintro j y σ Hx hy ⟨more,dx,w6,w7,rfl,sx,hnx,hdx,hmx,Bx,Dx,hlx,hd1,hd2,hd3⟩;have hj:j<news.length:=by
     have:=(zs6.mp hy).1;unfold Yc at this;rw[zs4] at this;exact this
    have hnj:news[j]?=some (news[j]'hj):=zs5 hj;generalize (news[j]'hj)=here at hnj;have ey:y=.int here:=by unfold Yc at hy;rw[zs7,hnj] at hy;exact(Option.some.inj hy).symm
    subst ey;have hhn:=ztb hnj;have hhere:here<rows.length:=hlx here (ztu _ (zth _ hhn));have hidx:∀ more:List Nat,(pre++news++more)[pre.length+j]?=some here:=fun more=>by
     rw[zuo,zt4 ⋯,Nat.add_sub_cancel_left,zt7 hj];exact hnj
    have hr':rows[here]?=some (rows[here]'hhere):=zs5 hhere;generalize (rows[here]'hhere)=r at hr';obtain⟨lr,e2,e3⟩:=il.getR hr';have hl':(ls.map V.ref)[here]?=some (.ref lr):=by rw[zs7,e2];rfl
    refine⟨_,rfl,lg,_,rfl,.inl (SqL.of (sx _ _ hg)),_,rfl,by omega,by rw[FP.len];omega,?_⟩;rw[FP.len,ztl]
    let jv12:Nat->L2.St->Hp->Prop:=fun t σ H'=>∃ (more:List Nat) (dep:Nat->Nat) (v7:Option V),σ=[some (.ref l),some (.ref lg),some (.int p),some (.ref ld),some (.ref ln'),some (.ref lm),some (.int here),v7]/\Same H H'/\H' ln'=some (.lst (Yc news))/\H' ld=some (.dK (Y4 (pre++news++more) dep))/\H' lm=some (.lst (Yc more))/\Bfs rows gs p (pre++news++more) dep/\Done rows gs (pre++news++more) dep (pre.length+j)/\(∀ q∈pre++news++more,q<rows.length)/\(∀ q∈pre++news++more,dep q<=D+1)/\(∀ q∈news,dep q=D)/\(∀ q∈more,dep q=D+1)/\∀ q',q' < t->∀ n,adjN rows gs here n q'->q'∈pre++news++more
    refine Ym jv12
     ⟨more,dx,_,rfl,sx,hnx,hdx,hmx,Bx,Dx,hlx,hd1,hd2,hd3,fun q' hq'=>absurd hq' (zu2 _)⟩ ?_ ?_
    ·rintro t σ Hy ht ⟨more,dy,u7,rfl,sy,hny,hdy,hmy,By,Dy,hly,hy1,hy2,hy3,hy4⟩;rw[zuc];have hgt:t<gs.length:=by rw[FP.len];exact ht
     have hx:gs[t]?=some (gs[t]'hgt):=zs5 hgt;have hone:=FP.one _ (ztw hgt);generalize (gs[t]'hgt)=x at hx hone;have hyl:=hbound _ By.nodup hly;have hdh:dy here=D:=hy2 here hhn;refine Y7 (b:=inV x (r.map V.int) && !(valV (Y4 (pre++news++more) dy) (inl (t:Int):Key)).isSome) (zci (fun Q k=>⟨_,rfl,_,rfl,lg,_,_,_,rfl,rfl,SqL.of (sy _ _ hg),Zs hx,_,rfl,_,rfl,l,_,_,_,rfl,rfl,SqL.of (sy _ _ hl),Zs hl',lr,_,rfl,.inl (SqL.of (sy _ _ e3)),Ts hone,Om r,_,rfl,k⟩) (fun Q k=>⟨_,rfl,_,rfl,ld,_,rfl,DGet.k (k:=inl (t:Int)) hdy,_,rfl,k⟩)) ?_;refine itB (fun hb=>?_) (fun hb=>?_)
     ·rw[zus] at hb;obtain⟨b1,b2⟩:=hb;have hnt:t∉pre++news++more:=fun z=>by rw[Mc z] at b2;cases b2
      obtain⟨n,rfl⟩:∃ n,x=.int n:=by
       rcases hone with rfl|z
       ·exfalso
        unfold inV at b1;obtain⟨w',hw',ew⟩:=List.any_eq_true.mp b1;obtain⟨z,_,rfl⟩:=zte.mp hw';cases ew
       ·exact z
      rw[Sl,decide_eq_true_eq] at b1;have ha:adjN rows gs here n t:=⟨⟨r,hr',b1⟩,hx⟩;obtain⟨B',old,all⟩:=By.app (dn:=pre.length+j) (hidx more) (fun z hz=>by rw[hdh];exact hy1 z hz) ha hnt;have hkh:valV (Y4 (pre++news++more) dy) (inl (here:Int):Key)=some (.int ((dy here+1:Nat):Int)):=Mc (ztu _ (zth _ hhn));have hget:DGet Hy ld (.int here) (some (.int ((dy here+1:Nat):Int))):=by rw[<- hkh];exact DGet.k (k:=inl (here:Int)) hdy
      refine⟨_,rfl,_,rfl,ld,_,rfl,hget,_,_,rfl,rfl,_,rfl,_,rfl,ld,_,rfl,DPut.k (k:=inl (t:Int)) hdy (Yn (by rw[zcl];omega)),?_⟩;have ek:putK (Y4 (pre++news++more) dy) (inl (t:Int)) (.int (((dy here+1:Nat):Int)+1))=Y4 (pre++news++(more++[t])) (Xx dy t (dy here+1)):=by
       rw[show (((dy here+1:Nat):Int)+1)=((dy here+1+1:Nat):Int) from rfl,zck hnt,zuo (pre++news)]
      rw[ek];have hm2:upd Hy ld (.dK (Y4 (pre++news++(more++[t])) (Xx dy t (dy here+1)))) lm=some (.lst (Yc more)):=by rw[Zh nmd];exact hmy
      refine⟨_,rfl,lm,_,rfl,hm2,_,rfl,_,hm2,Yn (by unfold Yc;rw[zs4];rw[zs8] at hyl;omega),?_⟩;rw[zuo (pre++news)] at B' all;refine⟨more++[t],Xx dy t (dy here+1),_,rfl,Z8 flm (Z8 hld sy),?_,?_,?_,B',?_,?_,?_,?_,?_,?_⟩
      ·rw[Zh nmn,Zh nn];exact hny
      ·rw[Zh (Ne.symm nmd),Ze]
      ·rw[Ze];unfold Yc;rw[zti];rfl
      ·exact Dy.app (by rw[zs8,zs8];omega) ⟨[t],by rw[zuo (pre++news)]⟩ old
      ·intro q hq;rw[<- zuo] at hq;rcases ztg.mp hq with z|z
       ·exact hly q z
       ·rw[zs9.mp z];exact ht
      ·intro q hq;have:=all q hq;omega
      ·intro q hq;rw[old q (ztu _ (zth _ hq))];exact hy2 q hq
      ·intro q hq;rcases ztg.mp hq with z|z
       ·rw[old q (zth _ z)];exact hy3 q z
       ·rw[zs9.mp z];unfold Xx;rw[if_pos rfl,hdh]
      ·intro q' hq' n' a';rw[<- zuo];by_cases hqt:q'=t
       ·rw[hqt];exact zth _ (by simp)
       ·exact ztu _ (hy4 q' ⋯ n' a')
     ·refine⟨more,dy,_,rfl,sy,hny,hdy,hmy,By,Dy,hly,hy1,hy2,hy3,fun q' hq' n' a'=>?_⟩;by_cases hqt:q'=t
      ·subst hqt;have hxn:x=.int n':=by have:=a'.2;rw[hx] at this;exact Option.some.inj this
       subst hxn;obtain⟨r',g1,g2⟩:=a'.1;rw[hr'] at g1;cases g1;rw[Sl,zta g2,Bool.true_and] at hb;cases hv:decide (q'∈pre++news++more) with
       | true=>exact of_decide_eq_true hv
       | false=>rw[Fx (of_decide_eq_false hv)] at hb;cases hb
      ·exact hy4 q' ⋯ n' a'
    ·rintro σ Hy ⟨more,dy,u7,rfl,sy,hny,hdy,hmy,By,Dy,hly,hy1,hy2,hy3,hy4⟩;refine⟨more,dy,_,_,rfl,sy,hny,hdy,hmy,By,fun i q hi e n q' a'=>?_,hly,hy1,hy2,hy3⟩;by_cases hij:i<pre.length+j
     ·exact Dy i q hij e n q' a'
     ·have:i=pre.length+j:=by omega
      subst this;rw[hidx more] at e;cases e;have hq':q' < rows.length:=by
       have:=(zs6.mp a'.2).1;rw[FP.len] at this;exact this
      have hin:=hy4 q' hq' n a';exact⟨hin,by rw[hy2 here hhn];exact hy1 q' hin⟩
   ·rintro σ Hx ⟨more,dx,w6,w7,rfl,sx,hnx,hdx,hmx,Bx,Dx,hlx,hd1,hd2,hd3⟩;refine⟨_,rfl,more,dx,lm,_,_,_,rfl,sx,hdx,hmx,nmd,Bx,?_,hlx,hd1,hd3⟩;rw[zs8];unfold Yc at Dx;rw[zs4] at Dx;exact Dx
abbrev Rl:Stmt:=top 77
theorem Uk:Zk ["_law_may","_law_given","_law_known","_law_counts","_law_here","_law_number"] ["_law_may","_law_given","_law_known"] (Zi Rl):=fnS
theorem Ge(F:Fun K "_law_to_free" "_law_to_free" Rl f fd)(T:Tx K mg a):FnOk P w K mg base (CX1 P w) 1 f fd ["_law_may","_law_given","_law_known"] (C4 K):=by
 refine F.okX Uk ⋯ fun _ _ _ _ H _ Q E hr h=>?_;obtain⟨l,lg,lk,ls,rows,gs,line,dep,rfl,hl,il,hrl,hrr,hg,ho,hk,nd,hlt,h⟩:=h;have hu:=Vg hr;refine⟨_,(Zb (pS 3 Uk.nd (Yl Zc))
 (Zb (Yf PassesOwn.leaving rfl (Z4 (K:=K) rfl (Xo (Nb rfl) (by rfl) T.zmk PyProof.Rows.boot_list (Za (pv 2) Zc))) (pN 4 Uk.nd)
  (Zd (Yf PassesOwn.leaving rfl (Z4 (K:=K) rfl (pI (iL K) (pv 0) (pv 4))) (pN 5 Uk.nd)
   (Zd (Zx (Zp (Xw (K:=K) rfl) (pv 5) (pv 1) (by with_unfolding_all rfl))
    (Zd (Yo (pv 3) (pD hu (pv 2) (pv 4))))
    Zn)))))
 (Zd (Zl (zf3 (K:=K) rfl rfl rfl T.zqk (Za (pv 3) Zc) (zfl Zf zha)))))),?_⟩
 have big:1000000<sizeLine:=by rw[sizeLine_eq];decide
 have hgf:gs.all U4=true:=zut.mpr fun z hz=>Ts (ho z hz);have hll:line.length<=rows.length:=by
  have:=nd.length_le_of_subset (l₂:=List.range rows.length) fun c hcc=>zt5.mpr (hlt c hcc);rw[ztr] at this;exact this
 refine⟨by show 0<=sizeLine;decide,fun lc hlc=>?_⟩;refine al (upd _ lc _) hlc rfl fun H1 TH1 s1=>?_;have e1:H1 lc=some (.lst ([]:List V)):=TH1;refine⟨_,rfl,lk,_,rfl,.inl (s1 _ _ hk),fun ln hln=>?_⟩;rw[A5];refine al (upd _ ln _) hln rfl fun H2 e2 s2=>?_;have e12:=s2 _ _ e1;have s12:=s1.trans s2;have nlc:ln≠lc:=Ne.symm (Zg e1 hln);refine⟨ln,rfl,⟨_,SqL.of e2⟩,?_⟩
 let jv13:Nat->L2.St->Hp->Prop:=fun i σ' H'=>∃ (cs:List Nat) (v4 v5:Option V),σ'=[some (.ref l),some (.ref lg),some (.ref lk),some (.ref lc),v4,v5]/\Same H H'/\H' ln=some (.lst (Yc line))/\H' lc=some (.lst (Yc cs))/\cs.length<=i*1000/\(∀ c∈cs,∃ q∈line,Xl rows gs q/\c=dep q+1)/\∀ (j q:Nat),j<i->line[j]?=some q->Xl rows gs q->dep q+1∈cs
 refine Xi (K:=K) (a:=ln) (xs:=Yc line) jv13
  ⟨[],_,_,rfl,s12,e2,e12,by simp,by simp,fun j q hj=>absurd hj (zu2 _)⟩ (by rintro i σ' H' _ ⟨_,_,_,_,_,z,_⟩;exact SqL.of z) ?_ ?_
 ·rintro i y σ' Hx hy ⟨cs,v4,v5,rfl,sx,hnx,hcx,hcl,h1,h2⟩;have hi:i<line.length:=by
   have:=(zs6.mp hy).1;unfold Yc at this;rw[zs4] at this;exact this
  have hli:line[i]?=some (line[i]'hi):=zs5 hi;generalize (line[i]'hi)=here at hli;have ey:y=.int here:=by unfold Yc at hy;rw[zs7,hli] at hy;exact(Option.some.inj hy).symm
  subst ey;have hhm:=ztb hli;have hhere:=hlt here hhm;have hr':rows[here]?=some (rows[here]'hhere):=zs5 hhere;generalize (rows[here]'hhere)=r at hr';have hrl2:=hrr r (ztb hr');obtain⟨lr,e3,e4⟩:=il.getR hr';have hl':(ls.map V.ref)[here]?=some (.ref lr):=by rw[zs7,e3];rfl
  refine⟨_,rfl,_,rfl,l,_,_,_,rfl,rfl,SqL.of (sx _ _ hl),Zs hl',lr,rfl,⟨_,SqL.of (sx _ _ e4)⟩,?_⟩
  let jv14:Nat->L2.St->Hp->Prop:=fun j σ' H'=>∃ (cs:List Nat) (v5:Option V),σ'=[some (.ref l),some (.ref lg),some (.ref lk),some (.ref lc),some (.int here),v5]/\Same H H'/\H' ln=some (.lst (Yc line))/\H' lc=some (.lst (Yc cs))/\cs.length<=i*1000+j/\(∀ c∈cs,∃ q∈line,Xl rows gs q/\c=dep q+1)/\(∀ (j q:Nat),j<i->line[j]?=some q->Xl rows gs q->dep q+1∈cs)/\∀ n∈r.take j,(∀ k:Nat,gs[k]?≠some (.int n))->dep here+1∈cs
  refine Xi (K:=K) (a:=lr) (xs:=r.map V.int) jv14
   ⟨cs,_,rfl,sx,hnx,hcx,by omega,h1,h2,by simp⟩ (by rintro j σ' H' _ ⟨_,_,_,z,_⟩;exact SqL.of (z _ _ e4)) ?_ ?_
  ·rintro j y σ' Hy hy ⟨cs,v5,rfl,sy,hny,hcy,hcl,h1,h2,h3⟩;have hj:j<r.length:=by have:=(zs6.mp hy).1;rw[zs4] at this;exact this
   have hrj:r[j]?=some (r[j]'hj):=zs5 hj;have etk:r.take (j+1)=r.take j++[r[j]'hj]:=ztp hj;generalize (r[j]'hj)=n at hrj etk;have ey:y=.int n:=by rw[zs7,hrj] at hy;exact(Option.some.inj hy).symm
   subst ey;refine Y7 (b:=!inV (.int n) gs) (fun Q k=>⟨_,rfl,_,rfl,lg,gs,rfl,.inl (SqL.of (sy _ _ hg)),rfl,hgf,_,rfl,k⟩) ?_;cases hin:inV (.int n) gs with
   | true =>
     refine iteF (Zz ⟨cs,_,rfl,sy,hny,hcy,by omega,h1,h2,fun m hm hno=>?_⟩);rw[etk] at hm;rcases ztg.mp hm with z|z
     ·exact h3 m z hno
     ·rw[zs9.mp z] at hno;obtain⟨k,hk⟩:=(Ru ho).mp hin;exact absurd hk (hno k)
   | false =>
     have hno:∀ k:Nat,gs[k]?≠some (.int n):=fun k hk=>by
      rw[(Ru ho).mpr ⟨k,hk⟩] at hin;cases hin
     have hf:Xl rows gs here:=⟨n,⟨r,hr',ztb hrj⟩,hno⟩;have hkv:valV (Y4 line dep) (inl (here:Int):Key)=some (.int ((dep here+1:Nat):Int)):=Mc hhm;have hget:DGet Hy lk (.int here) (some (.int ((dep here+1:Nat):Int))):=by rw[<- hkv];exact DGet.k (k:=inl (here:Int)) (sy _ _ hk)
     have hsz:(Yc cs).length<sizeLine:=by
      unfold Yc;rw[zs4];have:i*1000<=100*1000:=Nat.mul_le_mul_right _ ⋯;omega
     refine iteT ⟨_,rfl,lc,_,rfl,hcy,_,rfl,_,rfl,lk,_,rfl,hget,_,hcy,hsz,cs++[dep here+1],_,rfl,Z8 hlc sy,?_,?_,?_,?_,?_,?_⟩
     ·rw[Zh nlc];exact hny
     ·rw[Ze];unfold Yc;rw[zti];rfl
     ·rw[zs8];show cs.length+1<=_;omega
     ·intro c hc;rcases ztg.mp hc with z|z
      ·exact h1 c z
      ·rw[zs9.mp z];exact⟨here,hhm,hf,rfl⟩
     ·intro j q hj hq hqf;exact ztu _ (h2 j q hj hq hqf)
     ·intro m hm hno;exact zth _ (zs9.mpr rfl)
  ·rintro σ' Hy ⟨cs,v5,rfl,sy,hny,hcy,hcl,h1,h2,h3⟩;rw[zs4] at hcl;rw[zs4,zto] at h3;refine⟨cs,_,_,rfl,sy,hny,hcy,by omega,h1,fun j q hj hq hqf=>?_⟩;by_cases e:j=i
   ·rw[e,hli] at hq;cases hq;obtain⟨n,⟨r2,g1,g2⟩,g3⟩:=hqf;rw[hr'] at g1;cases g1;exact h3 n g2 g3
   ·exact h2 j q ⋯ hq hqf
 ·rintro σ' Hx ⟨cs,v4,v5,rfl,sx,hnx,hcx,hcl,h1,h2⟩;unfold Yc at h2;rw[zs4] at h2;have ec:Yc cs=(cs.map fun c:Nat=>(c:Int)).map V.int:=by unfold Yc;rw[zud];rfl
  refine⟨_,rfl,lc,cs.map fun c:Nat=>(c:Int),_,rfl,rfl,by rw[<- ec];exact SqL.of hcx,fun z=>?_,fun M hM hmin=>?_⟩
  ·have z':cs=[]:=List.map_eq_nil_iff.mp z;subst z';refine h 0 Hx (.inl ⟨rfl,fun q hq hqf=>?_⟩) sx;obtain⟨j,hj,e⟩:=zt2 hq;have:=h2 j q hj (by rw[zs5 hj,e]) hqf;cases this
  ·obtain⟨c,hc,rfl⟩:=zte.mp hM;obtain⟨q,hq,hqf,rfl⟩:=h1 c hc;refine h (dep q+1) Hx (.inr ⟨by omega,⟨q,hq,hqf,rfl⟩,fun q2 hq2 hqf2=>?_⟩) sx;obtain⟨j,hj,e⟩:=zt2 hq2;have hm:=h2 j q2 hj (by rw[zs5 hj,e]) hqf2;have:=hmin _ (zte.mpr ⟨_,hm,rfl⟩);omega
def Gf(K:Frag):Sp:=fun vs H Q _=>∃ (l lg lt:Addr) (ls:List Addr) (rows:List (List Int)) (nu:List Int) (gs ts:List V) (p e:Nat) (st:List (Nat×Option Int)) (w:Option Int),vs=[.ref l,.ref lg,.int p,.ref lt]/\H l=some (.lst (ls.map V.ref))/\ILs H ls rows/\Ws rows nu/\H lg=some (.lst gs)/\Ya rows gs/\p<rows.length/\H lt=some (.lst ts)/\TupL H ts (st.map Wf)/\Y2 rows gs p st e w/\∀ H',Same H H'->Q (.bl true) H'
abbrev Vx:Stmt:=top 78
theorem X3:Zk ["_law_may","_law_given","_law_place","_law_steps_here","_law_known","_law_free","_law_low"] ["_law_may","_law_given","_law_place","_law_steps_here"] (Zi Vx):=fnS
theorem O1(F:Fun K "_law_chain_is_due" "_law_chain_is_due" Vx f fd)(T:Tx K mg a)(zn3:Z1 P w K mg base "_law_is_chain" 2 ["_law_may","_law_given","_law_place","_law_steps_here"] (Fw K))(zpb:Z1 P w K mg base "_law_steps" 1 ["_law_may","_law_given","_law_place"] (za9 K))(zoc:Z1 P w K mg base "_law_to_free" 1 ["_law_may","_law_given","_law_known"] (C4 K)):FnOk P w K mg base (CX1 P w) 3 f fd ["_law_may","_law_given","_law_place","_law_steps_here"] (Gf K):=by
 refine F.okX X3 ⋯ fun _ _ _ _ H _ Q E hr h=>?_;obtain⟨l,lg,lt,ls,rows,nu,gs,ts,p,e,st,w',rfl,hl,il,MO,hg,FP,hp,hlt,tl,CR,h⟩:=h;have hu:=Vg hr;refine⟨_,(Zb (Zx (Yj (Ye (pF zn3 hr (Za (pv 0) (Za (pv 1) (Za (pv 2) (Za (pv 3) Zc)))))))
  (Zd (Zl Yp))
  Zn)
 (Zb (pS 4 X3.nd (pF zpb hr (Za (pv 0) (Za (pv 1) (Za (pv 2) Zc)))))
 (Zb (pS 5 X3.nd (pF zoc hr (Za (pv 0) (Za (pv 1) (Za (pv 4) Zc)))))
 (Zb (Zx (Zp Q0 (pv 5) Zf (Zq _))
  (Zd (Zl (Sx (Yx Si (pI (iU K) (pI (iL K) (pv 3) (Qy U9 Zf)) Zf) Y3 (Zq _)) (U8 (Yx X8 (Zm (cL K) (by rfl) T.zlq PySem.boot_len (Za (pv 3) Zc)) (pv 5) (Zq _))))))
  Zn)
 (Zb (pS 6 X3.nd (Zm (zcm (K:=K) rfl rfl) (by rfl) T.zqq PyProof.Rows.boot_max (Za (Xo (Nb rfl) (by rfl) T.zmk PyProof.Rows.boot_list (Za (pv 4) Zc)) Zc)))
 (Zd (Zl (Sx (Yx (Ey (K:=K) rfl hr.units) (pI (iL K) (pv 3) (Qy U9 Zf)) (Xg (Za (pv 6) (Za Y3 Zc))) (Zq _)) (U8 (Yx X8 (Zm (cL K) (by rfl) T.zlq PySem.boot_len (Za (pv 3) Zc)) (pD hu (pv 4) (pv 6)) (Zq _))))))))))),?_⟩
 have hr100:rows.length<=100:=ztk MO.few ⋯;have hst100:st.length<=100:=ztk (CR.len FP hp) hr100;refine⟨_,rfl,_,rfl,_,rfl,_,rfl,l,lg,lt,ls,rows,gs,ts,p,e,st,w',rfl,hl,il,hr100,hg,FP,hp,hlt,tl,hst100,CR.ch,(fun n hn=>(CR.free n hn).1),_,rfl,?_⟩;refine iteF ?_;refine⟨_,rfl,_,rfl,_,rfl,l,lg,ls,rows,gs,p,rfl,hl,il,hr100,hg,FP,hp,fun ld line dep H8 hd B Dn hlt' s8 _=>?_⟩;refine⟨_,rfl,_,rfl,_,rfl,l,lg,ld,ls,rows,gs,line,dep,rfl,s8 _ _ hl,il.same s8,hr100,fun r hr=>ztk (MO.len hr) ⋯,s8 _ _ hg,FP.one,hd,B.nodup,hlt',fun c H9 FC s9=>?_⟩;have s89:=s8.trans s9;have hlt9:=s89 _ _ hlt;have tl9:=tl.same s89;have hd9:=s9 _ _ hd;have htl:ts.length=st.length:=by rw[tl9.length,zs4]
 obtain⟨tt,g1,g2⟩:=zem tl9 CR.ch.lastStep;walk_at "if";rcases FC.chain B Dn CR with ⟨rfl,rfl⟩|⟨hc0,hw,hlen⟩
 ·refine Wk (Y7 (b:=false) (fun Q k=>⟨_,rfl,_,_,rfl,rfl,_,rfl,k⟩) (iteF (Zz ?_)));obtain⟨_,c2,c3⟩:=CR.none rfl;have cw:=CR.ch.walk;have cp:=CR.ch.pos;obtain⟨eline,edep⟩:=B.full Dn cw;have elen:st.length=dep e+1:=by
   have:=c3 _ (B.walk e eline);omega
  have emax:∀ q∈line,q<=e:=fun q hq=>c2 q _ (B.walk q hq);have hkeys:((Y4 line dep).map fun kv=>kV kv.1)=(line.map fun (q:Nat)=>((q:Nat):Int)).map V.int:=by
   unfold Y4;rw[zud,zud];rfl
  refine⟨_,rfl,ld,_,rfl,.inl hd9,fun ll hll=>?_⟩;rw[hkeys];refine⟨ll,line.map fun (q:Nat)=>((q:Nat):Int),rfl,SqL.of Ze,by rw[zs4];exact List.length_pos_of_mem eline,fun M hM hmax=>?_⟩;have hMe:M=(e:Int):=by
   obtain⟨q,hq,rfl⟩:=zte.mp hM;have h1:=emax q hq;have h2:=hmax (e:Int) (zte.mpr ⟨e,eline,rfl⟩);omega
  subst hMe;refine al (upd _ ll _) hll rfl fun H10 _ t9=>?_;have hd10:=t9 _ _ hd9;have s10:=s89.trans t9;have hlt10:=t9 _ _ hlt9;have g10:=t9 _ _ g2;refine⟨_,rfl,_,rfl,lt,_,_,_,rfl,rfl,SqL.of hlt10,g1,_,rfl,sz2,fun t10 ht10=>?_⟩;have t10':=Zo (o:=.tup [.int e,.non]) ht10;refine⟨.tup [.int e,.non],.tup [.int e,.non],.tup (SqT.of (t10' _ _ g10)) (.cons (.int _) (.cons .non .nil)),.tup (SqT.of Ze) (.cons (.int _) (.cons .non .nil)),?_,?_,?_⟩
  ·unfold shD SeqAt.shaped;simp[toPy,U5,PyData.canLay0,PyData.canLayAll0,PyData.depth,PyData.depthAll]
  ·unfold shD SeqAt.shaped;simp[toPy,U5,PyData.canLay0,PyData.canLayAll0,PyData.depth,PyData.depthAll]
  ·rw[Cs];refine⟨true,rfl,iteT ?_⟩;have hk:valV (Y4 line dep) (inl (e:Int):Key)=some (.int ((dep e+1:Nat):Int)):=Mc eline;have hget:DGet (upd H10 t10 (HO.tup [V.int e,V.non])) ld (.int e) (some (.int ((dep e+1:Nat):Int))):=by
    rw[<- hk];exact DGet.k (k:=inl (e:Int)) (t10' _ _ hd10)
   refine⟨_,rfl,lt,ts,rfl,.inl (SqL.of (t10' _ _ hlt10)),_,rfl,_,rfl,ld,_,rfl,hget,rfl,?_⟩;rw[htl,elen,zta rfl];exact h _ (s10.trans t10')
 ·refine Wk (Y7 (b:=true) (fun Q k=>⟨_,rfl,_,_,rfl,rfl,_,rfl,?_⟩) (iteT ?_))
  ·rw[zta (show (0:Int)<((c:Nat):Int) by omega)];exact k
  cases w' with
  | none=>exact absurd rfl hw
  | some n =>
    refine⟨_,rfl,_,rfl,lt,_,_,_,rfl,rfl,SqL.of hlt9,g1,tt,_,_,_,rfl,rfl,SqT.of g2,rfl,rfl,true,rfl,iteT ?_⟩;refine⟨_,rfl,lt,ts,rfl,.inl (SqL.of hlt9),_,rfl,rfl,?_⟩;rw[htl,hlen,zta rfl];exact h _ s89
abbrev Ul:Stmt:=top 79
theorem Y5:Zk ["_law_found","_law_may","_law_left","_law_past_here","_law_due","_law_place","_law_number"] ["_law_found","_law_may","_law_left"] (Zi Ul):=fnS
theorem N3(F:Fun K "_law_is_shortage" "_law_is_shortage" Ul f fd)(T:Tx K mg a)(zl0:Z1 P w K mg base "_law_whole" 1 ["_law_found"] N9)(zlr:Z1 P w K mg base "_law_list_is" 3 ["_law_found","_law_due"] (Pm K)):FnOk P w K mg base (CX1 P w) 4 f fd ["_law_found","_law_may","_law_left"] (F2 K):=by
 refine F.okX Y5 ⋯ fun _ _ _ _ H _ Q E hr h=>?_;obtain⟨t,l,lp,lr,ls,rows,nu,gs,ps,rs,rfl,ht,hl,il,mo,hp,hrs,SP,h⟩:=h;have hu:=Vg hr;refine⟨_,(Zb (Zx (PW.pt (We (Yj (Ye (Zm (Xh (K:=K) rfl) (by rfl) T.zlp PyProof.Rows.boot_isinstance (Za (pv 0) (Za (W7 rfl T.zox PyProof.Rows.boot_tuple (show RelV (.ty "tuple") _ from rfl)) Zc))))) (We (Zp Qz (Zm (cL K) (by rfl) T.zlq PySem.boot_len (Za (pv 0) Zc)) Zf (Zq _)) (Xn (Yj (Ye (Zm (Xh (K:=K) rfl) (by rfl) T.zlp PyProof.Rows.boot_isinstance (Za (pI (iU K) (pv 0) Zf) (Za (W7 rfl T.zmk PyProof.Rows.boot_list (show RelV (.ty "list") _ from rfl)) Zc)))))))))
  (Zd (Zl Yp))
  Zn)
 (Zb (pS 3 Y5.nd (Qy U9 Zf))
 (Zb (pS 4 Y5.nd Tp)
 (Zb (Yf PassesOwn.leaving rfl (Z4 (K:=K) rfl (pI (iU K) (pv 0) Zf)) (pN 5 Y5.nd)
  (Zb (Zx (PW.pt (We (Yj (Ye (pF zl0 hr (Za (pv 5) Zc)))) (We (Zp zde (pv 5) (pv 3) (Zq _)) (Xn (Zp zan (pv 5) (Zm (cL K) (by rfl) T.zlq PySem.boot_len (Za (pv 1) Zc)) (Zq _))))))
   (Zd (Zl Yp))
   Zn)
  (Zb (pS 3 Y5.nd (pv 5))
  (Zd (Yf PassesOwn.leaving rfl (Z4 (K:=K) rfl (pI (iL K) (pv 1) (pv 5))) (pN 6 Y5.nd)
   (Zd (V1 hu (pv 4) (pv 6) Yp rfl)))))))
 (Zb (Zx (Yj (Ye (pF zlr hr (Za (pI (iU K) (pv 0) Zf) (Za (Zm (Qe rfl) (by rfl) T.zo8 PyProof.Rows.boot_sorted (Za (pv 4) Zc)) Zc)))))
  (Zd (Zl Yp))
  Zn)
 (Zd (Zl (Sx (Yx X8 (Zm (cL K) (by rfl) T.zlq PySem.boot_len (Za (pI (iU K) (pv 0) Zf) Zc)) (Zu Yk (Zm (cL K) (by rfl) T.zlq PySem.boot_len (Za (pI (iU K) (pv 0) Zf) Zc)) (pv 2)) (Zq _)) (U8 (zc8 (Yx Q0 (pv 2) Zf (Zq _)) (U8 (Yx (Ey (K:=K) rfl hr.units) (pI (iU K) (pv 0) Zf) (Yl Zc) (Zq _))))))))))))),?_⟩
 show let y1:TS:=_;let y2:TS:=Zw _ y1;let y3:TS:=_;let y4:TS:=Zw _ y3;let y5:TS:=Zw (Ek _ _ (Zw _ y2)) y4;let y6:TS:=Zw _ y5;let y7:TS:=Zw _ y6;Zw _ y7 _ _ _;intro y1 y2 y3 y4 y5 y6 y7;have line0:1000<sizeLine:=Yn ⋯;have hll:(ls.map V.ref).length=rows.length:=by rw[zs4];exact il.length
 have hnl:(Yc ps).length=ps.length:=by unfold Yc;rw[zs4]
 refine Wk (Y7 (b:=false) (Vh (b:=false) (c:=false) (fun Q k=>⟨_,rfl,_,_,_,_,rfl,.of (.tup ht),.inl ⟨_,rfl⟩,Ez K,_,rfl,k⟩) (Vh (b:=false) (c:=false) (fun Q k=>⟨_,rfl,t,_,rfl,.inr (SqT.of ht),rfl,_,rfl,k⟩) (fun Q k=>⟨_,rfl,t,_,_,_,rfl,rfl,SqT.of ht,rfl,_,_,_,_,rfl,.of (.lst hp),.inl ⟨_,rfl⟩,Nd K,_,rfl,k⟩))) (iteF (Zz ?_)));refine⟨_,rfl,fun ld hld=>?_⟩;refine al (upd _ ld _) hld rfl fun H1 q1 s1=>?_;have fld:H ld=none:=hld;refine⟨_,rfl,t,_,_,_,rfl,rfl,SqT.of (s1 _ _ ht),rfl,lp,rfl,⟨_,SqL.of (s1 _ _ hp)⟩,?_⟩
 let jv15:Nat->L2.St->Hp->Prop:=fun i σ' H'=>∃ (pst:Int) (kr:List (Key×V)) (rl:List Int) (v5 v6:Option V),σ'=[some (.ref t),some (.ref l),some (.int ((Wq gs).length:Nat)),some (.int pst),some (.ref ld),v5,v6]/\Same H H'/\H' ld=some (.dK kr)/\kr.map (·.1)=rl.map (inl:Int->Key)/\rl.Nodup/\(∀ p∈ps.drop i,pst<(p:Nat))/\∀ n,n∈rl↔∃ p∈ps.take i,∃ r,rows[p]?=some r/\n∈r
 refine Xi (K:=K) (a:=lp) (xs:=Yc ps) jv15
  ⟨-1,[],[],_,_,rfl,s1,q1,rfl,zuy,fun p _=>by omega,by simp⟩ (by rintro i σ' H' _ ⟨_,_,_,_,_,_,z,_⟩;exact SqL.of (z _ _ hp)) ?_ ?_
 ·rintro i x σ' Ha hx ⟨pst,kr,rl,v5,v6,rfl,sa,hda,kkr,ndr,past,memr⟩;have hi:i<ps.length:=by have:=(zs6.mp hx).1;rw[hnl] at this;exact this
  have hq0:ps[i]?=some (ps[i]'hi):=zs5 hi;have etk:ps.take (i+1)=ps.take i++[ps[i]'hi]:=ztp hi;have edr:ps.drop i=ps[i]'hi :: ps.drop (i+1):=List.drop_eq_getElem_cons hi;generalize (ps[i]'hi)=q at hq0 etk edr;have ex:x=.int (q:Nat):=by unfold Yc at hx;rw[zs7,hq0] at hx;exact(Option.some.inj hx).symm
  subst ex;have hqm:=ztb hq0;have hqr0:=SP.lt q hqm;have hpast:pst<(q:Nat):=past q (by rw[edr];simp);have hnext:∀ p∈ps.drop (i+1),((q:Nat):Int)<(p:Nat):=fun p hp'=>by
   have h1:(ps.drop i).Pairwise (· < ·):=SP.up.sublist (List.drop_sublist _ _);rw[edr,List.pairwise_cons] at h1;have:=h1.1 p hp';omega
  have hqr:rows[q]?=some (rows[q]'hqr0):=zs5 hqr0;have hrm:rows[q]'hqr0∈rows:=ztw _;generalize (rows[q]'hqr0)=r at hqr hrm;obtain⟨lq,e2',e3⟩:=il.getR hqr;have hl':(ls.map V.ref)[q]?=some (.ref lq):=by rw[zs7,e2'];rfl
  walk_at "if";refine Wk (Y7 (b:=false) (Vh (b:=false) (c:=false) (fun Q k=>⟨_,rfl,_,rfl,_,rfl,k⟩) (Vh (b:=false) (c:=false) (fun Q k=>⟨_,rfl,_,rfl,_,_,rfl,rfl,_,rfl,by rw[ztd (show ¬ (((q:Nat):Int)<=pst) by omega)];exact k⟩) (fun Q k=>⟨_,rfl,_,rfl,l,_,rfl,.inl (SqL.of (sa _ _ hl)),_,_,rfl,rfl,_,rfl,by rw[hll,ztd (show ¬ (((rows.length:Nat):Int)<=(q:Nat)) by omega)];exact k⟩))) (iteF (Zz ?_)));refine⟨_,rfl,?_⟩;refine⟨_,rfl,_,rfl,l,_,_,_,rfl,rfl,SqL.of (sa _ _ hl),Zs hl',lq,rfl,⟨_,SqL.of (sa _ _ e3)⟩,?_⟩
  let jv16:Nat->L2.St->Hp->Prop:=fun j σ' H'=>∃ (kr:List (Key×V)) (rl:List Int) (v6:Option V),σ'=[some (.ref t),some (.ref l),some (.int ((Wq gs).length:Nat)),some (.int (q:Nat)),some (.ref ld),some (.int (q:Nat)),v6]/\Same H H'/\H' ld=some (.dK kr)/\kr.map (·.1)=rl.map (inl:Int->Key)/\rl.Nodup/\∀ n,n∈rl↔(∃ p∈ps.take i,∃ r,rows[p]?=some r/\n∈r)\/n∈r.take j
  refine Xi (K:=K) (a:=lq) (xs:=r.map V.int) jv16
   ⟨kr,rl,_,rfl,sa,hda,kkr,ndr,fun n=>by rw[memr];simp⟩ (by rintro j σ' H' _ ⟨_,_,_,_,z,_⟩;exact SqL.of (z _ _ e3)) ?_ ?_
  ·rintro j y σ' Hd hy ⟨kr,rl,w6,rfl,sd,hrd,kkr,ndr,memr⟩;have hj:j<r.length:=by have:=(zs6.mp hy).1;rw[zs4] at this;exact this
   have hrj:r[j]?=some (r[j]'hj):=zs5 hj;have etj:r.take (j+1)=r.take j++[r[j]'hj]:=ztp hj;generalize (r[j]'hj)=n at hrj etj;have ey:y=.int n:=by rw[zs7,hrj] at hy;exact(Option.some.inj hy).symm
   subst ey;have hsub:∀ m∈rl,m∈nu:=fun m hm=>by
    rcases(memr m).mp hm with ⟨p,_,r',h1,h2⟩|h1
    ·exact(mo.sub r' (ztb h1)).2 m h2
    ·exact(mo.sub r hrm).2 m (List.mem_of_mem_take h1)
   have hkr:kr.length<=30:=by
    have:=congrArg List.length kkr;rw[zs4,zs4] at this;rw[this];exact ztk (ndr.length_le_of_subset hsub) mo.crowd
   refine⟨_,rfl,_,rfl,ld,_,rfl,DPut.k (k:=inl n) hrd ⋯,putK kr (inl n) (.bl true),J8 rl n,_,rfl,Z8 fld sd,Ze,J9 zjq kkr n _,Nh ndr,fun m=>?_⟩;rw[Ib,memr,etj,ztg,zs9,or_assoc]
  ·rintro σ' Hd ⟨kr,rl,w6,rfl,sd,hrd,kkr,ndr,memr⟩;rw[zs4,zto] at memr;refine⟨_,kr,rl,_,_,rfl,sd,hrd,kkr,ndr,hnext,fun n=>?_⟩;rw[memr,etk];constructor
   ·rintro(⟨p,h1,h2⟩|h1)
    ·exact⟨p,ztu _ h1,h2⟩
    ·exact⟨q,by simp,r,hqr,h1⟩
   ·rintro⟨p,h1,r',h2,h3⟩;rcases ztg.mp h1 with z|z
    ·exact .inl ⟨p,z,r',h2,h3⟩
    ·rw[zs9.mp z,hqr] at h2;cases h2;exact .inr h3
 ·rintro σ' Ha ⟨pst,kr,rl,v5,v6,rfl,sa,hda,kkr,ndr,past,memr⟩;rw[hnl,zto] at memr;have hsub:∀ m∈rl,m∈nu:=fun m hm=>by
   obtain⟨p,_,r',h1,h2⟩:=(memr m).mp hm;exact(mo.sub r' (ztb h1)).2 m h2
  have hrl30:rl.length<=30:=ztk (ndr.length_le_of_subset hsub) mo.crowd;have hrr:∀ n,n∈rl↔n∈rs:=fun n=>by rw[memr,SP.all]
  have hrs30:rs.length<=30:=by
   rw[<- Ie ndr (SP.rup.imp fun h z=>by omega) hrr];exact hrl30
  refine⟨_,rfl,t,_,_,_,rfl,rfl,SqT.of (sa _ _ ht),rfl,_,rfl,ld,kr,rl,rfl,.inl hda,kkr,by omega,fun l2 ns hl2 p3 p4=>?_⟩;have ens:=C8 p3 p4 ndr SP.rup hrr;subst ens;refine al (upd _ l2 _) hl2 rfl fun H8 q8 s8=>?_;have s08:=sa.trans s8;refine⟨lr,l2,_,rfl,s08 _ _ hrs,SqL.of q8,C0,by rw[zs4];omega,_,rfl,?_⟩;refine iteF (Zz ?_);refine⟨_,rfl,t,_,_,_,rfl,rfl,SqT.of (s08 _ _ ht),rfl,lp,_,rfl,.inl (SqL.of (s08 _ _ hp)),_,rfl,t,_,_,_,rfl,rfl,SqT.of (s08 _ _ ht),rfl,lr,_,rfl,.inl (SqL.of (s08 _ _ hrs)),_,rfl,_,_,rfl,rfl,rfl,_,rfl,?_⟩;have hcnt:=SP.cnt;rw[hnl,zs4,Pk,zta (show ((ps.length:Nat):Int)=((ns.length:Nat):Int)+(((Wq gs).length:Nat):Int) by omega)];refine iteT ?_;refine⟨_,rfl,_,_,rfl,rfl,_,rfl,?_⟩;refine itD (fun hz=>h H8 s08) (fun hz=>?_);have hl0:Wq gs=[]:=List.length_eq_zero_iff.mp ⋯;have hps:=SP.nil hl0;refine⟨_,rfl,t,_,_,_,rfl,rfl,SqT.of (s08 _ _ ht),rfl,by show 0<=sizeLine;decide,fun m0 hm0=>⟨.lst ((ps.map fun (k:Nat)=>((k:Nat):Int)).map Dt.int),.lst [],.lst (SqL.of (Zo hm0 _ _ (s08 _ _ hp))) (E5 ps),.lst (SqL.of Ze) .nil,Mb _,Jl,?_⟩⟩;rw[if_neg ⋯,Jm,hps];exact h _ (s08.trans (Zo hm0))
abbrev Tg:Stmt:=top 80
theorem R8:Zk ["_law_found","_law_due","_law_k"] ["_law_found","_law_due"] (Zi Tg):=fnS
theorem Kc(F:Fun K "_law_moves_are" "_law_moves_are" Tg f fd)(T:Tx K mg a)(zlv:Z1 P w K mg base "_law_one_is" 2 ["_law_found","_law_due"] Ma)(zn0:Z1 P w K mg base "_law_rows_are" 4 ["_law_found","_law_due"] (Fp K)):FnOk P w K mg base (CX1 P w) 5 f fd ["_law_found","_law_due"] (Ir K):=by
 refine F.okX R8 ⋯ fun _ _ _ _ H _ Q E hr h=>?_;obtain⟨ok,ok',b,c,ts,us,G0,rfl,hb,hc,g1,g2,hl1,hl2,h⟩:=h;refine⟨_,(Zb (Zx (PW.pt (We (Yj (Ye (Zm (Xh (K:=K) rfl) (by rfl) T.zlp PyProof.Rows.boot_isinstance (Za (pv 0) (Za (W7 rfl T.zmk PyProof.Rows.boot_list (show RelV (.ty "list") _ from rfl)) Zc))))) (Xn (Zp Qz (Zm (cL K) (by rfl) T.zlq PySem.boot_len (Za (pv 0) Zc)) (Zm (cL K) (by rfl) T.zlq PySem.boot_len (Za (pv 1) Zc)) (Zq _)))))
  (Zd (Zl Yp))
  Zn)
 (Zb (Yf PassesOwn.leaving rfl (Yd rfl T.zlw (Za (Zm (cL K) (by rfl) T.zlq PySem.boot_len (Za (pv 1) Zc)) Zc)) (pN 2 R8.nd)
  (Zb (Zx (PW.pt (We (Yj (Ye (Zm (Xh (K:=K) rfl) (by rfl) T.zlp PyProof.Rows.boot_isinstance (Za (pI (iL K) (pv 0) (pv 2)) (Za (W7 rfl T.zox PyProof.Rows.boot_tuple (show RelV (.ty "tuple") _ from rfl)) Zc))))) (Xn (Zp Qz (Zm (cL K) (by rfl) T.zlq PySem.boot_len (Za (pI (iL K) (pv 0) (pv 2)) Zc)) Zf (Zq _)))))
   (Zd (Zl Yp))
   Zn)
  (Zd (Zx (PW.pt (We (Yj (Ye (pF zlv hr (Za (pI (iU K) (pI (iL K) (pv 0) (pv 2)) Zf) (Za (pI (iU K) (pI (iL K) (pv 1) (pv 2)) Zf) Zc))))) (Xn (Yj (Ye (pF zn0 hr (Za (pI (iU K) (pI (iL K) (pv 0) (pv 2)) Zf) (Za (pI (iU K) (pI (iL K) (pv 1) (pv 2)) Zf) Zc))))))))
   (Zd (Zl Yp))
   Zn))))
 (Zd (Zl Yp)))),?_⟩
 have e1:=g1.length;have e2:=g2.length;have el:ts.length=us.length:=by omega
 refine⟨_,rfl,_,_,_,_,rfl,.of (.lst hb),.inl ⟨_,rfl⟩,Nd K,_,rfl,?_⟩;refine iteF ?_;refine⟨_,rfl,b,_,rfl,.inl (SqL.of hb),_,rfl,c,_,rfl,.inl (SqL.of hc),rfl,_,rfl,?_⟩;rw[el,zta rfl];refine iteF (Zz ?_);dsimp only;refine⟨_,rfl,c,_,rfl,.inl (SqL.of hc),_,rfl,by omega,by omega,Ym (fun i σ H'=>H'=H/\(∃ v,σ=[some (.ref b),some (.ref c),v])) ⟨rfl,⟨_,rfl⟩⟩ (fun i σ H' hi ⟨e,⟨v,hv⟩⟩=>?_) (fun σ H' ⟨e,⟨v,hv⟩⟩=>?_)⟩
 ·subst e hv;rw[ztl] at hi;have hi1:i<ts.length:=by omega
  obtain⟨t1,l1,n1,us1,st1,x1,x2,x3,x4,x5,_⟩:=g1.get (zs5 hi1);obtain⟨t2,l2,n2,us2,st2,y1,y2,y3,y4,y5,_⟩:=g2.get (zs5 hi);rw[x2] at y2;cases y2;have w1:ts[i]?=some (.ref t1):=by rw[zs5 hi1,x1]
  have w2:us[i]?=some (.ref t2):=by rw[zs5 hi,y1]
  have hsl:=hl2 _ (ztb x2);rw[zuc];walk_at "if";refine Wk ?_;refine⟨_,rfl,_,rfl,b,_,_,_,rfl,rfl,SqL.of hb,Zs w1,_,_,_,_,rfl,.of (.tup x3),.inl ⟨_,rfl⟩,Ez K,_,rfl,?_⟩;refine iteF ?_;refine⟨_,rfl,_,rfl,b,_,_,_,rfl,rfl,SqL.of hb,Zs w1,t1,_,rfl,.inr (SqT.of x3),rfl,_,rfl,?_⟩;refine(show if (!decide (V.int ((2:Nat):Int)=V.int 2))=true then _ else _ from ?_);rw[zta (show V.int ((2:Nat):Int)=V.int 2 from rfl)];refine iteF (Zz ?_);dsimp only;refine⟨_,rfl,_,rfl,b,_,_,_,rfl,rfl,SqL.of hb,Zs w1,t1,_,_,_,rfl,rfl,SqT.of x3,rfl,_,rfl,_,rfl,c,_,_,_,rfl,rfl,SqL.of hc,Zs w2,t2,_,_,_,rfl,rfl,SqT.of y3,rfl,.int n1,rfl,.inr ⟨_,rfl⟩,true,rfl,?_⟩;refine iteF ?_;refine⟨_,rfl,_,rfl,b,_,_,_,rfl,rfl,SqL.of hb,Zs w1,t1,_,_,_,rfl,rfl,SqT.of x3,rfl,_,rfl,_,rfl,c,_,_,_,rfl,rfl,SqL.of hc,Zs w2,t2,_,_,_,rfl,rfl,SqT.of y3,rfl,l1,l2,us1,us2,st1.map Wf,rfl,x4,SqL.of y4,x5,y5,fun r hr=>?_,by rw[zs4];omega,true,rfl,?_⟩
  ·obtain⟨s,_,rfl⟩:=zte.mp hr;refine⟨by show 2<=1000;decide,fun x hx=>?_⟩;simp[Wf] at hx;rcases hx with rfl|rfl
   ·exact .inr ⟨_,rfl⟩
   ·cases s.2 with
    | none=>exact .inl rfl
    | some n=>exact .inr ⟨_,rfl⟩
  exact iteF (Zz ⟨rfl,⟨_,rfl⟩⟩)
 ·subst e hv;exact h
abbrev Rm:Stmt:=top 81
theorem Um:Zk ["_law_goes","_law_steps_here","_law_out","_law_place","_law_number"] ["_law_goes","_law_steps_here"] (Zi Rm):=fnS
theorem Gg(F:Fun K "_law_stepped" "_law_stepped" Rm f fd)(T:Tx K mg a):FnOk P w K mg base (CX1 P w) 1 f fd ["_law_goes","_law_steps_here"] (Rt K):=by
 refine F.okX Um ⋯ fun _ _ _ _ H _ Q E hr h=>?_;obtain⟨b,c,xs,ts,st,rfl,hb,hc,ht,hst,ho,hl,hls,h⟩:=h;refine⟨_,(Zb (pS 2 Um.nd (Xo (Xv (K:=K) rfl) (by rfl) T.zmk PyProof.Rows.boot_list (Za (pv 0) Zc)))
 (Zb (Yf PassesOwn.leaving rfl (Z4 (K:=K) rfl (pv 1)) (V2 (K:=K) (n:=2) rfl rfl (Z6 (pN 3 Um.nd) (Z6 (pN 4 Um.nd) V0)))
  (Zd (Ei (pv 4) (zda (pv 2) (pv 3) Cp))))
 (Zd (Zl (pv 2))))),?_⟩
 have htl:ts.length=st.length:=by have:=ht.length;rw[zs4] at this;exact this
 refine⟨_,rfl,b,_,rfl,.inl (SqL.of hb),fun l hln=>?_⟩
 let jv17:Nat->L2.St->Hp->Prop:=fun i σ' H'=>(∃ u v,σ'=[some (.ref b),some (.ref c),some (.ref l),u,v])/\H' l=some (.lst (Yh (st.take i) xs))/\(∀ a o,H a=some o->H' a=some o)
 refine⟨_,rfl,c,rfl,⟨ts,SqL.of (Zo hln _ _ hc)⟩,Xi (xs:=ts) jv17 ⟨⟨none,none,rfl⟩,Ze,Zo hln⟩ (fun i σ' H' hi p=>SqL.of (p.2.2 _ _ hc)) (fun i x σ' H' hx p=>?_) (fun σ' H' p=>?_)⟩
 ·obtain⟨⟨u,v,rfl⟩,hl2,hs⟩:=p;have hi:i<st.length:=by rw[<- htl];exact(zs6.mp hx).1
  obtain⟨t,e1,e2⟩:=za7 ht (zs5 hi);rw[hx] at e1;cases e1;refine⟨t,_,rfl,SqT.of (hs _ _ e2),rfl,_,_,rfl,_,_,rfl,rfl,?_⟩;have hlen:(Yh (st.take i) xs).length=xs.length:=Xs _ _;have hp:(st[i]'hi).1<xs.length:=hst _ (ztw hi);have e3:Yh (st.take (i+1)) xs=(Yh (st.take i) xs).set (st[i]'hi).1 (oV (st[i]'hi).2):=by
   rw[ztp hi,Lh];rfl
  refine⟨_,rfl,_,rfl,_,rfl,l,_,_,(st[i]'hi).1,rfl,rfl,hl2,(show ixN _ (((st[i]'hi).1:Nat):Int)=some _ by unfold ixN;rw[if_pos ⋯,if_pos ⋯,ztl]),⟨_,_,rfl⟩,?_,fun a o q=>?_⟩
  ·rw[e3];exact Ze
  ·rw[Zh (Zg q hln)];exact hs a o q
 ·obtain⟨⟨u,v,rfl⟩,hl2,hs⟩:=p;rw[htl,zto] at hl2;exact⟨_,rfl,h l H' hl2 hs hln⟩
abbrev N4:Stmt:=top 82
theorem W5:Zk ["_law_numbers_here","_law_may","_law_t","_law_clubs_here","_law_turn","_law_matches","_law_j","_law_pair","_law_k"] ["_law_numbers_here","_law_may","_law_t","_law_clubs_here","_law_turn"] (Zi N4):=fnS
theorem Ab(F:Fun K "_law_past" "_law_past" N4 f fd)(T:Tx K mg a):FnOk P w K mg base (CX1 P w) 1 f fd ["_law_numbers_here","_law_may","_law_t","_law_clubs_here","_law_turn"] (ze5 K):=by
 refine F.okX W5 ⋯ fun _ _ _ _ H _ Q E hr h=>?_;obtain⟨ln,lm,lc,nu,cl,ls,may,t,turn,rfl,hn,hm,im,hml,hrl,ht,hc,h⟩:=h;refine⟨_,(Zb (pS 5 W5.nd (Yl Zc))
 (Zb (Yf PassesOwn.leaving rfl (Yd rfl T.zlw (Za Zf Zc)) (pN 6 W5.nd)
  (Zb (pS 7 W5.nd (Yl Zc))
  (Zb (Yf PassesOwn.leaving rfl (Fd rfl T.zlw (Za (Zu Tn Zf (pv 2)) (Za (Zm (M4 rfl) (by rfl) T.zqk PyProof.Rows.boot_min (Za (Zm (cL K) (by rfl) T.zlq PySem.boot_len (Za (pv 1) Zc)) (Za (Zu Yk (Zu Tn Zf (pv 2)) Zf) Zc))) Zc))) (pN 8 W5.nd)
   (Zd (Zx (Zp (Xw (K:=K) rfl) (pI (iL K) (pv 0) (pv 6)) (pI (iL K) (pv 1) (pv 8)) (by with_unfolding_all rfl))
    (Zd (Yo (pv 7) (pI (iL K) (pv 3) (pv 8))))
    Zn)))
  (Zb (pS 7 W5.nd (Zu Eu (pv 7) (Jx (Jz (K:=K) rfl) (pv 3) (Ji (Zu Yk Zf (Zu Tn Zf (pv 2)))) (Ji (Zu Yk Zf (Zu Tn Zf (pv 2)))))))
  (Zb (Zx (Zp X8 (Zu Y9 (Zu Yk (pv 6) (pv 4)) Zf) Zf (Zq _))
   (Zd (pS 7 W5.nd (Yl (Za (pI (iL K) (pv 7) Zf) (Za (pI (iL K) (pv 7) Zf) Zc)))))
   Zn)
  (Zd (Yo (pv 5) (Xg (Za (pI (iL K) (pv 7) Zf) (Za (pI (iL K) (pv 7) Zf) (Za (Zu Yk (pv 6) Zf) Zc)))))))))))
 (Zd (Zl (Zu Eu (Jx (Jz (K:=K) rfl) (pv 5) (Ji (Zu Y9 (pv 4) Zf)) zat) (Jx (Jz (K:=K) rfl) (pv 5) zat (Ji (Zu Y9 (pv 4) Zf)))))))),?_⟩
 show let y1:TS:=_;let y2:TS:=Zw _ y1;let y3:TS:=Zw _ y2;let y4:TS:=Zw _ y3;let y5:TS:=_;let y6:TS:=Zw (Ek _ _ (Zw _ y4)) y5;Zw _ y6 _ _ _;intro y1 y2 y3 y4 y5 y6;refine⟨by show 0<=sizeLine;decide,fun lx flx=>?_⟩;refine al (upd _ lx _) flx rfl fun H1 q1 s1=>?_;walk_at "if";have hln:=im.length
 let jv1:Nat->L2.St->Hp->Prop:=fun i σ H'=>∃ (v6 v7 v8:Option V) (ts:List V),σ=[some (.ref ln),some (.ref lm),some (.int t),some (.ref lc),some (.int turn),some (.ref lx),v6,v7,v8]/\Same H H'/\H' lx=some (.lst ts)/\TupL H' ts ((((List.range 9).map (pmS nu cl may turn t)).take i).map pV)
 refine⟨_,rfl,by omega,by omega,Ym jv1 ⟨_,_,_,_,rfl,s1,q1,.nil⟩ (fun i σ H' hi hP=>?_) (fun σ H' hP=>?_)⟩
 ·obtain⟨v6,v7,v8,ts,rfl,sm,hx,tl⟩:=hP;have hi9:i<9:=hi;rw[zuc];walk_at "if";refine⟨by show 0<=sizeLine;decide,fun lp flp=>?_⟩;refine al (upd _ lp _) flp rfl fun H2 q2 s2=>?_;walk_at "rd";have sm2:=sm.trans s2;have hm2:=sm2 _ _ hm;refine⟨lm,_,rfl,.inl (SqL.of hm2),?_⟩;walk_at "rd";refine⟨_,_,rfl,?_⟩;rw[zs4,hln];generalize hb:(if 2*(t:Int)+2<(may.length:Int) then 2*(t:Int)+2 else (may.length:Int))=hi2;have hb2:2*(t:Int)+2<(may.length:Int)/\hi2=2*(t:Int)+2\/¬ 2*(t:Int)+2<(may.length:Int)/\hi2=may.length:=by
   rw[<- hb];split
   ·exact .inl ⟨by assumption,rfl⟩
   ·exact .inr ⟨by assumption,rfl⟩
  let jv2:Nat->L2.St->Hp->Prop:=fun q σ H'=>(∃ v8,σ=[some (.ref ln),some (.ref lm),some (.int t),some (.ref lc),some (.int turn),some (.ref lx),some (.int i),some (.ref lp),v8])/\(∀ x o,x≠lp->H2 x=some o->H' x=some o)/\H' lp=some (.lst ((((List.range q).filter fun q=>barB nu may i (2*t+q)).map fun q=>cl (2*t+q)).map V.int))
  refine⟨_,_,rfl,⟨by omega,by omega,by omega,by omega⟩,Ym jv2 ⟨⟨_,rfl⟩,fun _ _ _ e=>e,q2⟩ (fun q σ H3 hq hP=>?_) (fun σ H3 hP=>?_)⟩
  ·obtain⟨⟨v8,rfl⟩,k3,hp3⟩:=hP;have hqk:2*t+q<may.length:=by omega
   have e2:2*(t:Int)+(q:Int)=((2*t+q:Nat):Int):=by omega
   rw[e2];walk_at "if";obtain⟨la,r,hla,hr1,hr2⟩:∃ la r,ls[2*t+q]?=some la/\may[2*t+q]?=some r/\H la=some (.lst (r.map V.int)):=by
    have hli:ls[2*t+q]?=some (ls[2*t+q]'⋯):=zs5 ⋯;obtain⟨r,h1,h2⟩:=im.getL hli;exact⟨_,r,hli,h1,h2⟩
   have keep:∀ x o,H x=some o->H3 x=some o:=fun x o e=>k3 x o (Zg (sm _ _ e) flp) (sm2 _ _ e);have hbar:barB nu may i (2*t+q)=!decide (nu i∈r):=by
    unfold barB;rw[zta hqk,ztq,hr1];rfl
   have hni:(((List.range 9).map nu).map V.int)[i]?=some (.int (nu i)):=by rw[zs7,zs7,zt9 hi9];rfl
   have hci:(((List.range 22).map cl).map V.int)[2*t+q]?=some (.int (cl (2*t+q))):=by rw[zs7,zs7,zt9 ⋯];rfl
   have hlr:(ls.map V.ref)[2*t+q]?=some (.ref la):=by rw[zs7,hla];rfl
   refine Y7 (b:=barB nu may i (2*t+q)) (fun Q' q'=>⟨_,rfl,_,rfl,ln,_,_,_,rfl,rfl,SqL.of (keep _ _ hn),Zs hni,_,rfl,_,rfl,lm,_,_,_,rfl,rfl,SqL.of (keep _ _ hm),Zs hlr,la,_,rfl,.inl (SqL.of (keep _ _ hr2)),Ts (.inr ⟨_,rfl⟩),zut.mpr fun y hy=>?_,_,rfl,?_⟩) (itB (fun hb=>?_) (fun hb=>Zz ?_))
   ·obtain⟨z,_,rfl⟩:=zte.mp hy;exact Ts (.inr ⟨_,rfl⟩)
   ·rw[hbar] at q';rw[Sl];exact q'
   ·refine⟨_,rfl,lp,_,rfl,hp3,_,rfl,_,rfl,lc,_,_,_,rfl,rfl,SqL.of (keep _ _ hc),Zs hci,_,hp3,Yn ?_,⟨_,rfl⟩,fun x o n e=>?_,?_⟩
    ·rw[zs4,zs4];exact ztk (zub _ _) (by rw[ztr];omega)
    ·rw[Zh n];exact k3 x o n e
    ·rw[Ze,zu5,zul,zti,zti,zuj (by exact hb)];rfl
   ·refine⟨⟨_,rfl⟩,k3,?_⟩;rw[zu5,zul,zuk (by rw[hb];exact nofun),zva,zui];exact hp3
  obtain⟨⟨v8,rfl⟩,k3,hp3⟩:=hP;have keep:∀ x o,H x=some o->H3 x=some o:=fun x o e=>k3 x o (Zg (sm _ _ e) flp) (sm2 _ _ e);have hx3:=k3 _ _ (Zg hx flp) (s2 _ _ hx);have hlst:((List.range (hi2-2*(t:Int)).toNat).filter fun q=>barB nu may i (2*t+q)).map (fun q=>cl (2*t+q))=(if barB nu may i (2*t) then [cl (2*t)] else [])++(if barB nu may i (2*t+1) then [cl (2*t+1)] else []):=by
   have no:∀ k,may.length<=k->barB nu may i k=false:=fun k hk=>by unfold barB;rw[ztd ⋯];rfl
   rcases(by omega:(hi2-2*(t:Int)).toNat=2\/(hi2-2*(t:Int)).toNat=1/\may.length<=2*t+1\/(hi2-2*(t:Int)).toNat=0/\may.length<=2*t) with z|⟨z,y⟩|⟨z,y⟩
   ·rw[z];show (List.filter (fun q=>barB nu may i (2*t+q)) [0,1]).map (fun q=>cl (2*t+q))=_;rw[zt8,zt8,zva];show (if barB nu may i (2*t)=true then _ else _:List Nat).map _=_;generalize barB nu may i (2*t)=b0;show (if b0=true then 0 :: (if barB nu may i (2*t+1)=true then [1] else []) else if barB nu may i (2*t+1)=true then [1] else []).map _=_;generalize barB nu may i (2*t+1)=b1;cases b0<;>cases b1<;>rfl
   ·rw[z,no (2*t+1) y];show (List.filter (fun q=>barB nu may i (2*t+q)) [0]).map (fun q=>cl (2*t+q))=_;rw[zt8,zva];show (if barB nu may i (2*t)=true then [0] else []).map _=_;generalize barB nu may i (2*t)=b0;cases b0<;>rfl
   ·rw[z,no (2*t) y,no (2*t+1) ⋯];rfl
  rw[hlst] at hp3;dsimp only;refine⟨_,rfl,_,rfl,?_⟩;walk_at "rd";refine⟨lc,_,rfl,SqL.of (keep _ _ hc),fun l4 fl4=>?_⟩;have hcut:En (((List.range 22).map cl).map V.int) (some (10+2*(t:Int))) (some (12+2*(t:Int)))=[.int (cl (10+2*t)),.int (cl (11+2*t))]:=by
   rcases(by omega:t=0\/t=1\/t=2\/t=3\/t=4) with z|z|z|z|z<;>(subst z;rfl)
  rw[hcut];refine al (upd _ l4 _) fl4 rfl fun H4 q4 s4=>?_;refine⟨lp,l4,_,_,rfl,rfl,s4 _ _ hp3,q4,szN (by rw[zs4,zs8];split<;>split<;>simp),fun l5 fl5=>?_⟩;refine al (upd _ l5 _) fl5 rfl fun H5 q5 s5=>?_;have hpq:H5 l5=some (.lst ((Rz nu cl may t i).map V.int)):=by
   rw[q5];unfold Rz;simp only[zti];rfl
  have s35:=s4.trans s5;have plen:∀ k,k<2->((Rz nu cl may t i).map V.int)[k]?=some (.int ((Rz nu cl may t i).getD k 0)):=fun k hk=>by
   have:2<=(Rz nu cl may t i).length:=by unfold Rz;rw[zs8];exact Nat.le_add_left _ _
   rw[zs7,ztq,zs5 ⋯];rfl
  walk_at "if"
  let jv3:L2.St->Hp->Prop:=fun σ' Hz=>∃ l6 xs v8,σ'=[some (.ref ln),some (.ref lm),some (.int t),some (.ref lc),some (.int turn),some (.ref lx),some (.int i),some (.ref l6),v8]/\Same H5 Hz/\Hz l6=some (.lst xs)/\xs[0]?=some (.int (pmS nu cl may turn t i).1)/\xs[1]?=some (.int (pmS nu cl may turn t i).2.1)
  refine U6 (b:=decide (((i:Int)+turn)%2=1)) jv3 (fun Q' q'=>?_) (fun hb N hN=>?_) (fun hb N hN=>Zz (hN _ _ ⟨l5,_,_,rfl,.refl _,hpq,?_,?_⟩)) ?_
  ·walk_at "rd";exact⟨rfl,_,rfl,Pk▸q'⟩
  ·refine⟨_,rfl,l5,_,_,_,rfl,rfl,SqL.of hpq,Zs (plen 1 ⋯),_,rfl,l5,_,_,_,rfl,rfl,SqL.of hpq,Zs (plen 0 ⋯),sz2,fun l6 fl6=>?_⟩;refine al (upd _ l6 _) fl6 rfl fun H6 q6 s6=>?_;refine hN _ _ ⟨l6,_,_,rfl,s6,q6,?_,?_⟩
   ·unfold pmS;rw[if_pos (of_decide_eq_true hb)];rfl
   ·unfold pmS;rw[if_pos (of_decide_eq_true hb)];rfl
  ·rw[plen 0 ⋯];unfold pmS;rw[if_neg (of_decide_eq_false hb)]
  ·rw[plen 1 ⋯];unfold pmS;rw[if_neg (of_decide_eq_false hb)]
  rintro σ' H6 ⟨l6,xs,v8',rfl,s6,h6,x0,x1⟩;have s36:=s35.trans s6;have hx6:=s36 _ _ hx3;have tl6:=(tl.mono (H':=H3) fun y zs e=>k3 _ _ (Zg e flp) (s2 _ _ e)).same s36;have h06:Same H H6:=fun x o e=>s36 _ _ (keep _ _ e);have tln:=tl.length;rw[zs4,zur] at tln;refine⟨_,rfl,lx,_,rfl,hx6,_,rfl,l6,_,_,_,rfl,rfl,SqL.of h6,Zs (j:=0) x0,_,rfl,l6,_,_,_,rfl,rfl,SqL.of h6,Zs (j:=1) x1,_,rfl,_,_,rfl,rfl,sz3,fun tk ftk=>?_⟩;refine al (upd _ tk _) ftk rfl fun H7 q7 s7=>?_;have hx7:=s7 _ _ hx6;refine⟨_,hx7,Yn ⋯,_,_,_,_,rfl,Z8 flx (h06.trans s7),Ze,?_⟩;have gi:((List.range 9).map (pmS nu cl may turn t))[i]?=some (pmS nu cl may turn t i):=by rw[zs7,zt9 hi9];rfl
  rw[Uu gi,zti];refine((tl6.same s7).mono (za5 hx7)).snoc (za5 hx7 _ _ ?_);rw[q7];have:(pmS nu cl may turn t i).2.2=(i:Int)+1:=by obtain⟨_,_,_,_,e,_⟩:=Eb nu cl may turn t i;exact e
  show some (HO.tup [.int (pmS nu cl may turn t i).1,.int (pmS nu cl may turn t i).2.1,.int ((i:Int)+1)])=some (HO.tup [.int (pmS nu cl may turn t i).1,.int (pmS nu cl may turn t i).2.1,.int (pmS nu cl may turn t i).2.2]);rw[this]
 obtain⟨v6,v7,v8,ts,rfl,sm,hx,tl⟩:=hP;have tn9:0<=turn%9/\turn%9<9:=by omega
 have er:turn%9=((rotS turn:Nat):Int):=by unfold rotS;omega
 have tln:=tl.length;rw[zs4,zur,zs4,ztr] at tln;have tl9:TupL H' ts (((List.range 9).map (pmS nu cl may turn t)).map pV):=by
  have e:((List.range 9).map (pmS nu cl may turn t)).take 9=(List.range 9).map (pmS nu cl may turn t):=List.take_of_length_le (by rw[zs4,ztr];exact ztc _);rw[<- e];exact tl
 have tn:ts.length=9:=tln;dsimp only;refine⟨_,rfl,_,rfl,?_⟩;walk_at "rd";rw[er];refine⟨lx,_,rfl,SqL.of hx,fun l4 fl4=>?_⟩;rw[zcj];refine al (upd _ l4 _) fl4 rfl fun H4 q4 s4=>?_;refine⟨_,rfl,?_⟩;walk_at "rd";rw[er];refine⟨lx,_,rfl,SqL.of (s4 _ _ hx),fun l5 fl5=>?_⟩;rw[zf6];refine al (upd _ l5 _) fl5 rfl fun H5 q5 s5=>?_;refine⟨l4,l5,_,_,rfl,rfl,s5 _ _ q4,q5,szN (by rw[zu8,zur];omega),fun l6 fl6=>?_⟩;refine al (upd _ l6 _) fl6 rfl fun H6 q6 s6=>?_;have s46:=s4.trans (s5.trans s6);refine h l6 _ H6 q6 ?_ (sm.trans s46) ((sm.trans (s4.trans s5)).free fl6);have tl6:=tl9.same s46;unfold Xf;rw[zti,List.map_drop,List.map_take];exact(tl6.dropN _).app (tl6.takeN _)
abbrev Qw:Stmt:=top 84
theorem O6:Zk ["_law_season","_law_may","_law_goes","_law_left"] ["_law_season","_law_may","_law_goes"] (Zi Qw):=fnS
theorem Fb(F:Fun K "_law_stands" "_law_stands" Qw f fd)(T:Tx K mg a)(zlr:Z1 P w K mg base "_law_list_is" 3 ["_law_found","_law_due"] (Pm K))(zl6:Zt P w K mg base a.zle "goes" 4 ["self","at"] (Dj (ca a)))(znb:Z1 P w K mg base "_law_is_filling" 2 ["_law_may","_law_given"] (Kk K))(zmo:Z1 P w K mg base "_law_left_just_where" 2 ["_law_may","_law_given"] (Gd K))(zm6:Z1 P w K mg base "_law_is_shortage" 4 ["_law_found","_law_may","_law_left"] (F2 K))(zos:Zt P w K mg base a.zle "why" 4 ["self","at"] (zgq (ca a))):FnOk P w K mg base (CX1 P w) 5 f fd ["_law_season","_law_may","_law_goes"] (Bz K (ca a)):=by
 refine F.okX O6 ⋯ fun _ _ _ _ H _ Q E hr h=>?_;obtain⟨A',S,s,lm,lg,ls,nu,n,rfl,SA,hcur,h5,so,oo,hn,hm,im,hg,h⟩:=h;refine⟨_,(Zb (pS 3 O6.nd (Zm (cL K) (by rfl) T.zlq PySem.boot_len (Za (Wv rfl (cT [] []) (Z4 (K:=K) rfl (pv 2)) (fun _ _ _ _ _=>Sk (Zp R9 (pv 0) Y3 (Zq _))) (fun _ _ _ _ _=>(pv 0))) Zc)))
 (Zb (Zx (PW.pt (We (Yj (Ye (pF zlr hr (Za (Y1 (pv 0) T.zlf zl6 (hr.mono ⋯) Zj (Za Zf Zc)) (Za (pv 2) Zc))))) (Xn (Yj (Ye (pF znb hr (Za (pv 1) (Za (pv 2) Zc))))))))
  (Zd (Zl Yp))
  Zn)
 (Zd (Zl (Sx (pF zmo hr (Za (pv 1) (Za (pv 2) Zc))) (U8 (pF zm6 hr (Za (Y1 (pv 0) T.zlf zos (hr.mono ⋯) Zj (Za Zf Zc)) (Za (pv 1) (Za (pv 3) Zc)))))))))),?_⟩
 obtain⟨k1,k2,k3,k4,k5⟩:=so.cur s hcur;have hat:atV S=6:=by unfold atV;omega
 obtain⟨⟨dx,vv,ob,_⟩,_⟩:=id SA;have hgl:s.gv.length=s.may.length:=k2.len;have hml:s.may.length=s.ms.length:=by rw[k4];unfold mayS;rw[zs4]
 have mo:Ws s.may (S.ppl.map (·.1)):=by rw[k4];exact so.pok.may so.nd k1
 refine⟨_,rfl,lg,rfl,⟨_,SqL.of hg⟩,Wi (K:=K) (a:=lg) (xs:=s.gv) (fun i ys H'=>H'=H/\ys=(s.gv.take i).filter fun x=>decide (x=V.non)) ⟨rfl,rfl⟩ (fun i ys H' _ z=>by rw[z.1];exact SqL.of hg) (szN ⋯) (fun i ys H' z=>by rw[z.2];exact ztk (zub _ _) (zu1 _ _)) (fun i x ys H' hx hP=>?_) (fun ys H' hP lx flx=>?_)⟩
 ·obtain⟨rfl,rfl⟩:=hP;refine⟨_,rfl,rfl,_,rfl,?_⟩;rw[Uu hx,zul];dsimp only;by_cases z:x=V.non
  ·rw[if_pos (zta z)];exact⟨_,rfl,rfl,by rw[zuj (p:=fun x=>decide (x=V.non)) (zta z)];rfl⟩
  ·rw[if_neg (by rw[ztd z];exact nofun)];exact⟨rfl,by rw[zuk (p:=fun x=>decide (x=V.non)) (by rw[ztd z];exact nofun),zva,zui]⟩
 obtain⟨rfl,hys⟩:=hP;rw[zto] at hys;have hyl:ys.length=(Wq s.gv).length:=by rw[hys];exact zcz _
 refine al (upd _ lx _) flx rfl fun H1 q1 s1=>?_;refine⟨lx,_,rfl,.inl (SqL.of q1),?_⟩;rw[hyl];walk_at "if";refine Wk ?_;refine⟨_,rfl,A'.p,dx,_,rfl,s1 _ _ ob,Yb ⋯,A',S,6,rfl,SA.same s1,?_⟩;rw[<- hat];refine Ip so hcur fun l H2 hl s2 fl=>?_;have s12:=s1.trans s2;refine⟨_,rfl,l,lg,s.gv,rfl,hl,SqL.of (s12 _ _ hg),k2.one,by omega,true,rfl,?_⟩;refine iteF ?_;refine⟨_,rfl,_,rfl,lm,lg,ls,s.may,s.gv,rfl,s12 _ _ hm,im.same s12,by omega,s12 _ _ hg,k2,fun H3 s3=>⟨true,rfl,iteF (Zz ?_)⟩⟩;have s13:=s12.trans s3;dsimp only;refine⟨_,rfl,_,rfl,lm,lg,ls,s.may,s.gv,rfl,s13 _ _ hm,im.same s13,by omega,s13 _ _ hg,k2,k3,fun H4 s4=>⟨true,rfl,iteT ?_⟩⟩;have s14:=s13.trans s4;refine⟨_,rfl,A'.p,dx,_,rfl,s14 _ _ ob,Yb ⋯,A',S,atV S,rfl,SA.same s14,Ip so hcur ⟨⟨_,mo⟩,k2,Bv k2 k3,fun t lp lr ps rs H5 h1 h2 h3 sp s5 _ _ _ _=>?_⟩⟩;have s15:=s14.trans s5;exact⟨_,rfl,_,rfl,t,lm,lp,lr,ls,s.may,_,s.gv,ps,rs,rfl,h1,s15 _ _ hm,im.same s15,mo,h2,h3,sp,fun H6 s6=>h H6 (s15.trans s6)⟩
abbrev Qx:Stmt:=top 83
theorem Wj:Zk ["_law_season","_law_numbers_here","_law_may","_law_clubs_here","_law_cell","_law_k","_law_t","_law_matches","_law_forced","_law_found"] ["_law_season","_law_numbers_here","_law_may","_law_clubs_here","_law_cell"] (Zi Qx):=fnS
theorem Fc(F:Fun K "_law_led_to" "_law_led_to" Qx f fd)(T:Tx K mg a)(zn7:Zt P w K mg base a.zle "enrol" 5 ["self","number","grade","club"] (zbl (ca a)))(zpk:Z1 P w K mg base "_law_past" 1 ["_law_numbers_here","_law_may","_law_t","_law_clubs_here","_law_turn"] (ze5 K))(zlr:Z1 P w K mg base "_law_list_is" 3 ["_law_found","_law_due"] (Pm K))(zmu:Zt P w K mg base a.zle "draw_up" 6 ["self","matches"] (Bn K (ca a)))(zlv:Z1 P w K mg base "_law_one_is" 2 ["_law_found","_law_due"] Ma)(zn1:Zt P w K mg base a.zle "close" 4 ["self"] (zbm (ca a)))(zl6:Zt P w K mg base a.zle "goes" 4 ["self","at"] (Dj (ca a)))(znm:Z1 P w K mg base "_law_lists_are" 4 ["_law_found","_law_due"] (J2 K))(zot:Zt P w K mg base a.zle "may" 3 ["self","place"] (zgr (ca a))):FnOk P w K mg base (CX1 P w) 7 f fd ["_law_season","_law_numbers_here","_law_may","_law_clubs_here","_law_cell"] (zbq K (ca a)):=by
 refine F.okX Wj ⋯ fun _ _ _ _ H _ Q E hr h=>?_;obtain⟨A',S,ln,lm,lc,nu,cl,ls,may,cell,rfl,SA,⟨r,q,rfl,hr1,hr2,hq1,hq2⟩,W,hnr,hcr,hn,hm,im,hml,hrow,hc,on,om,oc,ol,h⟩:=h;refine⟨_,(Zb (Yf PassesOwn.leaving rfl (Yd rfl T.zlw (Za Zf Zc)) (pN 5 Wj.nd)
  (Zd (Z2 (Y1 (pv 0) T.zlf zn7 (hr.mono ⋯) Zj (Za (pI (iL K) (pv 1) (pv 5)) (Za (Zu Yk (pv 5) Zf) (Za (pI (iL K) (pv 3) Zf) Zc)))))))
 (Zb (Yf PassesOwn.leaving rfl (Yd rfl T.zlw (Za Zf Zc)) (pN 6 Wj.nd)
  (Zb (pS 7 Wj.nd (pF zpk hr (Za (pv 1) (Za (pv 2) (Za (pv 6) (Za (pv 3) (Za (Zu Yk (pv 4) (Zu Tn Zf (pv 6))) Zc)))))))
  (Zb (Vz (i:=8) Wj.nd rfl rfl rfl (cT ["_law_numbers_here"] [1]) (Z4 (K:=K) rfl (pv 7)) (fun _ _ _ _ _=>W8) (fun _ _ _ _ _=>(pI (iL K) (pv 1) (Zu El (pI (iU K) (pv 0) Zf) Zf))))
  (Zb (Zx (Yj (Ye (pF zlr hr (Za (Y1 (pv 0) T.zlf zmu (hr.mono ⋯) Zj (Za (pv 7) Zc)) (Za (pv 8) Zc)))))
   (Zd (Zl Yp))
   Zn)
  (Zd (Zx (Yj (Ye (pF zlv hr (Za (Yr (pv 0) T.zlf zn1 (hr.mono ⋯) Zj) (Za (Zu Yk (pv 6) Zf) Zc)))))
   (Zd (Zl Yp))
   Zn))))))
 (Zb (pS 9 Wj.nd (Y1 (pv 0) T.zlf zmu (hr.mono ⋯) Zj (Za (Wv rfl (cT ["_law_clubs_here"] [3]) (Yd rfl T.zlw (Za (Zm (cL K) (by rfl) T.zlq PySem.boot_len (Za (pv 2) Zc)) Zc)) (fun _ _ _ _ _=>W8) (fun _ _ _ _ _=>(Xg (Za (pI (iL K) (pv 1) (pv 0)) (Za (pI (iL K) (pv 1) Zf) (Za Zf Zc)))))) Zc)))
 (Zd (Zl (Sx (pF zlr hr (Za (Y1 (pv 0) T.zlf zl6 (hr.mono ⋯) Zj (Za Zf Zc)) (Za (pv 9) Zc))) (U8 (pF znm hr (Za (Wv rfl (cT ["_law_season"] [0]) (Yd rfl T.zlw (Za (Zm (cL K) (by rfl) T.zlq PySem.boot_len (Za (pv 2) Zc)) Zc)) (fun _ _ _ _ _=>W8) (fun _ _ _ _ _=>(Y1 (pv 1) T.zlf zot (hr.mono ⋯) Ct (Za (pv 0) Zc)))) (Za (pv 2) Zc)))))))))),?_⟩
 show let y1:TS:=_;let y2:TS:=Zw _ y1;let y3:TS:=Zw _ y2;let y4:TS:=_;let y5:TS:=Zw _ y4;let y6:TS:=Zw (Ek _ _ (Zw _ y3)) y5;Zw _ y6 _ _ _;intro y1 y2 y3 y4 y5 y6
 let jv1:Nat->L2.St->Hp->Prop:=fun i σ H'=>∃ (S:Sea) (v5:Option V),σ=[some (.ref A'.p),some (.ref ln),some (.ref lm),some (.ref lc),some (.int cell),v5,none,none,none,none]/\Zv (ca a) H' A' S/\FrN A' A' H H'/\SOk ((List.range 9).map nu) i S/\S.ppl=(Q4 nu cl).take i/\S.cur=none/\S.led=[]/\S.old=[]/\S.out=[]/\S.len=r/\S.rest=q/\S.std.length=i
 refine⟨_,rfl,by omega,by omega,Ym jv1 ⟨Dh r q,_,rfl,SA,.refl _ _,?_,rfl,rfl,rfl,rfl,rfl,rfl,rfl,rfl⟩ (fun i σ H1 hi hP=>?_) (fun σ H1 hP=>?_)⟩
 ·exact⟨fun s hs=>(nomatch hs),zuy,fun x hx=>(nomatch hx),zt6 _,rfl,fun s hs=>(nomatch hs),⟨zt6 _,hr2,hq2⟩,fun z=>absurd rfl z,⟨zt6 _,zt6 _⟩,fun s hs=>by rcases hs with z|z<;>cases z⟩
 ·obtain⟨S,v5,rfl,SA1,f1,so,e1,e2,e3,e4,e5,e6,e7,e8⟩:=hP;have hi9:i<9:=hi;rw[zuc];walk_at "if";obtain⟨⟨dx,vv,ob,_⟩,_⟩:=id SA1;have hni:(((List.range 9).map nu).map V.int)[i]?=some (.int (nu i)):=by rw[zs7,zs7,zt9 hi9];rfl
  have hci:(((List.range 22).map cl).map V.int)[21]?=some (.int (cl 21)):=rfl;have hgi:(Q4 nu cl)[i]?=some (nu i,(i:Int)+1,cl 21):=by unfold Q4;rw[zs7,zt9 hi9];rfl
  have n1:=hnr i;have n2:=hcr 21;have g:Bq S (.enrol (nu i) ((i:Int)+1) (cl 21)):=by
   refine⟨by rw[e3,e6];show 0<r;omega,e2,?_,fun z=>?_,?_⟩
   ·unfold badI;omega
   ·rw[e1] at z;obtain⟨y,hy,ey⟩:=zte.mp z;obtain⟨k,hk,rfl⟩:=zt2 hy;rw[zur] at hk;rw[List.getElem_take] at ey;have h1:(Q4 nu cl)[k]?=some ((Q4 nu cl)[k]'⋯):=zs5 ⋯;have h2:(Q4 nu cl)[k]?=some (nu k,(k:Int)+1,cl 21):=by unfold Q4;rw[zs7,zt9 ⋯];rfl
    rw[h1] at h2;rw[Option.some.inj h2] at ey;have:=W.nu k i ⋯ hi9 ey;omega
   ·rw[e1,zur];omega
  obtain⟨g1,g2,g3,g4,g5⟩:=id g;refine⟨_,rfl,A'.p,dx,_,rfl,ob,Yb ⋯,_,rfl,_,rfl,ln,_,_,_,rfl,rfl,SqL.of (f1.k _ _ hn on).1,Zs hni,_,rfl,_,_,rfl,rfl,_,rfl,lc,_,_,_,rfl,rfl,SqL.of (f1.k _ _ hc oc).1,Zs (j:=21) hci,A',S,nu i,(i:Int)+1,cl 21,rfl,SA1,⟨Z9 ⋯ ⋯,Z9 ⋯ ⋯,Z9 ⋯ ⋯⟩,by omega,by omega,?_⟩;rw[if_neg ⋯,if_neg (by rw[g2];decide),if_neg g3,if_neg g4,if_neg ⋯,if_neg ⋯];intro H2 SA2 f2;refine⟨_,_,rfl,SA2,f1.trans (FrN.next SA1 (.refl A' H1) f2),(Pu (H':=H2) so g (.enrol _ _ _) nofun (fun k gr c z=>by cases z;exact zte.mpr ⟨i,zt5.mpr hi9,rfl⟩)).1,?_,e2,e3,e4,e5,e6,e7,?_⟩
  ·show S.ppl++_=_;rw[e1,Uu hgi]
  ·show (S.std++_).length=_;rw[zs8,e8];rfl
 obtain⟨S,v5,rfl,SA1,f1,so,e1,e2,e3,e4,e5,e6,e7,e8⟩:=hP;have P0:Mn nu cl may (fun t=>cell+4*(t:Int)) S 0:=by
  refine⟨?_,e5,e2,by rw[e3];rfl,by rw[e4];rfl,by rw[e7];omega,fun j _ x=>?_⟩
  ·rw[e1];exact List.take_of_length_le (by unfold Q4;rw[zs4,ztr];exact ztc _)
  ·rw[e3];constructor
   ·rintro⟨rs,hrs,_⟩;cases hrs
   ·rintro⟨t',ht',_⟩;omega
 let jv2:Nat->L2.St->Hp->Prop:=fun t σ H'=>∃ (A1:SAd) (S:Sea) (v5 v6 v7 v8:Option V),σ=[some (.ref A'.p),some (.ref ln),some (.ref lm),some (.ref lc),some (.int cell),v5,v6,v7,v8,none]/\Zv (ca a) H' A1 S/\FrN A' A1 H H'/\SOk ((List.range 9).map nu) (9+2*t) S/\O3 (9+2*t) S/\Mn nu cl may (fun t=>cell+4*(t:Int)) S t/\S.len=r/\S.rest=q/\S.std.length<=9
 refine⟨_,rfl,by omega,by omega,Ym jv2 ⟨A',S,_,_,_,_,rfl,SA1,f1,so,fun s hs=>(by rw[e4] at hs;cases hs),P0,e6,e7,by rw[e8];exact ztc _⟩ (fun t σ H2 ht hP=>?_) (fun σ H2 hP=>?_)⟩
 ·obtain⟨A1,S,v5,v6,v7,v8,rfl,SA2,f2,so2,oo2,P2,g1,g2,g3⟩:=hP;have ht5:t<5:=ht;rw[zuc];walk_at "if";have im2:ILs H2 ls may:=im.keep fun l hl o e=>(f2.k _ _ e (ol l hl)).1;refine⟨_,rfl,_,rfl,_,rfl,_,rfl,?_⟩;walk_at "rd";refine⟨ln,lm,lc,nu,cl,ls,may,t,cell+4*(t:Int),rfl,(f2.k _ _ hn on).1,(f2.k _ _ hm om).1,im2,hml,fun r' hr'=>?_,by omega,(f2.k _ _ hc oc).1,fun lx ts H3 hx tl s3 flx=>?_⟩
  ·rw[hrow r' hr'];exact ztk (zub _ _) (by rw[zs4,ztr];decide)
  walk_at "if";have tln:=tl.length;rw[zs4,Wy] at tln;have hn3:=s3 _ _ (f2.k _ _ hn on).1;refine⟨_,rfl,lx,rfl,⟨_,SqL.of hx⟩,Wi (K:=K) (a:=lx) (xs:=ts) (fun i ys H'=>H'=H3/\ys=(List.range i).map fun k=>V.int (nu ((k+rotS (cell+4*(t:Int)))%9))) ⟨rfl,rfl⟩ (fun i ys H' _ z=>by rw[z.1];exact SqL.of hx) (szN ⋯) (fun i ys H' z=>by rw[z.2,zs4,ztr];exact ztc _) (fun i x ys H' hxi hP=>?_) (fun ys H' hP lf flf=>?_)⟩
  ·obtain⟨rfl,rfl⟩:=hP;have hi9:i<9:=by rw[<- tln];exact(zs6.mp hxi).1
   obtain⟨tm,rw0,rfl,hrw,htm⟩:=tl.get hxi;rw[zs7,Mm _ _ _ _ t i hi9] at hrw;cases hrw;obtain⟨_,_,_,_,e3',_⟩:=Eb nu cl may (cell+4*(t:Int)) t ((i+rotS (cell+4*(t:Int)))%9);have hj9:(i+rotS (cell+4*(t:Int)))%9<9:=by omega
   have hni:(((List.range 9).map nu).map V.int)[(i+rotS (cell+4*(t:Int)))%9]?=some (.int (nu ((i+rotS (cell+4*(t:Int)))%9))):=by rw[zs7,zs7,zt9 hj9];rfl
   have hix:atI (((List.range 9).map nu).map V.int) ((pmS nu cl may (cell+4*(t:Int)) t ((i+rotS (cell+4*(t:Int)))%9)).2.2-1)=some (.int (nu ((i+rotS (cell+4*(t:Int)))%9))):=by
    rw[e3',show (((i+rotS (cell+4*(t:Int)))%9:Nat):Int)+1-1=(((i+rotS (cell+4*(t:Int)))%9:Nat):Int) by omega];exact Zs hni
   unfold tYes;dsimp only;rw[if_pos rfl];refine⟨_,rfl,_,rfl,tm,_,_,_,rfl,rfl,SqT.of htm,Zs (j:=2) rfl,_,_,rfl,rfl,ln,_,_,_,rfl,rfl,SqL.of hn3,hix,rfl,?_⟩;rw[zu5,zti];rfl
  obtain⟨rfl,rfl⟩:=hP;rw[tln];refine al (upd _ lf _) flf rfl fun H4 qf s4=>?_;walk_at "if";have s34:=s3.trans s4;have SA4:=SA2.same s34;obtain⟨⟨dx,vv,ob,_⟩,_⟩:=id SA4;rw[f2.p] at ob;have hmem:∀ m∈Xf nu cl may (cell+4*(t:Int)) t,∃ j,j<9/\m=pmS nu cl may (cell+4*(t:Int)) t j:=fun m hm'=>by
   obtain⟨k,hk,rfl⟩:=zt2 hm';rw[Wy] at hk;have e:=Mm nu cl may (cell+4*(t:Int)) t k hk;rw[zs5 (by rw[Wy];exact hk)] at e;exact⟨_,by omega,Option.some.inj e⟩
  have hmok:∀ m∈Xf nu cl may (cell+4*(t:Int)) t,¬ badM m/\m.1≠m.2.1:=fun m hm'=>by
   obtain⟨j,hj,rfl⟩:=hmem m hm';obtain⟨u,v,x1,x2,x3,x4,x5,x6,_⟩:=Eb nu cl may (cell+4*(t:Int)) t j;have b1:=hcr u;have b2:=hcr v;refine⟨?_,fun z=>?_⟩
   ·unfold badM;rw[x1,x2,x3];omega
   ·rw[x1,x2] at z;exact x4 (W.cl _ _ ⋯ ⋯ z)
  have hled:S.led.length=t:=P2.led;have g:Bq S (.draw (Xf nu cl may (cell+4*(t:Int)) t)):=⟨by omega,P2.cur,by rw[Wy];decide,fun m hm'=>(hmok m hm').1,fun m hm'=>(hmok m hm').2⟩;obtain⟨w1,w2,w3,w4,w5⟩:=id g;have nb:¬ S4 (Xf nu cl may (cell+4*(t:Int)) t):=fun ⟨m,hm,hb⟩=>w4 m hm hb;have ns:¬ Ss (Xf nu cl may (cell+4*(t:Int)) t):=fun ⟨m,hm,hb⟩=>w5 m hm hb;refine⟨_,rfl,A'.p,dx,_,rfl,ob,Yb ⋯,_,rfl,A1,S,lx,ts,Xf nu cl may (cell+4*(t:Int)) t,(by rw[<- f2.p];rfl),SA4,SqL.of (s4 _ _ hx),tl.same s4,fun m hm=>?_,by rw[Wy];decide,by omega,so2.pok,?_⟩
  ·have:=w4 m hm;unfold badM at this;exact⟨Z9 ⋯ ⋯,Z9 ⋯ ⋯,Z9 ⋯ ⋯⟩
  rw[if_neg ⋯,if_neg (by rw[w2];decide)];refine⟨fun z=>absurd z ⋯,fun _ z=>absurd z nb,fun _ _ z=>absurd z ns,fun _ _ _=>⟨fun z=>absurd z ⋯,fun _ lg gv H5 hl5 SA5 FP SP f5 fl5=>?_⟩⟩;have hgk:=P2.draw W ht5 FP SP;have hgl:gv.length=9:=by rw[FP.len];unfold mayS;rw[zs4,Wy]
  have hgv:gv=(List.range 9).map fun k=>V.int (nu ((k+rotS (cell+4*(t:Int)))%9)):=List.ext_getElem? fun k=>by
   by_cases hk:k<9
   ·rw[hgk k hk,zs7,zt9 hk];rfl
   ·rw[zup ⋯,zup (by rw[zs4,ztr];omega)]
  have olf:lf∉A1.fp:=SA2.newOk _ (s3.free flf);have af1:Ry H5 S (.draw (Xf nu cl may (cell+4*(t:Int)) t)) (V5 S (Xf nu cl may (cell+4*(t:Int)) t) gv) (.ref lg):=.draw hl5 FP SP;have so5:=(Pu so2 g af1 nofun nofun).1;have oo5:=(Ot so2 oo2 af1).mono (Nat.le_succ _);refine⟨_,rfl,lg,lf,gv,rfl,hl5,SqL.of (by rw[hgv];exact f5 _ _ qf olf),FP.one,by omega,true,rfl,iteF (Zz ?_)⟩;dsimp only;obtain⟨⟨dx5,vv5,ob5,_⟩,_⟩:=id SA5;rw[f2.p] at ob5;have tot5:=so5.tot;have len5:=so5.len;have ol5:=so5.olen;refine⟨_,rfl,A'.p,dx5,_,rfl,ob5,Yb ⋯,A1,V5 S (Xf nu cl may (cell+4*(t:Int)) t) gv,(by rw[<- f2.p];rfl),SA5,by omega,by omega,by omega,fun s hs=>?_,?_⟩
  ·cases hs;exact⟨FP.one,by show gv.length=(Xf nu cl may (cell+4*(t:Int)) t).length;rw[hgl,Wy],by show (Xf nu cl may (cell+4*(t:Int)) t).length<=1000;rw[Wy];decide⟩
  rw[if_neg (by show ¬ S.len<=S.led.length;omega)];refine⟨fun z=>(nomatch z),fun s x H6 hs SA6 f6 fx6=>?_⟩;cases hs;have hat:atV (V5 S (Xf nu cl may (cell+4*(t:Int)) t) gv)=(t:Int)+1:=by show (S.led.length:Int)+1=_;rw[hled]
  have af2:Ry H6 (V5 S (Xf nu cl may (cell+4*(t:Int)) t) gv) .close (Mj (V5 S (Xf nu cl may (cell+4*(t:Int)) t) gv) ⟨Xf nu cl may (cell+4*(t:Int)) t,mayS S (Xf nu cl may (cell+4*(t:Int)) t),gv,[]⟩) _:=.close rfl;have so6:=(Pu so5 (D:=.close) ⟨by show S.led.length<S.len;omega,nofun⟩ af2 nofun nofun).1;refine⟨_,rfl,_,_,rfl,rfl,.int ((t:Int)+1),by rw[hat];rfl,.inr ⟨_,rfl⟩,true,rfl,iteF (Zz ?_)⟩;refine⟨{ A1 with lt:=x },_,_,_,_,_,rfl,SA6,(f2.trans (.of s34)).trans ((FrN.next SA4 (.refl A1 H4) f5).trans (FrN.next SA5 ⟨x,rfl,.inr fx6⟩ f6)),so6.mono ⋯,((Ot so5 oo5 af2).mono ⋯),P2.close W ht5 ⋯ FP SP,g1,g2,zt6 _⟩
 obtain⟨A1,S,v5,v6,v7,v8,rfl,SA2,f2,so2,oo2,P2,g1,g2,g3⟩:=hP;have P5:Mn nu cl may (fun t=>cell+4*(t:Int)) S 5:=P2;have hpat:=P5.pattern W hml hrow;have im2:ILs H2 ls may:=im.keep fun l hl o e=>(f2.k _ _ e (ol l hl)).1;dsimp only;obtain⟨⟨dx,vv,ob,_⟩,_⟩:=id SA2;rw[f2.p] at ob;have hm2:=(f2.k _ _ hm om).1;have hc2:=(f2.k _ _ hc oc).1;have hln:=im.length;have ll:(Wz cl may).length=may.length:=by unfold Wz;rw[zs4,ztr]
 refine⟨_,rfl,A'.p,dx,_,rfl,ob,Yb ⋯,_,rfl,lm,_,rfl,.inl (SqL.of hm2),_,rfl,(by rw[zs4];omega),(by rw[zs4];omega),?_⟩;rw[zs4,hln,ztl];refine Qb (fun i ys H'=>Same H2 H'/\TupL H' ys (((Wz cl may).take i).map pV)) ⟨.refl _,.nil⟩ (szN ⋯) (fun i ys H' z=>by rw[z.2.length,zs4];exact zu1 _ _) (fun i ys H' hi z=>?_) (fun ys H' z lx flx=>?_)
 ·obtain⟨sm,tl⟩:=z;rw[zuc];have hci:(((List.range 22).map cl).map V.int)[i]?=some (.int (cl i)):=by rw[zs7,zs7,zt9 ⋯];rfl
  have hcj:(((List.range 22).map cl).map V.int)[20]?=some (.int (cl 20)):=rfl;have gi:(Wz cl may)[i]?=some (cl i,cl 20,1):=by unfold Wz;rw[zs7,zt9 hi];rfl
  unfold tYes;dsimp only;rw[if_pos rfl];refine⟨_,rfl,_,rfl,lc,_,_,_,rfl,rfl,SqL.of (sm _ _ hc2),Zs hci,_,rfl,lc,_,_,_,rfl,rfl,SqL.of (sm _ _ hc2),Zs (j:=20) hcj,sz3,fun tk ftk=>?_⟩;refine al (upd _ tk _) ftk rfl fun H7 q7 s7=>?_;refine⟨sm.trans s7,?_⟩;rw[Uu gi,zti];exact(tl.same s7).snoc q7
 obtain⟨s3,tl⟩:=z;rw[<- ll,zto] at tl;refine al (upd _ lx _) flx rfl fun H3 qx s4=>?_;have s34:=s3.trans s4;have SA3:=SA2.same s34;have hmem:∀ m∈Wz cl may,∃ k,k<may.length/\m=(cl k,cl 20,1):=fun m hm'=>by
  unfold Wz at hm';obtain⟨k,hk,rfl⟩:=zte.mp hm';exact⟨k,zt5.mp hk,rfl⟩
 have g:Bq S (.draw (Wz cl may)):=by
  refine⟨by rw[P5.led];omega,P5.cur,by omega,fun m hm'=>?_,fun m hm' z=>?_⟩
  ·obtain⟨k,hk,rfl⟩:=hmem m hm';have b1:=hcr k;have b2:=hcr 20;unfold badM;dsimp only;omega
  ·obtain⟨k,hk,rfl⟩:=hmem m hm';have:=W.cl k 20 ⋯ ⋯ z;omega
 obtain⟨w1,w2,w3,w4,w5⟩:=id g;have nb:¬ S4 (Wz cl may):=fun ⟨m,hm,hb⟩=>w4 m hm hb;have ns:¬ Ss (Wz cl may):=fun ⟨m,hm,hb⟩=>w5 m hm hb;refine⟨A1,S,lx,ys,Wz cl may,(by rw[<- f2.p];rfl),SA3,SqL.of qx,tl.same s4,fun m hm=>?_,by omega,by omega,so2.pok,?_⟩
 ·have:=w4 m hm;unfold badM at this;exact⟨Z9 ⋯ ⋯,Z9 ⋯ ⋯,Z9 ⋯ ⋯⟩
 rw[if_neg ⋯,if_neg (by rw[w2];decide)];refine⟨fun z=>absurd z ⋯,fun _ z=>absurd z nb,fun _ _ z=>absurd z ns,fun _ _ _=>⟨fun z=>absurd z ⋯,fun _ lg gv H5 hl5 SA5 FP SP f5 fl5=>?_⟩⟩;have af:Ry H5 S (.draw (Wz cl may)) (V5 S (Wz cl may) gv) (.ref lg):=.draw hl5 FP SP;have so5:=((Pu so2 g af nofun nofun).1).mono (show _<=30 by show 9+2*5+1<=30;decide);have oo5:=(Ot so2 oo2 af).mono (show _<=30 by show 9+2*5<=30;decide);have f25:=(f2.trans (.of s34)).trans (FrN.next SA3 (.refl A1 H3) f5);rw[hpat] at FP SP;have hgl:gv.length=may.length:=FP.len;have hat:atV (V5 S (Wz cl may) gv)=6:=by show (S.led.length:Int)+1=6;rw[P5.led];rfl
 have hcur:(V5 S (Wz cl may) gv).cur=some ⟨Wz cl may,may,gv,[]⟩:=by show some (⟨_,mayS S (Wz cl may),gv,[]⟩:Z3)=_;rw[hpat]
 obtain⟨⟨dx5,vv5,ob5,_⟩,_⟩:=id SA5;rw[f2.p] at ob5;walk_at "if";refine⟨_,rfl,A'.p,dx5,_,rfl,ob5,Yb ⋯,A1,V5 S (Wz cl may) gv,6,(by rw[<- f2.p];rfl),SA5,?_⟩;rw[<- hat];refine Ip so5 hcur fun l H6 hl s6 fl=>?_;have SA6:=SA5.same s6;refine⟨_,rfl,l,lg,gv,rfl,hl,SqL.of (s6 _ _ hl5),FP.one,by omega,true,rfl,iteT ?_⟩;have f26:=f25.trans (.of s6);have hm6:=(f26.k _ _ hm om).1;have im6:ILs H6 ls may:=im.keep fun l hl o e=>(f26.k _ _ e (ol l hl)).1;have ob6:=s6 _ _ ob5;refine⟨_,rfl,lm,_,rfl,.inl (SqL.of hm6),_,rfl,(by rw[zs4];omega),(by rw[zs4];omega),?_⟩;rw[zs4,hln,ztl];refine Qb (fun i ys H'=>Same H6 H'/\∃ hs,ys=hs.map V.ref/\ILs H' hs (may.take i)/\hs.length=i) ⟨.refl _,[],rfl,.nil,rfl⟩ (szN ⋯) (fun i ys H' ⟨_,hs,e,_,e2⟩=>by rw[e,zs4,e2];exact ztc _) (fun i ys H' hi z=>?_) (fun ys H' z ly fly=>?_)
 ·obtain⟨sm,hs,rfl,ih,hhl⟩:=z;rw[zuc];unfold tYes;dsimp only;rw[if_pos rfl];refine⟨_,rfl,A'.p,dx5,_,rfl,sm _ _ ob6,Yb ⋯,_,rfl,A1,V5 S (Wz cl may) gv,i,(by rw[<- f2.p];rfl),SA6.same sm,Z9 ⋯ ⋯,fun z=>(by rw[hcur] at z;cases z),fun s hs'=>?_⟩;rw[hcur] at hs';cases hs';refine⟨ll.symm,fun z=>absurd z (by show ¬ ((i:Int)<0\/((Wz cl may).length:Int)<=i);omega),fun k r ek hr l' H7 hl' s7 fl'=>?_⟩;cases Int.ofNat.inj ek;refine⟨sm.trans s7,hs++[l'],by rw[zti];rfl,?_,by rw[zs8,hhl];rfl⟩;have hr:may[i]?=some r:=hr;rw[Uu hr];exact(ih.same s7).snoc hl'
 obtain⟨sm,hs,rfl,ih,hhl⟩:=z;rw[zto] at ih;refine al (upd _ ly _) fly rfl fun H8 q8 s8=>?_;have s68:=sm.trans s8;have f28:=f26.trans (.of s68);refine⟨_,rfl,ly,lm,hs,ls,may,rfl,q8,(f28.k _ _ hm om).1,ih.same s8,im6.same s68,by omega,fun r hr=>?_,?_⟩
 ·rw[hrow r hr];exact ztk (zub _ _) (by rw[zs4,ztr];decide)
 refine h A1 (V5 S (Wz cl may) gv) H8 (SA6.same s68) ⟨⟨_,hcur,rfl,rfl⟩,P5.led,P5.out,?_,so5,oo5⟩ g1 f28;show S.ppl.map (·.1)=_;rw[P5.ppl];unfold Q4;rw[zud];rfl
abbrev Ef:Stmt:=top 85
theorem W6:Zk ["_law_script","_law_numbers_here","_law_may","_law_season","_law_clubs_here","_law_trail","_law_k","_law_goes","_law_here","_law_moves","_law_lost","_law_steps_here","_law_gap"] ["_law_script"] (Zi Ef):=fnS
theorem zid(F:Fun K "law" "law" Ef f fd)(T:Tx K mg a)(zmm:Z1 P w K mg base "_law_numbers" 1 ["_law_cell","_law_many"] Nf)(zmc:Z1 P w K mg base "_law_at" 1 ["_law_script","_law_k"] (zhu K))(zo4:Z1 P w K mg base "_law_graph" 2 ["_law_script","_law_most","_law_crowd"] (za6 K))(zp2:Tq P w K mg base "Season" a.zle 3 ["self","rounds","rest"] (zbk (ca a)))(zo6:Z1 P w K mg base "_law_clubs" 1 ["_law_cell","_law_many"] za2)(zov:Z1 P w K mg base "_law_led_to" 7 ["_law_season","_law_numbers_here","_law_may","_law_clubs_here","_law_cell"] (zbq K (ca a)))(zl6:Zt P w K mg base a.zle "goes" 4 ["self","at"] (Dj (ca a)))(zmz:Zt P w K mg base a.zle "take_back" 2 ["self"] (spF (Io (ca a))))(zoe:Zt P w K mg base a.zle "away" 7 ["self","at","number"] (spF (zeu (ca a))))(zm1:Z1 P w K mg base "_law_chain_is_due" 3 ["_law_may","_law_given","_law_place","_law_steps_here"] (Gf K))(zoi:Z1 P w K mg base "_law_stepped" 1 ["_law_goes","_law_steps_here"] (Rt K))(zns:Z1 P w K mg base "_law_stands" 5 ["_law_season","_law_may","_law_goes"] (Bz K (ca a)))(znj:Z1 P w K mg base "_law_moves_are" 5 ["_law_found","_law_due"] (Ir K))(znk:Zt P w K mg base a.zle "chains" 4 ["self","at"] (Bp (ca a))):FnOk P w K mg base (CX1 P w) 8 f fd ["_law_script"] (za3 K):=by
 refine F.okX W6 ⋯ fun _ _ _ _ H _ Q E hr h=>?_;obtain⟨b,ns,rfl,hS,hlen,h⟩:=h;have hu:=Vg hr;refine⟨_,(Zb (pS 1 W6.nd (pF zmm hr (Za (pF zmc hr (Za (pv 0) (Za Zf Zc))) (Za Zf Zc))))
 (Zb (B5 (i:=2) W6.nd rfl rfl rfl (O4.mk (ys:=["_law_numbers_here"]) (js:=[1]) rfl rfl ⋯ rfl rfl ⋯ rfl (by repeat' (first|exact True.intro|apply And.intro|rfl)) (by repeat' (first|exact True.intro|apply And.intro|rfl)) ⋯) (Z4 (K:=K) rfl (pF zo4 hr (Za (pv 0) (Za Zf (Za Zf Zc))))) (fun _ _ _ _ _ _=>W8) (fun _ _ _ _ _ _=>(Wv rfl (cT ["_law_row_here"] [0]) (Z4 (K:=K) rfl (pv 1)) (fun _ _ _ _ _=>Sk (Zp (Ur (K:=K) rfl) (pv 0) (pv 1) (by with_unfolding_all rfl))) (fun _ _ _ _ _=>(pv 0)))))
 (Zb (pS 3 W6.nd (Ex zp2 (hr.mono ⋯) Zj rfl (Za (Zu Yk Zf (Zu Y9 (Zu Wn (pF zmc hr (Za (pv 0) (Za Zf Zc))) Zf) Zf)) (Za (Zu Yk Zf (Zu Y9 (pF zmc hr (Za (pv 0) (Za Zf Zc))) Zf)) Zc))))
 (Zb (pS 4 W6.nd (pF zo6 hr (Za (Zu Wn (pF zmc hr (Za (pv 0) (Za Zf Zc))) Zf) (Za Zf Zc))))
 (Zb (Zx (Yj (Ye (pF zov hr (Za (pv 3) (Za (pv 1) (Za (pv 2) (Za (pv 4) (Za (pF zmc hr (Za (pv 0) (Za Zf Zc))) Zc))))))))
  (Zd (Zl Yp))
  Zn)
 (Zb (pS 5 W6.nd (Yl (Za (Xg (Za (pv 2) (Za (Y1 (pv 3) T.zlf zl6 (hr.mono ⋯) Zj (Za Zf Zc)) (Za (pv 1) (Za (Yl Zc) Zc))))) Zc)))
 (Zb (Yf PassesOwn.leaving rfl (Fd rfl T.zlw (Za Zf (Za (Zm (M4 rfl) (by rfl) T.zqk PyProof.Rows.boot_min (Za Zf (Za (Zm (cL K) (by rfl) T.zlq PySem.boot_len (Za (pv 0) Zc)) Zc))) Zc))) (pN 6 W6.nd)
  (Zb (Ei (pI (iL K) (pv 5) (Qy U9 Zf)) (V2 (K:=K) (n:=4) rfl rfl (Z6 (pN 2 W6.nd) (Z6 (pN 7 W6.nd) (Z6 (pN 8 W6.nd) (Z6 (pN 9 W6.nd) V0))))))
  (Zb (Zx (PW.pt (We (PW.pt (M3 (Zp X8 (Zu Y9 (pI (iL K) (pv 0) (pv 6)) Zf) Zf (Zq _)) (Oi (Zp Q0 (Zm (cL K) (by rfl) T.zlq PySem.boot_len (Za (pv 5) Zc)) Zf (Zq _))))) (Xn (Zp (Ey (K:=K) rfl hr.units) (pv 8) (Yl Zc) (Zq _)))))
   (Zb (Z2 (Yr (pv 3) T.zlf zmz (hr.mono ⋯) Zj))
   (Zd (Z2 (Aq PySem.F.plainAttrs_list PySem.F.slot_list_pop PySem.F.type_list_pop zdt (pv 5)))))
   (Zb (pS 10 W6.nd (pI (iL K) (pv 8) (Zu Y9 (Zu Wn (pI (iL K) (pv 0) (pv 6)) Zf) (Zm (cL K) (by rfl) T.zlq PySem.boot_len (Za (pv 8) Zc)))))
   (Zb (Vz (i:=2) W6.nd rfl rfl rfl (cT ["_law_lost"] [10]) (Z4 (K:=K) rfl (pv 2)) (fun _ _ _ _ _=>W8) (fun _ _ _ _ _=>(Wv rfl (cT ["_law_lost"] [1]) (Z4 (K:=K) rfl (pv 0)) (fun _ _ _ _ _=>Sk (Zp Qz (pv 0) (pv 1) (Zq _))) (fun _ _ _ _ _=>(pv 0)))))
   (Zb (pS 11 W6.nd (Y1 (pv 3) T.zlf zoe (hr.mono ⋯) Zj (Za Zf (Za (pv 10) Zc))))
   (Zb (Vz (i:=12) W6.nd rfl rfl rfl (cT ["_law_lost"] [10]) (Z4 (K:=K) rfl (pv 7)) (fun _ _ _ _ _=>W8) (fun _ _ _ _ _=>(pI (iL K) (Yl (Za (pv 0) (Za Y3 Zc))) (Xo zbz (by rfl) T.zqv PyProof.Rows.boot_int (Za (Yx X8 (pv 0) (pv 1) (Zq _)) Zc)))))
   (Zb (Zx (PW.pt (M3 (Zp (Xw (K:=K) rfl) (pv 10) (pv 7) (by with_unfolding_all rfl)) (Oi (Zp (za1 (K:=K) rfl hr.units) (pv 11) (Yl Zc) (Zq _)))))
    (Zd (Zl Yp))
    Zn)
   (Zb (Zx (PW.pt (M3 (Zp (Ur (K:=K) rfl) (pv 10) (pv 7) (by with_unfolding_all rfl)) (Oi (Yj (Ye (pF zm1 hr (Za (pv 2) (Za (pv 12) (Za (zax PySem.F.plainAttrs_list PySem.F.slot_list_index PySem.F.type_list_index J3 (pv 7) (Za (pv 10) Zc)) (Za (pv 11) Zc))))))))))
    (Zd (Zl Yp))
    Zn)
   (Zb (Zx (Zp (Ur (K:=K) rfl) (pv 10) (pv 7) (by with_unfolding_all rfl))
    (Zd (pS 9 W6.nd (Zu Eu (pv 9) (Yl (Za (Xg (Za (pv 10) (Za (pv 11) Zc))) Zc)))))
    Zn)
   (Zb (Vz (i:=8) W6.nd rfl rfl rfl (cT ["_law_lost"] [10]) (Z4 (K:=K) rfl (pv 8)) (fun _ _ _ _ _=>Sk (Zp Qz (pv 0) (pv 1) (Zq _))) (fun _ _ _ _ _=>(pv 0)))
   (Zd (Yo (pv 5) (Xg (Za (pv 2) (Za (pF zoi hr (Za (pv 12) (Za (pv 11) Zc))) (Za (pv 8) (Za (pv 9) Zc))))))))))))))))
  (Zd (Zx (Yj (Ye (pF zns hr (Za (pv 3) (Za (pI (iU K) (pI (iL K) (pv 5) (Qy U9 Zf)) Zf) (Za (pI (iU K) (pI (iL K) (pv 5) (Qy U9 Zf)) Zf) Zc))))))
   (Zd (Zl Yp))
   Zn)))))
 (Zd (Zl (Sx (pF zns hr (Za (pv 3) (Za (pI (iU K) (pI (iL K) (pv 5) (Qy U9 Zf)) Zf) (Za (pI (iU K) (pI (iL K) (pv 5) (Qy U9 Zf)) Zf) Zc)))) (U8 (pF znj hr (Za (Y1 (pv 3) T.zlf znk (hr.mono ⋯) Zj (Za Zf Zc)) (Za (pI (iU K) (pI (iL K) (pv 5) (Qy U9 Zf)) Zf) Zc)))))))))))))),?_⟩
 show let y1:TS:=_;let y2:TS:=Zw _ y1;let y3:TS:=Zw _ y2;let y4:TS:=Zw _ y3;let y5:TS:=Zw _ y4;let y6:TS:=Zw _ y5;let y7:TS:=Zw _ y6;let y8:TS:=Zw _ y7;let y9:TS:=_;let y10:TS:=Zw (Ac _ _ (Zw _ y8)) y9;let y11:TS:=_;let y12:TS:=Zw (Ek _ _ (Zw _ y10)) y11;let y13:TS:=Zw _ y12;let y14:TS:=Zw _ y13;let y15:TS:=Zw _ y14;let y16:TS:=Zw _ y15;let y17:TS:=Zw _ y16;Zw _ y17 _ _ _;intro y1 y2 y3 y4 y5 y6 y7 y8 y9 y10 y11 y12 y13 y14 y15 y16 y17;refine⟨_,rfl,b,ns,3,rfl,hS,Z7 ns 3,9,rfl,by decide,fun ln H1 hn s1 fln=>?_⟩;have W:=zkv (Z7 ns 3) (Z7 ns 4/5);have hnr:∀ j,1<=numS (Z7 ns 3) j/\numS (Z7 ns 3) j<=999:=fun j=>by unfold numS;omega
 have hcr:∀ j,1<=Pl (Z7 ns 4/5) j/\Pl (Z7 ns 4/5) j<=99:=fun j=>by unfold Pl;omega
 have hn:H1 ln=some (.lst (((List.range 9).map (numS (Z7 ns 3))).map V.int)):=hn;have hrg:O2 (Z7 ns 3) 9=(List.range 9).map (numS (Z7 ns 3)):=rfl;generalize numS (Z7 ns 3)=nu at W hnr hn hrg;walk_at "if";refine⟨_,rfl,b,ns,9,9,rfl,s1.seq hS,by decide,by decide,fun lr lrs rows nuG H2 hlr ilr MO hfew _ s2 flr flrs=>?_⟩;have hr100:rows.length<=100:=by omega
 have hn2:=s2 _ _ hn;refine⟨lr,rfl,⟨_,SqL.of hlr⟩,J4 (fun r=>((List.range 9).map nu).filter fun x=>decide (x∈r)) hlr ilr hr100 (fun y r H3 R hrm s3 hy k'=>?_) (fun H3 hs lm s3 i3 f3 hlm=>?_)⟩
 ·refine⟨_,rfl,ln,rfl,⟨_,SqL.of (s3 _ _ hn2)⟩,L2.Pj (fun v=>inV v (r.map V.int)) id (SqL.of (s3 _ _ hn2)) (szN (by rw[zs4,zs4,ztr];decide)) (fun j z R' hz k2=>?_) (fun j z R' hz _ k2=>⟨_,rfl,k2⟩) (fun q hq=>?_)⟩
  ·obtain⟨n,_,rfl⟩:=zte.mp (ztb hz);exact⟨_,rfl,_,rfl,y,_,rfl,.inl (SqL.of hy),rfl,Om r,_,rfl,k2⟩
  ·have ef:((((List.range 9).map nu).map V.int).filter fun v=>inV v (r.map V.int)).map id=(((List.range 9).map nu).filter fun x=>decide (x∈r)).map V.int:=by
    rw[List.map_id,zve]
    congr 1
    exact zuz fun n _=>Sl
   rw[ef];exact k' q hq
 refine al (upd _ lm _) hlm rfl fun H4 hm s4=>?_;have s24:=s3.trans s4;have im:=i3.same s4;have hml:(rows.map fun r=>((List.range 9).map nu).filter fun x=>decide (x∈r)).length<=9:=by rw[zs4];exact hfew
 have hrow:∀ r∈rows.map fun r=>((List.range 9).map nu).filter fun x=>decide (x∈r),r=((List.range 9).map nu).filter fun x=>decide (x∈r):=fun r hr=>by
  obtain⟨r0,_,rfl⟩:=zte.mp hr;refine zuz fun x hx=>decide_eq_decide.mpr ?_;exact⟨fun z=>zt1.mpr ⟨hx,zta z⟩,fun z=>of_decide_eq_true (zt1.mp z).2⟩
 generalize (rows.map fun r=>((List.range 9).map nu).filter fun x=>decide (x∈r))=may at im hml hrow;have s14:=s2.trans s24;have hn4:=s24 _ _ hn2;have hS4:=(s1.trans s14).seq hS;clear hlr ilr MO hn2 s3 s24 i3;walk_at "if";show y16 _ [some (.ref b),some (.ref ln),some (.ref lm),none,none,none,none,none,none,none,none,none,none] H4;refine⟨_,rfl,b,ns,4,rfl,hS4,_,_,rfl,rfl,⟨by decide,by decide⟩,_,_,rfl,rfl,(show (0:Int)<55 by decide),_,_,rfl,rfl,_,rfl,b,ns,4,rfl,hS4,_,_,rfl,rfl,(show (0:Int)<6 by decide),_,_,rfl,rfl,?_⟩;obtain⟨rr,hrr,hr1,hr60⟩:∃ rr:Nat,6+Z7 ns 4/6%55=(rr:Int)/\6<=rr/\rr<=60:=⟨(6+Z7 ns 4/6%55).toNat,by omega,by omega,by omega⟩;obtain⟨rq,hrq,hq5,hq10⟩:∃ rq:Nat,5+Z7 ns 4%6=(rq:Int)/\5<=rq/\rq<=10:=⟨(5+Z7 ns 4%6).toNat,by omega,by omega,by omega⟩;rw[hrr,hrq];intro p0 dx0 hp0 hdx0 ne0;refine⟨p0,dx0,rr,rq,rfl,Ze,Z9 ⋯ ⋯,Z9 ⋯ ⋯,?_⟩;rw[if_neg ⋯,if_neg ⋯];intro A1 H5 hAp SA5 k5 f5;rw[ztl,ztl] at SA5;have s5:Same H4 H5:=fun x o e=>k5 x o (by rw[Zh (Zg e hp0),Zh (Zg e hdx0)];exact e) (Zg e hp0);have ff:∀ x∈A1.fp,H4 x=none:=fun x hx=>by
  by_cases z:x=p0
  ·rw[z];exact hp0
  ·have:=f5 x hx z;rw[Zh z] at this;by_cases w:x=dx0
   ·rw[w];exact hdx0
   ·rw[Zh w] at this;exact this
 have no5:∀ x o,H4 x=some o->x∉A1.fp:=fun x o e hx=>by rw[ff x hx] at e;cases e
 clear k5 f5;subst hAp;refine⟨rfl,?_⟩;walk_at "if";have hS5:=s5.seq hS4;refine⟨_,rfl,b,ns,4,rfl,hS5,_,_,rfl,rfl,⟨by decide,by decide⟩,Z7 ns 4/5,22,rfl,by decide,fun lc H6 hc s6 flc=>?_⟩;have hc:H6 lc=some (.lst (((List.range 22).map (Pl (Z7 ns 4/5))).map V.int)):=hc;generalize Pl (Z7 ns 4/5)=cl at W hcr hc;have SA6:=SA5.same s6;have s46:=s5.trans s6;have hS6:=s46.seq hS4;have oc:=SA5.newOk _ flc;have ol:∀ x∈hs,x∉A1.fp:=fun x hx=>by
  obtain⟨xs,e⟩:=im.has hx;exact no5 x _ e
 walk_at "if";refine⟨_,rfl,_,rfl,_,rfl,_,rfl,_,rfl,b,ns,0,rfl,hS6,A1,Dh rr rq,ln,lm,lc,nu,cl,hs,may,Z7 ns 0,rfl,SA6,⟨rr,rq,rfl,hr1,hr60,hq5,hq10⟩,W,hnr,hcr,s46 _ _ hn4,s46 _ _ hm,im.same s46,hml,hrow,hc,no5 _ _ hn4,no5 _ _ hm,oc,ol,fun A2 S2 H7 SA7 LT el f7=>⟨true,rfl,iteF (Zz ?_)⟩⟩;have hp:=f7.p;obtain⟨sh2,hcur2,hmay2,hgap2⟩:=LT.cur;have hat2:atV S2=6:=by unfold atV;rw[LT.led];rfl
 obtain⟨⟨dx,vv,ob,_⟩,_⟩:=id SA7;rw[hp] at ob;have SC7:Su K A2 H7 b (ns.map V.int):=(Su.make hS4 A1 H6 s46 ff).fr f7;have im7:ILs H7 hs may:=(im.same s46).keep fun l hl o e=>(f7.k _ _ e (ol l hl)).1;have hm7:=f7.k _ _ (s46 _ _ hm) (no5 _ _ hm);have hn7:=f7.k _ _ (s46 _ _ hn4) (no5 _ _ hn4);have ol7:∀ x∈hs,x∉A2.fp:=fun x hx=>by
  obtain⟨xs,e⟩:=im.has hx;exact(f7.k _ _ (s46 _ _ e) (ol x hx)).2
 dsimp only;refine⟨_,rfl,_,rfl,A1.p,dx,_,rfl,ob,Yb ⋯,A2,S2,6,(by rw[<- hp];rfl),SA7,?_⟩;rw[<- hat2];refine Ip LT.sok hcur2 fun lg H8 hg s8 flg=>?_;refine⟨_,rfl,by show 0<=sizeLine;decide,fun lv flv=>?_⟩;refine al (upd _ lv _) flv rfl fun H9 hv s9=>?_;refine⟨szN (by show 4<=1000;decide),fun t ft=>?_⟩;refine al (upd _ t _) ft rfl fun H10 ht s10=>?_;refine⟨sz1,fun lt flt=>?_⟩;refine al (upd _ lt _) flt rfl fun H11 hlt s11=>?_;have s79:=s8.trans s9;have s7t:=s79.trans s10;have s7l:=s7t.trans s11;have olt:lt∉A2.fp:=(SA7.same s7t).newOk _ flt;have Sh:Same H10 (Y8 (one1 lt) H11):=zab flt s11;have SAh:Zv (ca a) (Y8 (one1 lt) H11) A2 S2:=(SA7.same s7t).same Sh;have Eh:E40 (·∉A2.fp) (Y8 (one1 lt) H11) ((List.range 9).map nu) t S2:=by
  refine E40.same Sh ⟨lm,lg,ln,lv,hs,[],sh2,hcur2,ht,s7t _ _ hm7.1,by rw[hmay2];exact im7.same s7t,(s9.trans s10) _ _ hg,?_,s10 _ _ hv,by rw[hgap2];exact .nil,hm7.2,SA7.newOk _ flg,hn7.2,(SA7.same s8).newOk _ flv,ol7⟩;rw[B1 LT.out];exact s7t _ _ hn7.1
 have Trh:Qk (·∉A2.fp) (Y8 (one1 lt) H11) ((List.range 9).map nu) [.ref t] S2 0:=.base Eh ⟨LT.sok,LT.old,LT.led,LT.ppl⟩ LT.out;have SCh:Su K A2 (Y8 (one1 lt) H11) b (ns.map V.int):=SC7.fr (.of (s7t.trans Sh));clear Eh Sh olt;walk_at "if";show y12 _ [some (.ref b),some (.ref ln),some (.ref lm),some (.ref A1.p),some (.ref lc),some (.ref lt),none,none,none,none,none,none,none] H11;refine⟨_,rfl,b,_,rfl,.inl (SC7.fr (.of s7l)).sq,?_⟩;rw[zs4];refine⟨_,_,rfl,14,_,rfl,⟨by omega,by omega,by split<;>omega,by split<;>omega⟩,?_⟩;obtain⟨N0,hN0,hN1⟩:∃ N0:Nat,((if (ns.length:Int)<34 then (ns.length:Int) else 34)-14).toNat=N0/\∀ i:Nat,i<N0->14+i<ns.length:=⟨_,rfl,fun i hi=>by split at hi<;>omega⟩;have hN20:N0<=20:=by rw[<- hN0];split<;>omega
 rw[hN0];clear SA7 SC7 im7 hm7 hn7 ht hv hg hc hS6 SA6 hS5 SA5 hS4 hm hn4 im
 let jv1:Nat->L2.St->Hp->Prop:=fun i σ H'=>∃ S vs n v2 v6 v7 v8 v9 v10 v11 v12,σ=[some (.ref b),some (.ref ln),v2,some (.ref A1.p),some (.ref lc),some (.ref lt),v6,v7,v8,v9,v10,v11,v12]/\Zv (ca a) (Y8 (one1 lt) H') A2 S/\Qk (·∉A2.fp) (Y8 (one1 lt) H') ((List.range 9).map nu) vs S n/\Su K A2 (Y8 (one1 lt) H') b (ns.map V.int)/\H' lt=some (.lst vs)/\n<=i
 refine Ym jv1
  ⟨S2,_,0,_,_,_,_,_,_,_,_,rfl,SAh,Trh,SCh,hlt,ztc _⟩ (fun i σ H1 hi hP=>?_) (fun σ H1 hP=>?_)
 ·obtain⟨S,vs,n,v2,v6,v7,v8,v9,v10,v11,v12,rfl,SAh,Tr,SC,hlt,hni⟩:=hP;have hki:=hN1 i hi;have hi20:i<20:=ztn hi hN20;have e14:(14:Int)+(i:Int)=((14+i:Nat):Int):=by omega
  rw[e14];have fin:∀ {Hz:Hp} {S:Sea} {vs:List V} {n:Nat} {v2 v7 v8 v9 v10 v11 v12:Option V},Zv (ca a) (Y8 (one1 lt) Hz) A2 S->Qk (·∉A2.fp) (Y8 (one1 lt) Hz) ((List.range 9).map nu) vs S n->Su K A2 (Y8 (one1 lt) Hz) b (ns.map V.int)->Hz lt=some (.lst vs)->n<=i+1->y9 { nx:=jv1 (i+1),rt:=Q,bk:=y11 { nx:=fun x H'=>Q V.non H',rt:=Q },ct:=jv1 (i+1) } [some (.ref b),some (.ref ln),v2,some (.ref A1.p),some (.ref lc),some (.ref lt),some (.int (14+i:Nat)),v7,v8,v9,v10,v11,v12] Hz:=by
   intro Hz S vs n v2 v7 v8 v9 v10 v11 v12 SAh Tr SC hlt hn;obtain⟨vs0,t,rfl,hvl,E,st,ho⟩:=id Tr.last;obtain⟨lm,lg,lh,lv,ls,ts,s,hc,ht,hm,im,hg,hh,hv,gl,om,og,oh,ov,ol⟩:=E;have sm:=Uv (one1 lt) Hz;have SA:=SAh.same sm;have hat:atI (vs0++[V.ref t]) (-1)=some (V.ref t):=L2.atI_last _ _;refine⟨_,rfl,_,rfl,_,rfl,lt,_,_,_,rfl,rfl,SqL.of hlt,hat,t,_,_,_,rfl,rfl,SqT.of (sm _ _ ht),rfl,_,rfl,_,rfl,lt,_,_,_,rfl,rfl,SqL.of hlt,hat,t,_,_,_,rfl,rfl,SqT.of (sm _ _ ht),rfl,A2,S,s,lm,lg,ls,(List.range 9).map nu,30+n,(by rw[<- hp];rfl),SA,hc,st.led,st.ok,st.old,by omega,sm _ _ hm,im.same sm,sm _ _ hg,fun H2 s2=>⟨true,rfl,iteF (Zz ?_)⟩⟩;have h2:=Va (B:=one1 lt) s2;exact⟨S,_,n,_,_,_,_,_,_,_,_,rfl,SAh.same h2,Tr.same h2,SC.fr (.of h2),s2 _ _ hlt,hn⟩
  obtain⟨vs0,t,rfl,hvl,E,st,ho⟩:=id Tr.last;obtain⟨lm,lg,lh,lv,ls,ts,s,hc,ht,hm,im,hg,hh,hv,gl,om,og,oh,ov,ol⟩:=E;have sm:=Uv (one1 lt) H1;have hat:atI (vs0++[V.ref t]) (-1)=some (V.ref t):=L2.atI_last _ _;walk_at "if";refine⟨_,rfl,_,rfl,lt,_,_,_,rfl,rfl,SqL.of hlt,hat,t,_,rfl,SqT.of (sm _ _ ht),rfl,_,_,rfl,_,_,rfl,_,_,rfl,_,_,rfl,rfl,?_⟩;walk_at "if";show y10 _ [some (.ref b),some (.ref ln),some (.ref lm),some (.ref A1.p),some (.ref lc),some (.ref lt),some (.int (14+i:Nat)),some (.ref lg),some (.ref lh),some (.ref lv),v10,v11,v12] H1;obtain⟨x,hx⟩:∃ x:Int,(ns.map V.int)[14+i]?=some (.int x):=⟨ns[14+i]'hki,by rw[zs7,zs5 hki];rfl⟩;have SC1:=SC.fr (.of sm);have hxat:=Zs hx;have hh1:=sm _ _ hh;refine Wk (J5 (b:=(decide (V.int (x%5)=V.int 4)&&decide (1<((vs0++[V.ref t]).length:Int)))||(Wh ((List.range 9).map nu) S).isEmpty) (fun Q' q'=>?_) (fun H2 s2=>itB (fun hb=>?_) (fun hb=>?_)))
  ·refine⟨_,rfl,_,rfl,b,_,_,_,rfl,rfl,SC1.sq,hxat,_,_,rfl,rfl,(show (0:Int)<5 by decide),rfl,_,rfl,?_⟩;generalize decide (V.int (x%5)=V.int 4)=b1 at q' ⊢;have third:(∀ H2,Same H1 H2->Q' (Wh ((List.range 9).map nu) S).isEmpty H2)->zdf (tOp (rEqD K false) (tVar 8) (tLst tNil)) [some (.ref b),some (.ref ln),some (.ref lm),some (.ref A1.p),some (.ref lc),some (.ref lt),some (.int (14+i:Nat)),some (.ref lg),some (.ref lh),some (.ref lv),v10,v11,v12] H1 Q':=fun q=>by
    refine⟨_,rfl,by show 0<=sizeLine;decide,fun m0 hm0=>⟨.lst ((Wh ((List.range 9).map nu) S).map Dt.int),.lst [],.lst (SqL.of (Zo hm0 _ _ hh1)) (za8 _),.lst (SqL.of Ze) .nil,Mb _,Jl,_,rfl,?_⟩⟩;rw[if_neg ⋯,Jm];exact q _ (Zo hm0)
   cases b1 with
   | false=>exact iteF (third q')
   | true =>
     refine iteT ⟨_,rfl,lt,_,rfl,.inl (SqL.of hlt),_,_,rfl,rfl,_,rfl,?_⟩;generalize decide (1<((vs0++[V.ref t]).length:Int))=b2 at q' ⊢;cases b2 with
     | false=>exact iteF (third q')
     | true=>exact iteT (q' _ (.refl _))
  ·
   have h9:((List.range 9).map nu).isEmpty=false:=rfl;have hn0:n≠0:=fun z=>by
    rw[B1 (ho z),h9,zs8,hvl,z] at hb;simp at hb
   obtain⟨m,vs1,t1,S0,e1,e2,Tr0,stp⟩:=Tr.pop hn0;obtain⟨rfl,_⟩:=List.append_inj' e2 rfl;have h12:=Va (B:=one1 lt) s2;have SAh2:=SAh.same h12;have hlt2:=s2 _ _ hlt;obtain⟨⟨dx2,vv2,ob2,_⟩,_⟩:=id (SAh2.same (Uv _ _));rw[hp] at ob2;refine⟨_,rfl,A1.p,dx2,_,rfl,ob2,Yb ⋯,one1 lt,zbp hlt2,A2,S,(by rw[<- hp];rfl),SAh2,fun z=>?_,fun std d s0 hs=>⟨S0.ppl,S0.out,(Kq stp hs).1,fun t' H3 ht' SA3 f3 gone=>?_⟩⟩
   ·obtain⟨d,a1,_⟩:=stp;rw[z] at a1;exact absurd a1.symm (by simp)
   rw[(Kq stp hs).2] at SA3;have SA4:Zv (ca a) (Y8 (one1 lt) (V9 (one1 lt) H2 H3)) A2 S0:=by rw[Wx gone];exact SA3
   have Tr4:Qk (·∉A2.fp) (Y8 (one1 lt) (V9 (one1 lt) H2 H3)) ((List.range 9).map nu) vs0 S0 m:=by rw[Wx gone];exact(Tr0.same h12).keep (fun x o ox e=>f3 x o e ox) (SAh2.tups f3)
   have SC4:Su K A2 (Y8 (one1 lt) (V9 (one1 lt) H2 H3)) b (ns.map V.int):=by rw[Wx gone];exact(SC.fr (.of h12)).fr ⟨rfl,fun b o e nf=>⟨f3 b o e nf,nf⟩,SAh2.tups f3⟩
   have hlt4:V9 (one1 lt) H2 H3 lt=some (.lst (vs0++[.ref t])):=(Ww rfl).trans hlt2;generalize V9 (one1 lt) H2 H3=H4 at SA4 Tr4 SC4 hlt4 ⊢;refine⟨_,rfl,.inl ⟨rfl,_,SqL.of hlt4⟩,lt,_,V.ref t,rfl,rfl,hlt4,by simp,?_⟩;rw[List.dropLast_concat];have hu:Y8 (one1 lt) (upd H4 lt (.lst vs0))=Y8 (one1 lt) H4:=Bw (show one1 lt lt from rfl);exact fin (S:=S0) (n:=m) (by rw[hu];exact SA4) (by rw[hu];exact Tr4) (by rw[hu];exact SC4) Ze ⋯
  ·
   have hne:(Wh ((List.range 9).map nu) S).isEmpty=false:=by
    rw[Bool.or_eq_false_iff] at hb;exact hb.2
   have h12:=Va (B:=one1 lt) s2;have sm2:=Uv (one1 lt) H2;have SAh2:=SAh.same h12;have Tr2:=Tr.same h12;have SC2:=SC.fr (.of h12);have hlt2:=s2 _ _ hlt;have hh2:=s2 _ _ hh1;have hm2:=s2 _ _ (sm _ _ hm);have im2:=im.same (sm.trans s2);have hg2:=h12 _ _ hg;have hv2:=h12 _ _ hv;have gl2:=gl.keep (fun x o _ e=>h12 x o e) fun t xs e=>h12 t _ e;have hmh:=h12 _ _ hm;clear SAh Tr SC hlt hh1 hm hg hv gl im hb;obtain⟨k1,k2,k3,k4,k5⟩:=st.ok.cur s hc;have hml:s.may.length=s.ms.length:=by rw[k4];unfold mayS;rw[zs4]
   have mo:Ws s.may (S.ppl.map (·.1)):=by rw[k4];exact st.ok.pok.may st.ok.nd k1
   have hpos:0<(Wh ((List.range 9).map nu) S).length:=by
    cases z:Wh ((List.range 9).map nu) S with
    | nil=>rw[z] at hne;cases hne
    | cons y ys=>rw[ztt];omega
   obtain⟨ix,hix,hixl⟩:∃ ix:Nat,x/5%(((Wh ((List.range 9).map nu) S).length:Nat):Int)=ix/\ix<(Wh ((List.range 9).map nu) S).length:=by
    have i0:=Int.emod_nonneg (x/5) (show (((Wh ((List.range 9).map nu) S).length:Nat):Int)≠0 by omega);have i1:=zvf (x/5) (show 0<(((Wh ((List.range 9).map nu) S).length:Nat):Int) by omega);exact⟨(x/5%(((Wh ((List.range 9).map nu) S).length:Nat):Int)).toNat,by omega,by omega⟩
   have hfx:(Wh ((List.range 9).map nu) S)[ix]?=some ((Wh ((List.range 9).map nu) S)[ix]'hixl):=zs5 hixl;generalize ((Wh ((List.range 9).map nu) S)[ix]'hixl)=lost at hfx;have hin:=ztb hfx;have hnx:((Wh ((List.range 9).map nu) S).map V.int)[ix]?=some (.int lost):=by rw[zs7,hfx];rfl
   have hlr:1<=lost/\lost<=999:=by
    obtain⟨j,_,rfl⟩:=zte.mp (zt1.mp hin).1;exact hnr j
   refine⟨_,rfl,_,rfl,_,rfl,b,_,_,_,rfl,rfl,(SC2.fr (.of sm2)).sq,hxat,_,_,rfl,rfl,⟨by decide,by decide⟩,_,rfl,lh,_,rfl,.inl (SqL.of hh2),_,_,rfl,rfl,(by rw[zs4];omega),lh,_,_,_,rfl,rfl,SqL.of hh2,(by rw[zs4,hix];exact Zs hnx),?_⟩;walk_at "if";refine⟨_,rfl,lm,rfl,⟨_,SqL.of hm2⟩,J4 (fun r=>r.filter fun n=>decide (n≠lost)) hm2 im2 (by have:=mo.few;omega) (fun y r H6 R hrm s6 hy k'=>?_) (fun H3 hs l3 s3 i3 f3 hl3=>?_)⟩
   ·refine⟨_,rfl,y,rfl,⟨_,SqL.of hy⟩,L2.Pj (fun v=>!decide (v=.int lost)) id (SqL.of hy) (szN (by rw[zs4];exact ztk (mo.len hrm) ⋯)) (fun j z R' hz k2=>?_) (fun j z R' hz _ k2=>⟨_,rfl,k2⟩) (fun q hq=>?_)⟩
    ·obtain⟨n,_,rfl⟩:=zte.mp (ztb hz);exact⟨_,rfl,_,rfl,rfl,_,rfl,k2⟩
    ·rw[zbr];exact k' q hq
   refine al (upd _ l3 _) hl3 rfl fun H4 hl4 s4=>?_;have i4:ILs H4 hs (G.without s.may lost):=i3.same s4;have s24:=s3.trans s4;have h24:=Va (B:=one1 lt) s24;have SAh4:=SAh2.same h24;have Tr4:=Tr2.same h24;have SC4:=SC2.fr (.of h24);have hlt4:=s24 _ _ hlt2;have hh4:=s24 _ _ hh2;have hg4:=h24 _ _ hg2;have hv4:=h24 _ _ hv2;have gl4:=gl2.keep (fun x o _ e=>h24 x o e) fun t xs e=>h24 t _ e;have hlne:l3≠lt:=fun z=>by rw[z] at hl3;rw[s3 _ _ hlt2] at hl3;cases hl3
   have hlh4:Y8 (one1 lt) H4 l3=some (.lst (hs.map V.ref)):=(Xc (show ¬ one1 lt l3 from hlne)).trans hl4;have hsne:∀ y∈hs,y≠lt/\y∉A2.fp:=fun y hy=>⟨(fun z=>by have:=f3 y hy;rw[z,hlt2] at this;cases this),SAh2.newOk _ (W9 (f3 y hy))⟩
   have ih4:ILs (Y8 (one1 lt) H4) hs (G.without s.may lost):=i4.keep fun y hy o e=>(Xc (show ¬ one1 lt y from(hsne y hy).1)).trans e;have ol3:l3∉A2.fp:=(SAh2.same (Va s3)).newOk _ (W9 hl3);have hhh4:Y8 (one1 lt) H4 lh=some (.lst ((Wh ((List.range 9).map nu) S).map V.int)):=h24 _ _ (h12 _ _ hh);clear SAh2 Tr2 SC2 hlt2 hh2 hm2 im2 hg2 hv2 gl2 hl4 i4;walk_at "if";obtain⟨⟨dx4,vv4,ob4,_⟩,_⟩:=id (SAh4.same (Uv _ _));rw[hp] at ob4;have g:=Ed st hc hin;obtain⟨g1,g2,g3,g4⟩:=id g;have hnum:=st.ok.num;obtain⟨gp1,gp2⟩:=st.ok.gp s (.inl hc);have rest:∀ {Hz:Hp} {S':Sea} {s':Z3} {l:Addr} {us:List V} {sp:List (Nat×Option Int)},Zv (ca a) (Y8 (one1 lt) Hz) A2 S'->FrN A2 A2 (Y8 (one1 lt) H4) (Y8 (one1 lt) Hz)->Hz lt=some (.lst (vs0++[.ref t]))->Hz l=some (.lst us)->TupL Hz us (sp.map Wf)->l∉A2.fp->l≠lt->S'.cur=some s'->s'.may=G.without s.may lost->S'.out=S.out++[(6,lost)]->Dm ((List.range 9).map nu) (30+(n+1)) S'->Pt S S' ->
     (((∀ j:Nat,s.gv[j]?≠some (.int lost))/\us=[]/\sp=[]/\s'.gaps=s.gaps/\s'.gv=s.gv)\/(∃ p e w,s.gv[p]?=some (.int lost)/\Y2 (G.without s.may lost) (s.gv.set p .non) p sp e w/\s'.gaps=s.gaps++[(lost,sp)]/\s'.gv=Yh sp (s.gv.set p .non))) ->
     y6 { nx:=y9 { nx:=jv1 (i+1),rt:=Q,bk:=y11 { nx:=fun x H'=>Q V.non H',rt:=Q },ct:=jv1 (i+1) },rt:=Q,bk:=y11 { nx:=fun x H'=>Q V.non H',rt:=Q },ct:=jv1 (i+1) } [some (.ref b),some (.ref ln),some (.ref l3),some (.ref A1.p),some (.ref lc),some (.ref lt),some (.int (14+i:Nat)),some (.ref lg),some (.ref lh),some (.ref lv),some (.int lost),some (.ref l),v12] Hz:=by
    intro Hz S' s' l us sp SAz fz hltz hl tl ol' hlne' hcz hmz hout stz stp hgot;have smz:=Uv (one1 lt) Hz;have hgz:=smz _ _ (fz.k _ _ hg4 og).1;have hhz:=smz _ _ (fz.k _ _ hhh4 oh).1;have hvz:=smz _ _ (fz.k _ _ hv4 ov).1;have hlz3:=smz _ _ (fz.k _ _ hlh4 ol3).1;have ihz:ILs (Y8 (one1 lt) Hz) hs (G.without s.may lost):=ih4.keep fun y hy o e=>(fz.k _ _ e (hsne y hy).2).1;have glz:Wg (·∉A2.fp) (Y8 (one1 lt) Hz) ts s.gaps:=gl4.keep (fun x o ox e=>(fz.k _ _ e ox).1) fz.kt;have Trz:Qk (·∉A2.fp) (Y8 (one1 lt) Hz) ((List.range 9).map nu) (vs0++[.ref t]) S n:=Tr4.keep (fun x o ox e=>(fz.k _ _ e ox).1) fz.kt;have SCz:=SC4.fr fz;have hgl:s.gv.length<=20:=by have:=k2.len;have:=mo.few;omega
    have flg:s.gv.all U4=true:=zut.mpr fun x hx=>Ts (k2.one x hx);have key:=@Ru s.gv lost k2.one;have hwl:(G.without s.may lost).length=s.may.length:=by unfold G.without;rw[zs4]
    refine⟨_,rfl,lg,rfl,⟨_,SqL.of hgz⟩,Wi (K:=K) (a:=lg) (xs:=s.gv) (fun j ys H'=>Same Hz H'/\ys=gapV (s.gv.take j) lost) ⟨.refl _,rfl⟩ (fun j ys H' _ z=>SqL.of (z.1 _ _ hgz)) (szN ⋯) (fun j ys H' z=>by rw[z.2];unfold gapV;rw[zs4];exact zu1 _ _) (fun j v ys H' hv' z=>?_) (fun ys H' z lq flq=>?_)⟩
    ·obtain⟨sz,rfl⟩:=z;unfold tYes;dsimp only;rw[if_pos rfl];refine⟨_,rfl,sz2,fun lx flx=>?_⟩;refine al (upd _ lx _) flx rfl fun H6 qx s6=>?_;refine⟨_,rfl,_,rfl,(by rcases k2.one v (ztb hv') with rfl|⟨_,rfl⟩<;>rfl),.inr ⟨_,rfl,lx,_,_,if v=.int lost then .non else v,rfl,rfl,SqL.of qx,?_,sz.trans s6,?_⟩⟩
     ·by_cases z:v=.int lost
      ·rw[zta z,if_pos rfl,if_pos z];rfl
      ·rw[ztd z,if_neg nofun,if_neg z];rfl
     ·rw[Uu hv'];unfold gapV;rw[zti];rfl
    obtain⟨sz,rfl⟩:=z;rw[zto];refine al (upd _ lq _) flq rfl fun H6 hq6 s6=>?_;have sz6:=sz.trans s6;have hl6:=sz6 _ _ hl;have hg6:=sz6 _ _ hgz;have tail:∀ {Hy:Hp} {lv':Addr} {ts':List V},Same H6 Hy->s'.gv=Yh sp (gapV s.gv lost)->(∀ q∈sp,q.1<(gapV s.gv lost).length)->sp.length<=100->Hy lv'=some (.lst ts')->lv'≠lt->lv'∉A2.fp->Wg (·∉A2.fp) (Y8 (one1 lt) Hy) ts' s'.gaps ->
      y2 { nx:=y9 { nx:=jv1 (i+1),rt:=Q,bk:=y11 { nx:=fun x H'=>Q V.non H',rt:=Q },ct:=jv1 (i+1) },rt:=Q,bk:=y11 { nx:=fun x H'=>Q V.non H',rt:=Q },ct:=jv1 (i+1) } [some (.ref b),some (.ref ln),some (.ref l3),some (.ref A1.p),some (.ref lc),some (.ref lt),some (.int (14+i:Nat)),some (.ref lg),some (.ref lh),some (.ref lv'),some (.int lost),some (.ref l),some (.ref lq)] Hy:=by
     intro Hy lv' ts' s6y hgv2 hsp hspl hv' hvne ov' gly;have szy:=sz6.trans s6y;have hhy:=szy _ _ hhz;refine⟨_,rfl,lh,rfl,⟨_,SqL.of hhy⟩,L2.Pj (fun v=>!decide (v=.int lost)) id (SqL.of hhy) (szN (by rw[zs4];exact ztk (zub _ _) (by rw[zs4,ztr];decide))) (fun j z R' hz k2=>?_) (fun j z R' hz _ k2=>⟨_,rfl,k2⟩) (fun lj flj=>?_)⟩
     ·obtain⟨n,_,rfl⟩:=zte.mp (ztb hz);exact⟨_,rfl,_,rfl,rfl,_,rfl,k2⟩
     rw[zbr,<- zc0 hout];refine al (upd _ lj _) flj rfl fun H7 hj7 s7=>?_;have sz7:=szy.trans s7;walk_at "if";have hltm:=sz7 _ _ hltz;refine⟨_,rfl,lt,_,rfl,hltm,_,rfl,_,rfl,_,rfl,lq,l,gapV s.gv lost,us,sp,rfl,s7 _ _ (s6y _ _ hq6),sz7 _ _ hl,tl.same sz7,hsp,fun x hx=>?_,(by unfold gapV;rw[zs4];omega),hspl,fun lz H8 hlz s8 flz=>⟨_,rfl,_,rfl,szN (by show 4<=1000;decide),fun tk ftk=>?_⟩⟩
     ·unfold gapV at hx;obtain⟨v,hv,rfl⟩:=zte.mp hx;split
      ·exact .inl rfl
      ·exact k2.one v hv
     refine al (upd _ tk _) ftk rfl fun H9 htk s9=>?_;have sz9:=(sz7.trans s8).trans s9;have hlt9:=sz9 _ _ hltz;have hz9:=Va (B:=one1 lt) sz9;have hy9:=Va (B:=one1 lt) ((s7.trans s8).trans s9);have ne7:∀ {x:Addr},Hy x=none->x≠lt:=fun {x} hx z=>by rw[z,szy _ _ hltz] at hx;cases hx
     have njl:=ne7 flj;have nzl:=ne7 (s7.free flz);have ntl:=ne7 ((s7.trans s8).free ftk);have up:∀ {x:Addr} {o:HO},x≠lt->H9 x=some o->Y8 (one1 lt) H9 x=some o:=fun {x o} n e=>(Xc (show ¬ one1 lt x from n)).trans e;have fr:∀ {x:Addr},Hz x=none->x∉A2.fp:=fun {x} hx=>SAz.newOk _ (W9 hx);have E9:E40 (·∉A2.fp) (Y8 (one1 lt) H9) ((List.range 9).map nu) tk S':=by
      refine⟨l3,lz,lj,lv',hs,ts',s',hcz,up ntl htk,up hlne (sz9 _ _ hlz3),by rw[hmz];exact ihz.same hz9,by rw[hgv2];exact up nzl (s9 _ _ hlz),up njl ((s8.trans s9) _ _ hj7),up hvne (((s7.trans s8).trans s9) _ _ hv'),gly.keep (fun x o _ e=>hy9 x o e) (fun t xs e=>hy9 t _ e),ol3,fr (sz7.free flz),fr (szy.free flj),ov',fun y hy=>(hsne y hy).2⟩
     have hlen:(vs0++[V.ref t]).length<=1000:=by rw[zs8,hvl];show n+1<=1000;omega
     refine⟨_,hlt9,Yn hlen,?_⟩;have hu:Y8 (one1 lt) (upd H9 lt (.lst ((vs0++[.ref t])++[.ref tk])))=Y8 (one1 lt) H9:=Bw (show one1 lt lt from rfl);exact fin (S:=S') (n:=n+1) (by rw[hu];exact SAz.same hz9) (by rw[hu];exact .step (Trz.same hz9) E9 stz stp) (by rw[hu];exact SCz.fr (.of hz9)) Ze ⋯
    walk_at "if";rcases hgot with ⟨hno,rfl,rfl,hgp,hgv⟩|⟨p,e,w,hpx,CR,hgp,hgv⟩
    ·have hc0:inV (.int lost) s.gv=false:=by
      cases z:inV (.int lost) s.gv with
      | false=>rfl
      | true=>obtain⟨j,hj⟩:=key.mp z;exact absurd hj (hno j)
     refine Wk (J5 (b:=false) (fun Q' q'=>⟨_,rfl,_,rfl,lg,_,rfl,.inl (SqL.of hg6),rfl,flg,_,rfl,?_⟩) (fun H7 s7=>iteF (Zz ?_)))
     ·rw[if_pos rfl,hc0];exact iteT (Bu (i:=11) (l:=l) (ns:=[]) rfl hl6 _ q')
     dsimp only;refine Wk (Y7 (b:=false) (fun Q' q'=>⟨_,rfl,_,rfl,lg,_,rfl,.inl (SqL.of (s7 _ _ hg6)),rfl,flg,_,rfl,?_⟩) (iteF (Zz ?_)))
     ·rw[if_neg nofun,hc0];exact iteF q'
     dsimp only;refine Wk (Y7 (b:=false) (fun Q' q'=>⟨_,rfl,_,rfl,lg,_,rfl,.inl (SqL.of (s7 _ _ hg6)),rfl,flg,_,rfl,?_⟩) (iteF (Zz ?_)))
     ·rw[if_neg nofun,hc0];exact q'
     have hz7:=Va (B:=one1 lt) (sz6.trans s7);refine tail s7 (by rw[ze6 hno,hgv];rfl) nofun ⋯ ((sz6.trans s7) _ _ hvz) (fun z=>?_) ov (by rw[hgp];exact glz.keep (fun x o _ e=>hz7 x o e) fun t xs e=>hz7 t _ e);have:=(fz.k _ _ hv4 ov).1;rw[z,Vi (show one1 lt lt from rfl)] at this;cases this
    ·have hc1:inV (.int lost) s.gv=true:=key.mpr ⟨p,hpx⟩;have F0:=V3 k2 hpx;have eg:=zgf k2 hpx;have hpl2:p<(G.without s.may lost).length:=by have:=(zs6.mp hpx).1;have:=k2.len;omega
     have hspl:sp.length<=100:=by have:=CR.len F0 hpl2;have:=mo.few;omega
     refine Wk (Y7 (b:=false) (fun Q' q'=>⟨_,rfl,_,rfl,lg,_,rfl,.inl (SqL.of hg6),rfl,flg,_,rfl,?_⟩) (iteF (Zz ?_)))
     ·rw[if_pos rfl,hc1];exact iteF q'
     dsimp only;refine Wk (J5 (b:=false) (fun Q' q'=>⟨_,rfl,_,rfl,lg,_,rfl,.inl (SqL.of hg6),rfl,flg,_,rfl,?_⟩) (fun H7 s7=>iteF (Zz ?_)))
     ·rw[if_neg nofun,hc1];refine iteT ⟨_,rfl,_,rfl,_,rfl,.inl ⟨rfl,_,SqL.of hg6⟩,_,rfl,lg,s.gv,.int lost,p,rfl,rfl,hg6,rfl,flg,⟨_,hpx,(Qd (.inr ⟨_,rfl⟩)).mpr rfl⟩,fun m z hm hz=>?_,_,rfl,l3,lq,l,hs,G.without s.may lost,_,s.gv.set p .non,us,p,e,sp,w,rfl,sz6 _ _ hlz3,(ihz.same smz).same sz6,mo.filter _,by rw[<- eg];exact hq6,F0,hpl2,hl6,tl.same sz6,CR,fun H7 s7=>⟨true,rfl,q' _ s7⟩⟩;cases hb2:eqV z (.int lost) with
      | false=>rfl
      | true =>
        have ez:=(Qd (k2.one z (ztb hz))).mp hb2;rw[ez] at hz;have:=k2.inj m p lost hz hpx;omega
     have sz7:=sz6.trans s7;dsimp only;refine Wk (Y7 (b:=true) (fun Q' q'=>⟨_,rfl,_,rfl,lg,_,rfl,.inl (SqL.of (s7 _ _ hg6)),rfl,flg,_,rfl,?_⟩) (iteT ?_))
     ·rw[if_neg nofun,hc1];exact q'
     refine⟨_,rfl,_,rfl,_,rfl,sz2,fun tk ftk=>?_⟩;refine al (upd _ tk _) ftk rfl fun H8 htk s8=>?_;refine⟨sz1,fun l1 fl1=>?_⟩;refine al (upd _ l1 _) fl1 rfl fun H9 hl1 s9=>?_;have hlts:=glz.length;refine⟨lv,l1,_,_,rfl,rfl,((sz7.trans s8).trans s9) _ _ hvz,hl1,szN (by rw[hlts];show s.gaps.length+1<=1000;omega),fun l2 fl2=>?_⟩;refine al (upd _ l2 _) fl2 rfl fun H10 hl2 s10=>?_;have s7y:=(s8.trans s9).trans s10;have sz10:=sz7.trans s7y;have hz10:=Va (B:=one1 lt) sz10;have ne7:∀ {x:Addr},H7 x=none->x≠lt:=fun {x} hx z=>by rw[z,sz7 _ _ hltz] at hx;cases hx
     refine tail (s7.trans s7y) (by rw[eg,hgv]) (fun q hq=>?_) hspl hl2 (ne7 ((s8.trans s9).free fl2)) (SAz.newOk _ (W9 ((sz7.trans (s8.trans s9)).free fl2))) ?_
     ·rw[eg,zu0];have:=CR.ch.lt F0 hpl2 q hq;have:=k2.len;omega
     ·rw[hgp];refine Wg.snoc (l:=l) (us:=us) ?_ ?_ ?_ ol' (glz.keep (fun x o _ e=>hz10 x o e) fun t xs e=>hz10 t _ e)
      ·exact(Xc (show ¬ one1 lt tk from ne7 ftk)).trans ((s9.trans s10) _ _ htk)
      ·exact(Xc (show ¬ one1 lt l from hlne')).trans (sz10 _ _ hl)
      ·refine(tl.same sz10).mono fun x xs e=>(Xc (show ¬ one1 lt x from fun z=>?_)).trans e;rw[show x=lt from z,sz10 _ _ hltz] at e;cases e
   refine⟨_,rfl,A1.p,dx4,_,rfl,ob4,Yb ⋯,_,rfl,one1 lt,zbp hlt4,A2,S,atV S,lost,(by rw[<- hp,st.at];rfl),SAh4,Z9 (by rw[st.at];decide) (by rw[st.at];decide),Z9 ⋯ ⋯,by omega,by omega,st.ok.pok,fun s' hs'=>?_,?_⟩
   ·rw[hc] at hs';cases hs';exact⟨k1,k2,k4,by omega⟩
   have h40:=st.ok.lt (by rw[hc];exact nofun);have h41:atV S=(S.led.length:Int)+1:=rfl;rw[if_neg ⋯,if_neg ⋯,if_pos g3,if_neg g4,if_neg ⋯];refine⟨fun z=>?_,fun s' _ hs' hpl l H5 hl SA5 f5 fl gone=>?_,fun s' p _ hs' hpl l us sts e w H5 hl tl CR SA5 f5 fl gone=>?_⟩
   ·rw[hc] at z;rcases z with z|z
    ·cases z
    ·exact absurd z ⋯
   ·rw[hc] at hs';cases hs';have hno:∀ j:Nat,s.gv[j]?≠some (V.int lost):=by
     rcases Kj s.gv lost with z|⟨j,z,_⟩
     ·exact z.2
     ·rw[hpl] at z;cases z
    obtain⟨stz,stp⟩:=Ee st hc hin (.awayF hc hpl hl) rfl rfl;have fN:FrN A2 A2 (Y8 (one1 lt) H4) H5:=⟨rfl,fun b o e nf=>⟨f5 b o e nf,nf⟩,SAh4.tups f5⟩;walk_at "if";exact rest (s':={ s with may:=mayS (Xk S (atV S) lost) s.ms }) (sp:=[]) (by rw[Wx gone];exact SA5) (by rw[Wx gone];exact fN) ((Ww rfl).trans hlt4) (Lo gone _ _ hl) .nil (SAh4.newOk _ fl) (fun z=>by rw[z,gone lt rfl] at hl;cases hl) rfl (by show mayS _ _=_;rw[V6,<- k4]) (by show S.out++[(atV S,lost)]=_;rw[st.at]) stz stp (.inl ⟨hno,rfl,rfl,rfl,rfl⟩)
   ·rw[hc] at hs';cases hs';obtain⟨stz,stp⟩:=Ee st hc hin (.awayC hc hpl hl tl CR) rfl rfl;have fN:FrN A2 A2 (Y8 (one1 lt) H4) H5:=⟨rfl,fun b o e nf=>⟨f5 b o e nf,nf⟩,SAh4.tups f5⟩;have hmw:mayS (Xk S (atV S) lost) s.ms=G.without s.may lost:=by rw[V6,<- k4]
    walk_at "if";exact rest (by rw[Wx gone];exact SA5) (by rw[Wx gone];exact fN) ((Ww rfl).trans hlt4) (Lo gone _ _ hl) (tl.same (Lo gone)) (SAh4.newOk _ fl) (fun z=>by rw[z,gone lt rfl] at hl;cases hl) rfl hmw (by show S.out++[(atV S,lost)]=_;rw[st.at]) stz stp (.inr ⟨p,e,w,Qj hpl,by rw[<- hmw];exact CR,rfl,rfl⟩)
 ·obtain⟨S,vs,n,v2,v6,v7,v8,v9,v10,v11,v12,rfl,SAh,Tr,SC,hlt,hn⟩:=hP;obtain⟨vs0,t,rfl,hvl,E,st,ho⟩:=Tr.last;obtain⟨lm,lg,lh,lv,ls,ts,s,hc,ht,hm,im,hg,hh,hv,gl,om,og,oh,ov,ol⟩:=E;have sm:=Uv (one1 lt) H1;have SA:=SAh.same sm;have hat:atI (vs0++[V.ref t]) (-1)=some (V.ref t):=L2.atI_last _ _;obtain⟨⟨dx,vv,ob,_⟩,_⟩:=id SA;rw[hp] at ob;dsimp only;refine⟨_,rfl,_,rfl,_,rfl,lt,_,_,_,rfl,rfl,SqL.of hlt,hat,t,_,_,_,rfl,rfl,SqT.of (sm _ _ ht),rfl,_,rfl,_,rfl,lt,_,_,_,rfl,rfl,SqL.of hlt,hat,t,_,_,_,rfl,rfl,SqT.of (sm _ _ ht),rfl,A2,S,s,lm,lg,ls,(List.range 9).map nu,30+n,(by rw[<- hp];rfl),SA,hc,st.led,st.ok,st.old,by omega,sm _ _ hm,im.same sm,sm _ _ hg,fun H2 s2=>⟨true,rfl,iteT ?_⟩⟩;have s12:=sm.trans s2;refine⟨_,rfl,A1.p,dx,_,rfl,s2 _ _ ob,Yb ⋯,A2,S,6,(by rw[<- hp];rfl),SA.same s2,?_⟩;rw[<- st.at];obtain⟨gp1,gp2⟩:=st.ok.gp s (.inl hc);refine Ip st.ok hc ⟨by omega,fun l us H3 hl gl3 s3 fl=>?_⟩;have s13:=s12.trans s3;refine⟨_,rfl,_,rfl,lt,_,_,_,rfl,rfl,SqL.of ((s2.trans s3) _ _ hlt),hat,t,_,_,_,rfl,rfl,SqT.of (s13 _ _ ht),rfl,_,(·∉A2.fp),l,lv,us,ts,s.gaps,rfl,hl,s13 _ _ hv,gl3,gl.keep (fun x o _ e=>s13 x o e) (fun t xs e=>s13 t _ e),by omega,fun x hx=>ztk (gp2 x hx) ⋯,?_⟩;exact h _
end
end K40
namespace K40
open PySem PySem.Spec PyProof.Rows L2 G PySem.W
theorem zie{l:OpenLaw}{w:World}{K:Frag}{h:Heap}{mg:Str->Option Value}{fa zoq zl1 zme zl5 zl9 zl8 zm9 zmh zmi zm0 zmp zmj zn2 znd zlx zmd zli zlj zlg zle f87:Addr}{tk0 tk1 tk2 tk3 tk4 tk5 tk6 tk7:Tok}{u87 n87:Option Addr}{z87:Array (Option Value)}{o87 v87 d87 m87 c87 t87:Value}(X:K.In h)(G:h.Ns mainGlobals mg)(hfa:mg "law"=some (.ref fa))
  (zpz:NsB K "BookError" zoq)
  (zow:NsB K "OutOfRange" zl1)
  (znu:NsB K "KnownReferee" zme)
  (zm5:NsB K "TooManyReferees" zl5)
  (znc:NsB K "UnknownReferee" zl9)
  (zne:NsB K "TooManyMatches" zl8)
  (zpj:NsB K "SameClub" zm9)
  (zod:NsB K "NoSuchMatch" zmh)
  (zof:NsB K "NoSuchRound" zmi)
  (zo5:NsB K "RoundOver" zm0)
  (zoy:NsB K "SeasonOver" zmp)
  (zob:NsB K "AwayAlready" zmj)
  (zpw:NsB K "DrawnUp" zn2)
  (zpi:NsB K "NotDrawn" znd)
  (zmw:NsB K "NothingToTakeBack" zlx)
  (zn5:NsB K "TooManyDeeds" zmd)
  (zqb:NsB K "Ledger" zli)
  (zqc:NsB K "Roster" zlj)
  (zqo:NsB K "Sheet" zlg)
  (zp3:NsB K "Season" zle)
  (zqi:ze2 K zli)
  (zoo:findIn K (.ref zli) "rounds"=some none)
  (zna:findIn K (.ref zli) "meetings"=some none)
  (zqg:ze2 K zlj)
  (zml:findIn K (.ref zlj) "entries"=some none)
  (zqr:ze2 K zlg)
  (znf:findIn K (.ref zlg) "listed"=some none)
  (zpq:findIn K (.ref zlg) "lists"=some none)
  (zno:findIn K (.ref zlg) "given"=some none)
  (zpu:findIn K (.ref zlg) "gaps"=some none)
  (zqh:ze2 K zle)
  (zo7:findIn K (.ref zle) "length"=some none)
  (zqn:findIn K (.ref zle) "rest"=some none)
  (zmx:findIn K (.ref zle) "roster"=some none)
  (zm3:findIn K (.ref zle) "ledger"=some none)
  (zn4:findIn K (.ref zle) "absent"=some none)
  (zoz:findIn K (.ref zle) "sheets"=some none)
  (zma:findIn K (.ref zle) "sheet"=some none)
  (zmq:findIn K (.ref zle) "standing"=some none)
  (zpo:XcB K zl1)
  (zom:XcB K zl8)
  (zp7:XcB K zm9)
  (zo9:XcB K zme)
  (zn9:XcB K zl5)
  (zon:XcB K zl9)
  (zpf:XcB K zmh)
  (zpr:XcB K zmp)
  (zqj:XcB K zn2)
  (zpe:XcB K zmi)
  (zo2:XcB K zmd)
  (zp6:XcB K znd)
  (zp0:XcB K zm0)
  (zpg:XcB K zmj)
  (znn:XcB K zlx)
  (zqq:NzB K "max")
  (zlq:NzB K "len")
  (zox:NzB K "tuple")
  (zmk:NzB K "list")
  (zoa:NzB K "enumerate")
  (zlw:NzB K "range")
  (zo8:NzB K "sorted")
  (zqx:NzB K "zip")
  (zlp:NzB K "isinstance")
  (zqv:NzB K "int")
  (zqt:NzB K "bool")
  (zqy:NzB K "abs")
  (zqk:NzB K "min")
  (zog:nsIn K mainGlobals "MOST_NUMBER"=some (some (.int 999 tk0)))
  (znr:nsIn K mainGlobals "MOST_GRADE"=some (some (.int 9 tk1)))
  (zng:nsIn K mainGlobals "MOST_CLUB"=some (some (.int 99 tk2)))
  (zmy:nsIn K mainGlobals "MOST_REFEREES"=some (some (.int 30 tk3)))
  (zm4:nsIn K mainGlobals "MOST_MATCHES"=some (some (.int 20 tk4)))
  (zok:nsIn K mainGlobals "MOST_ROUNDS"=some (some (.int 60 tk5)))
  (zo3:nsIn K mainGlobals "MOST_REST"=some (some (.int 10 tk6)))
  (znq:nsIn K mainGlobals "MOST_DEEDS"=some (some (.int 100 tk7)))
  (l0:LNe K "met_lately" Ql)
  (l1:LNe K "reasons" Lq)
  (l2:LNe K "takers" Hf)
  (l3:LMe K zli "__init__" "Ledger.__init__" Ua)
  (l4:LMe K zli "write" "Ledger.write" T2)
  (l5:LMe K zli "over" "Ledger.over" S6)
  (l6:LMe K zli "met" "Ledger.met" Qm)
  (l7:LNe K "check_range" S7)
  (l8:LNe K "check_count" S8)
  (l9:LNe K "check_ranges" T3)
  (l10:LNe K "check_clubs" S9)
  (l11:LNe K "checked" Lr)
  (l12:LMe K zlj "__init__" "Roster.__init__" Uc)
  (l13:LMe K zlj "check_new" "Roster.check_new" Vr)
  (l14:LMe K zlj "check_known" "Roster.check_known" W2)
  (l15:LMe K zlj "add" "Roster.add" Qn)
  (l16:LMe K zlj "strike" "Roster.strike" Tb)
  (l17:LMe K zlj "numbers" "Roster.numbers" Uw)
  (l18:LMe K zlj "entry" "Roster.entry" T4)
  (l19:LMe K zlj "person" "Roster.person" Tc)
  (l20:LNe K "places_taken" T5)
  (l21:LNe K "steps_into" Qo)
  (l22:LNe K "free_referee" T6)
  (l23:LNe K "traced" Hg)
  (l24:LNe K "chain" Dp)
  (l25:LNe K "stepped" Ly)
  (l26:LNe K "fill" zah)
  (l27:LNe K "left_without" T7)
  (l28:LNe K "place_of" Nu)
  (l29:LNe K "shortage" Nv)
  (l30:LMe K zlg "__init__" "Sheet.__init__" Ux)
  (l31:LMe K zlg "barred" "Sheet.barred" T8)
  (l32:LMe K zlg "fallen_out" "Sheet.fallen_out" Vs)
  (l33:LMe K zlg "matches" "Sheet.matches" Td)
  (l34:LMe K zlg "may" "Sheet.may" Pz)
  (l35:LMe K zlg "check_place" "Sheet.check_place" Vc)
  (l36:LMe K zlg "goes" "Sheet.goes" Qq)
  (l37:LMe K zlg "where" "Sheet.where" Ra)
  (l38:LMe K zlg "why" "Sheet.why" P8)
  (l39:LMe K zlg "chains" "Sheet.chains" T9)
  (l40:LMe K zlg "rows" "Sheet.rows" Qr)
  (l41:LNe K "drawn_sheet" Rb)
  (l42:LMe K zle "__init__" "Season.__init__" Ud)
  (l43:LMe K zle "check_not_over" "Season.check_not_over" X7)
  (l44:LMe K zle "check_undrawn" "Season.check_undrawn" X9)
  (l45:LMe K zle "check_round" "Season.check_round" W4)
  (l46:LMe K zle "check_room" "Season.check_room" Vd)
  (l47:LMe K zle "note" "Season.note" Rh)
  (l48:LMe K zle "sheet_at_hand" "Season.sheet_at_hand" Wa)
  (l49:LMe K zle "sheet_of" "Season.sheet_of" Ue)
  (l50:LMe K zle "takers_of" "Season.takers_of" Vt)
  (l51:LMe K zle "enrol" "Season.enrol" Sa)
  (l52:LMe K zle "draw_up" "Season.draw_up" Uy)
  (l53:LMe K zle "away" "Season.away" Ri)
  (l54:LMe K zle "step_in" "Season.step_in" Uz)
  (l55:LMe K zle "close" "Season.close" Sb)
  (l56:LMe K zle "take_back" "Season.take_back" Vu)
  (l57:LMe K zle "at_hand" "Season.at_hand" U0)
  (l58:LMe K zle "goes" "Season.goes" Rj)
  (l59:LMe K zle "why" "Season.why" Qs)
  (l60:LMe K zle "chains" "Season.chains" Te)
  (l61:LMe K zle "may" "Season.may" Qt)
  (l62:LNe K "_law_whole" Ob)
  (l63:LNe K "_law_at" Hu)
  (l64:LNe K "_law_row" L8)
  (l65:LNe K "_law_numbers" Ys)
  (l66:LNe K "_law_clubs" Xb)
  (l67:LNe K "_law_one_is" Qu)
  (l68:LNe K "_law_list_is" Rk)
  (l69:LNe K "_law_tuple_is" Se)
  (l70:LNe K "_law_rows_are" Sf)
  (l71:LNe K "_law_lists_are" Tf)
  (l72:LNe K "_law_near" N2)
  (l73:LNe K "_law_graph" Of)
  (l74:LNe K "_law_is_filling" U1)
  (l75:LNe K "_law_stuck" Og)
  (l76:LNe K "_law_left_just_where" Wm)
  (l77:LNe K "_law_is_chain" Sg)
  (l78:LNe K "_law_steps" Oh)
  (l79:LNe K "_law_to_free" Rl)
  (l80:LNe K "_law_chain_is_due" Vx)
  (l81:LNe K "_law_is_shortage" Ul)
  (l82:LNe K "_law_moves_are" Tg)
  (l83:LNe K "_law_stepped" Rm)
  (l84:LNe K "_law_past" N4)
  (l85:LNe K "_law_led_to" Qx)
  (l86:LNe K "_law_stands" Qw)
  (l87:LN K "law" "law" Ef f87 o87 v87 d87 m87 c87 t87 u87 n87 z87)
  : ∃ fd:FuncData,(∀ (s:Shared) (v:Value),BindsTo s fd ⟨[v],[]⟩ [("_law_script",v)])/\∀ base:Heap,K.In base->base.Ns mainGlobals mg->FnOk l.prog w K mg base (CX1 l.prog w) 8 fa fd ["_law_script"] (za3 K):=by
 have e:=hfa.symm.trans (mg_of X G l87.b);cases e
 let a:Ad:=⟨zoq,zl1,zme,zl5,zl9,zl8,zm9,zmh,zmi,zm0,zmp,zmj,zn2,znd,zlx,zmd,zli,zlj,zlg,zle⟩
 obtain⟨pg_Ledger,hd_Ledger,po_Ledger,sa_Ledger,_,_⟩:=id zqi;obtain⟨pg_Roster,hd_Roster,po_Roster,sa_Roster,_,_⟩:=id zqg;obtain⟨pg_Sheet,hd_Sheet,po_Sheet,sa_Sheet,_,_⟩:=id zqr;obtain⟨pg_Season,hd_Season,po_Season,sa_Season,_,_⟩:=id zqh;have T:Tx K mg a:=⟨⟨pg_Ledger,hd_Ledger,po_Ledger,sa_Ledger⟩,
  zoo,
  zna,
  ⟨pg_Roster,hd_Roster,po_Roster,sa_Roster⟩,
  zml,
  ⟨pg_Sheet,hd_Sheet,po_Sheet,sa_Sheet⟩,
  znf,
  zpq,
  zno,
  zpu,
  ⟨pg_Season,hd_Season,po_Season,sa_Season⟩,
  zo7,
  zqn,
  zmx,
  zm3,
  zn4,
  zoz,
  zma,
  zmq,
  ⟨mg_of X G zow,zpo⟩,
  ⟨mg_of X G zne,zom⟩,
  ⟨mg_of X G zpj,zp7⟩,
  ⟨mg_of X G znu,zo9⟩,
  ⟨mg_of X G zm5,zn9⟩,
  ⟨mg_of X G znc,zon⟩,
  ⟨mg_of X G zod,zpf⟩,
  ⟨mg_of X G zoy,zpr⟩,
  ⟨mg_of X G zpw,zqj⟩,
  ⟨mg_of X G zof,zpe⟩,
  ⟨mg_of X G zn5,zo2⟩,
  ⟨mg_of X G zpi,zp6⟩,
  ⟨mg_of X G zo5,zp0⟩,
  ⟨mg_of X G zob,zpg⟩,
  ⟨mg_of X G zmw,znn⟩,
  mg_none_of X G zqq,
  mg_none_of X G zlq,
  mg_none_of X G zox,
  mg_none_of X G zmk,
  mg_none_of X G zoa,
  mg_none_of X G zlw,
  mg_none_of X G zo8,
  mg_none_of X G zqx,
  mg_none_of X G zlp,
  mg_none_of X G zqv,
  mg_none_of X G zqt,
  mg_none_of X G zqy,
  mg_none_of X G zqk,
  mg_of X G zpz,
  mg_of X G zow,
  mg_of X G znu,
  mg_of X G zm5,
  mg_of X G znc,
  mg_of X G zne,
  mg_of X G zpj,
  mg_of X G zod,
  mg_of X G zof,
  mg_of X G zo5,
  mg_of X G zoy,
  mg_of X G zob,
  mg_of X G zpw,
  mg_of X G zpi,
  mg_of X G zmw,
  mg_of X G zn5,
  mg_of X G zqb,
  mg_of X G zqc,
  mg_of X G zqo,
  mg_of X G zp3,
  ⟨_,mg_of X G zog⟩,
  ⟨_,mg_of X G znr⟩,
  ⟨_,mg_of X G zng⟩,
  ⟨_,mg_of X G zmy⟩,
  ⟨_,mg_of X G zm4⟩,
  ⟨_,mg_of X G zok⟩,
  ⟨_,mg_of X G zo3⟩,
  ⟨_,mg_of X G znq⟩⟩
 refine⟨fnOf "law" "law" (Sj Ef) (Yt Ef) (Zi Ef) .none v87 d87 m87 n87 c87 t87,fun s v=>.of_eq rfl,fun base KX NX=>?_⟩;have Z:XG l.prog w base K mg h:=⟨X,G⟩;have zqa:=nE Z l3 zqi zqb fun F=>Nq F T;have znw:=mE Z l4 fun F=>Kw F T;have zll:=mE Z l5 fun F=>Iw F T;have zop:=mE Z l6 fun F=>Gv F T;have zlo:=dE Z l7 fun F=>Iz F T;have zoh:=dE Z l8 fun F=>I9 F T;have zoj:=dE Z l10 fun F=>He F T;have zp8:=nE Z l12 zqg zqc fun F=>Nt F T;have zly:=mE Z l14 fun F=>Pb F T;have zni:=mE Z l16 fun F=>Lu F T;have zms:=mE Z l17 fun F=>Mp F T;have zmf:=dE Z l20 fun F=>K0 F T;have zmr:=dE Z l21 fun F=>Gy F T;have znx:=dE Z l22 fun F=>K3 F T;have zpn:=dE Z l23 fun F=>zc4 F T;have zm7:=dE Z l25 fun F=>zag F T;have znv:=dE Z l27 fun F=>K5 F T;have zpl:=dE Z l28 fun F=>B7 F T;have znt:=nE Z l30 zqr zqo fun F=>Mr F T;have znh:=mE Z l33 fun F=>L4 F T;have zmv:=mE Z l35 fun F=>P6 F T;have zmt:=mE Z l36 fun F=>G1 F T;have zmg:=mE Z l39 fun F=>K9 F T;have zor:=mE Z l40 fun F=>G3 F T;have zlz:=mE Z l45 fun F=>Pd F T;have zlm:=mE Z l46 fun F=>Oa F T;have zl7:=mE Z l47 fun F=>Hm F T;have zlk:=mE Z l48 fun F=>R6 F T;have zl0:=dE Z l62 fun F=>Dz F T;have zmc:=dE Z l63 fun F=>zc6 F T;have zpv:=dE Z l64 fun F=>zai F T;have zmm:=dE Z l65 fun F=>Hv F T;have zo6:=dE Z l66 fun F=>D1 F T;have zpm:=dE Z l72 fun F=>Aa F T;have zpa:=dE Z l75 fun F=>D3 F T;have zpb:=dE Z l78 fun F=>D4 F T;have zoc:=dE Z l79 fun F=>Ge F T;have zoi:=dE Z l83 fun F=>Gg F T;have zpk:=dE Z l84 fun F=>Ab F T;have znp:=dE Z l0 fun F=>Gs F T zll zop;have zn8:=dE Z l9 fun F=>Kx F T zlo;have zl3:=mE Z l13 fun F=>Ox F T zlo;have znz:=mE Z l18 fun F=>Kz F T zly;have zpc:=dE Z l24 fun F=>ze8 F T zmf zmr znx zpn;have zph:=dE Z l29 fun F=>B8 F T zmf znv zmr;have zo1:=mE Z l34 fun F=>Dr F T zmv;have zmn:=mE Z l37 fun F=>Hi F T zpl;have zmz:=mE Z l56 fun F=>O0 F T zni;have zlh:=mE Z l57 fun F=>Mw F T zll;have zlv:=dE Z l67 fun F=>G9 F T zl0;have zo4:=dE Z l73 fun F=>D2 F T zmc zmm zpv zpm;have znb:=dE Z l74 fun F=>Mz F T zl0;have zmo:=dE Z l76 fun F=>Qv F T zpa;have zn3:=dE Z l77 fun F=>Jf F T zl0;have zpx:=dE Z l1 fun F=>zad F T znp;have zpt:=dE Z l11 fun F=>zaf F T zoh zn8 zoj;have zou:=mE Z l15 fun F=>Gx F T zl3;have znl:=mE Z l19 fun F=>Lw F T znz;have zqu:=dE Z l26 fun F=>zgg F T zm7 zpc;have zny:=mE Z l31 fun F=>K7 F T znt;have zm2:=mE Z l32 fun F=>Oy F T zmn zm7 zpc znt;have zo0:=mE Z l38 fun F=>Dv F T zph;have zp2:=nE Z l42 zqh zp3 fun F=>Ny F T zlo zp8 zqa;have zlt:=mE Z l43 fun F=>Rg F T zlh;have zls:=mE Z l49 fun F=>N1 F T zlz zll zlh zlk;have zot:=mE Z l61 fun F=>G7 F T zlk zo1;have zlr:=dE Z l68 fun F=>Gb F T zlv;have zn6:=dE Z l69 fun F=>Jd F T zlv;have zm1:=dE Z l80 fun F=>O1 F T zn3 zpb zoc;have zp4:=dE Z l2 fun F=>zc3 F T zpx;have zol:=dE Z l41 fun F=>Hk F T znt zqu;have zlu:=mE Z l44 fun F=>R1 F T zlt;have zn1:=mE Z l55 fun F=>Jc F T zlt zlk znw zor zll;have zl6:=mE Z l58 fun F=>Hr F T zls zmt;have zos:=mE Z l59 fun F=>G5 F T zls zo0;have znk:=mE Z l60 fun F=>L7 F T zls zmg;have zn0:=dE Z l70 fun F=>Je F T zn6;have znm:=dE Z l71 fun F=>Kb F T zlr;have zm6:=dE Z l81 fun F=>N3 F T zl0 zlr;have zl4:=mE Z l50 fun F=>Oz F T zms znl zlh zp4;have zn7:=mE Z l51 fun F=>Jb F T zlu zl3 zlm zl7 zlh zou;have znj:=dE Z l82 fun F=>Kc F T zlv zn0;have zns:=dE Z l86 fun F=>Fb F T zlr zl6 znb zmo zm6 zos;have zmu:=mE Z l52 fun F=>Mt F T zlu zpt zlm zl7 zlh zol zl4 zmt;have zm8:=mE Z l54 fun F=>Mu F T zl4 znh zmn zny zm2 zmg;have zoe:=mE Z l53 fun F=>Ho F T zlz zll zly zlm zl7 zlh zm8;have zov:=dE Z l85 fun F=>Fc F T zn7 zpk zlr zmu zlv zn1 zl6 znm zot;exact zid (O9 l87.l l87.c l87.k) T zmm zmc zo4 zp2 zo6 zov zl6 zmz zoe zm1 zoi zns znj znk
theorem walk{l:OpenLaw}{q:Program}{loose:List Str}{XP:(Str->Option Value)->Heap->Prop}{YP:World->Heap->Prop}{d:DefRec}{K:Params->Frag}(hn:l.most=some 63)(hdf:d.params.defaults=[])
  (hY:∀ (w:World) (h:Heap),YP w h->(K w.params).In h)
  (F:∀ (w:World) (mg:Str->Option Value) (fa:Addr) (h:Heap),(K w.params).In h->h.Ns mainGlobals mg->mg d.name=some (.ref fa) ->
   ∃ fd:FuncData,(∀ (s:Shared) (u:Value),BindsTo s fd ⟨[u],[]⟩ [("_law_script",u)])/\∀ base:Heap,(K w.params).In base->base.Ns mainGlobals mg->FnOk l.prog w (K w.params) mg base (CX1 l.prog w) 8 fa fd ["_law_script"] (za3 (K w.params))) :
  WalkO q loose XP YP l.row.toRowW d [] (fun f vs=>PySem.call f vs) :=
 L2.zfy (n:=63) (k:=8) (x:="_law_script") (CX:=fun w=>CX1 l.prog w) (sp:=fun w=>za3 (K w.params)) hn ⋯ hdf ⟨rfl,by decide,by decide⟩ hY F (fun _ _ a ns hl _ hS=>⟨a,ns,rfl,hS,hl,fun _=>rfl⟩) fun _ _ _ _ _ z=>by obtain⟨_,_,_,_,_,_,_,_,_,_,z⟩:=z;exact z
end K40
open PySem PySem.W PyProof.Rows
local macro_rules|`(command|universe $x*)=>do
 let t:="0123456789ABCDEFGHIJKLMNOPQRSTUVWXYZabcdefghijklmnopqrstuvwxyz!$%&*+,.:;<=>?^_|~".toList;let mut a:=0;let mut r:=#[];let mut s:=x[0]!.getId.getString!.toList
 while !s.isEmpty do
  a:=a+(s.take 9).foldl (fun n c=>n*80+t.idxOf c) 0;s:=s.drop 9;let i:=Lean.mkIdent (.mkSimple s!"tw{a}");r:=r.push (<-`(command|def $i:ident:=Nat))
 return Lean.mkNullNode r
namespace PySem.W.Fast
universe «2xvy!lHZ16wUxnTfvMKd90<Fowd4%^HKy3%?DK&fsAMEt1.AmBjgYn1Znanx!RR5B8BD9d2Uj=Y^163;.2RNf0c:hw1QAJL!xqw9_Frtf=oF3.G$Eu|PYf2.*AKdt%3U<J~F*0AGNFBdz_biENU8bs%oZ3Y0TY>k7|Y3l?f$qFs01K2GAtS*X6|LCuMjX2Hn$Li%1w10Wqm^tr48_p5h_|O^2h8RG9kz60+yl:ob6JalVk8vXA83zCn&ECsw0cgrSA**Q84RR%:P2>5PWH8|:dP0OHAn6eom1&KcW32ymNJSg408bc8kPPk!NC8OD$QWE&D<8,U9Y.IR=4xRuC5+5z3<KSHjsW|P_7ZMLdWG1;l_|p025AwbYX.KBX93FM?bKTo2>c&M9eKfD9YOnAk&F3lU2b2c?>6rqFNkKcg3sJ9r28S$5weNHN4D?F~BMy*!9!1Fq$1p;<VPnyBldRy*0hHMy5!J*68lMe*;,z0hDosFZeBNTcBvo|U>I^HlCATW74cErys?JxD:;2U$!PS3DhqG7Y*B1EQmQ4b4s0CM*v=He82%0;Kdtv=9CWd7Wdy&DN_zumR1p6uf>IdB<l9c+K=|%2u12~~V97,X0Q~ryfYEj0^ti7CO=k1_5vUYa;R5D?.2f|CODm;^aJ:P,S&Vo?Q?w|0M8?_~42G5$B*MSx,,0bN%wSwDnDcTW|KNVj9=x:nzIj91?LQcoaK$7YoQ.>kj34P|f,Ty_9POdVNEXJ20Fshn4Tk&7glm?A;0&6Q6!00lohK6Ya!vU$EI6YNaKO;;H5FwU7IWo6*O;JN8;|K%$I$1x:D3S2;Xs?jd40*U4MJZk82>4XZSIs494=o7$ay4Y*HxhW370O<Xjv8z^O~GwuzpM>M?c+_<!xl0z%rTCS$U6|sI$>%tY4CgY^$;jh403zKzg*&QNg_T3G_:2N.tJHuOK0~2yRgYb^5;MKno.6B7kJN;XGQpB80zt<|K|B%FQ?jk8VMV4$LmU|A3p=M4Bh<51.&K9XfGF0V1^kclDQ6y:.lqz:X2y$mj88s4BWQ!RtL,tA>5K^XMbA7Sz$LlN5$Jc$P,TU&,1M74jteJ+43E&>mK3p5Bt9HtH%l5=2E6gKEU1MIS.&lCU27>G3FBgyi3uC*Gbq^4:tqh8uqZMoTY^RAMZ7sgHA6jUpC9|G.P+<3517Q<X^*488QkVObB%1xhtUY;F*6^cDarquhNkes0sk>%1Q6hs;|?y0o=I^Z.7BFW=%uRFk|OzK7z1?sD2Zr^u3Y7mBBI?_RYHyB8EkO0&8O6,jfiVJsL7~W7,vie2Fui44$Q!XGm5ovsq,cEtk_$IVp70Ak6hw1$Fn;ddHW!P6H2Yic?,9:6wd;?PeAeWH_HTpC.TINmpxf24+7=GtJlxk^BYGrsYvRC1$<zLrn*X2q3Fw4uGq8bg0*J,&dbv^u2o~hgOdt6i=sHg21x1W45zbK|MJja,j&0mb<52jEX1<ALO6HkL5&Q%WKG4GBYq0Popyu4zG=uiJ.8A>QS+a~r?hxQO^2!L41<Y|JipOE62p4sf^w6FUnov~!Li0^T0iR0FX01coTgGs.54*MgZm+K0ol2uQn+22q?O<nUX+5D%zgka%V1y3&i$OgY0BdI=LqM+5?&LLXy.Q1lDU!_br;8nu81JS^CFk=_UR%AQF46rC2jIF8e8?1Gz!Z73<nUJRieG9zkm0?O1HxY80r|P3GW1ff|<+i0.v>?F%&g0Bvh>y?oc9ol;IUbT;1Xh$?GeyI4yzIZcGij25~GftzL.5TP;i2hWv11cGRz1S6A:*0ZA|8~V8ETiK5xCG6<kcOt!uAN305qX:k6YE0;D,^gDi,YctY&p2tr9^QZI?78f4BDYgU0elP0YzB^2NM!HA7+H6~I>h:0C&3qF_JVXXvEQkfhtcyp6Lvj^|QaT6VMe9R~0:6mxz5;hMQ48W$cS5a2ZiSjL,Ow;6zZvfRSG!7T2mkf0oOAp<O_<Uvs0&t3gj,SV0J3Rwv7EC5=qei+V~SAgvQVR%QU1nJZq|_MGKXyzh>;^:3FW3eJ1OP5tOFBUfl~5jBHh<3;UCR2w$O<wuLdkF5X5&S8wRUX30|D8Qv4>jEzGB4XqH^*HI0?KePZinf1|VCfDg8J7ei+evHEhA~nqb5Esl9UT.3S$Y7195;iu.^jM3%qeCXoIHP?rp+A_VR&hT+5Eat3Fq9U4A8LC|7f9F;no85RZR4aFwrrnp<&lHMC32wa<bU14t$:2pPcK1.UEZ?;x25BdoAMElFASmx^Sq46E~CMDH.6*AGqZInFt%8i<Vt>9,$37QaZ$WIn460Pvm,ES06b8Q1Pab9X>pw!GQYF^VZ6|_Ar2|iYL0l*69RgolpZz+8F*G*AmU;0!4W:FO2g1~5M|,5YO1c&11<G=2Our+G*|G|DisW,LU*>1:GA:rxA?2G~GRo3QG2nkiG!^M3RKFjoqbFv27?K=Vl*.BP|TApo9;2,AAL!5P^8mQI<i7Fs0Xr0kpdKcMdlg?++q!KHezNSkoo1w.^%we:X5IU7fn*V^34fN=,ozs1J0$A.se?0wF198EIZ6U!~=q:==D.XoaCgOoDvHz~4+3q6VRpz+Y.RB9$~GdR8+5QWDW+V.eB0~I8b%9u9AAF;2Xc*85Dp*y_5B4wCr5f*k:D_S?RO_hG2NE*3HV<n7OfJ1KFC*1UkgQTT>.7rt^X|wSz28zdYKS<g1K%TPJP+L8nPT5%|fK0uZ8w6=ol1S^>:MhziA:bxe9J;yC!D|aLMLS5NstMovr64S>1ZKJ,jCJERf.1P1Ahr^|+I=q2D0=EC>.B0lkZsr&9oM^>KjsylQD4zgRN8By5Eu6xd5ba4oHDQoyt?A0vPzUQ!&0wDPrV&?i2>hURnL52FUMA!>b~u0Q762VLYr1y1zkO~_$7Fp;o|r23Fu*y2>Q?WB=Pgr<j_|4b*ghnO%s6+d&Gbz;c12_fkiRq26uKF<.x.30~>C3F<HjHzl;9X|cOH*=jinMdW2e5EtUKjIIR.Wgz98DB&Lhf+c7yELKd2nMq,29:NV4gp_0a1vRmrz_1Whny|<k^D6$T>ud4kr8=%%M.mN5UA?46BXxJEk>425!E5*_KIDWj0CK%>vZ:npBNEZyUohzYy^K=PA.d4vRAyUfo809:qEitONJN1i=GUr347%UBTQEq2kwGxR8n14NthJ?*3E09$=_%V0u4B6:+vX&k6F$5xDF+r18Sn:mTOM013O384b%EO7J^^A%F3l1YSxNbuBpg_T?UC339Ua1&tRn8q3VziVBh03FdaSv?fA76eIDJ8F6kR,A~H^jMxP1xB;FnAU:AmzNw.2:<2sdP^.9=UNjLh^e10ShohWAWBukDK~tG;GP1fIabR;9+|cA=OHXFAZ43jJSe0XNOyePA.1jpZxW96N0uh&b5^067H?ZboTk7LRX+FM5VV1K&DSeQyLLN1t~8eNC7XjGL=0gn4nRei<T$Q40kCUnLgn16iCDFdXoDYa&4=PHP44>jB1iS60Mr3+JbUl0bhE^ixD0O156xS;HLAf!wvL!NDGroq%W^iDbOK3Do6k:7X_kXIMZt4CiIUEL~82$zHs+1UjHR:7BmS1C8>X8xThaf9BeI,cTrdBQXD9jQ$t33w!MexD=3!tmWs,XVJD_9:ym?A8>Fye31h;6H:?%G:,51EeQJ:^we4$6fyJwCf3N>|M63D3EJbSJ_Fes3F8W?s2F72CT16:S6AU1kPOZ2D*3r1plb8;gGYgh6$MLjL3rlO9E,e08WquuRG1O6;s|CRA<4*^>5jSMz2j^LD%+v&2^hQbGfnX1su<sqRM04APFv7kqg0zRSSxvZ.5%u:<xC&JAz1pUbcrVGY^d>?|.O7og=PRpRi0EZ?|e,Rz4O=$lcYh98BaX7<AjMB<LGuiBE:FW5;^nzp<0JP8BJ5<aVG:^9rqB>0MHuH:aYsA!A$R8PnI9;g%EDDQh11IY^P6U,FbCm6j2jLC;~.;ALM~1aW*z&v;q1U:o0EV%=H2&DRxxLwNk5w>^NbR9vPx6np+rCAte220SU77~Isk$U8748uyV:tfcupxr7h^&3gA|_UO<QG1$eO|?ulB,+!zrpLL1yl~+SL940o_+2iL8HG3v9dE*Wk3NyxWBH3o2L5DB=FRmBwhh!Mj,5arXzXq:xT4B3cedL0R0=,,;O^Q*I7susG0B;Bt0IiO_=13RKMQP^vpJ89;OC2KYH=~4zj4<20%7Pb*bzKC|rnuEO%e5%5ermi0!3:+Use7iFBZYLUC&*aH|TN+b14KtQHEy!E?b3S9Tv!LV57KUHgp:5_5JO+9VHDO0V1>i3y0O579d*ik2KFz^j7YJSE2m!SJatP41hO0f~Tr!WUKijtm%:4R%6ebtq61cixykiL04$M_uph<u249RG>xc|Cc6I_*&Wc21$9OEsX^5|J>OngtbN1g:L^yuxHnZgQhZ&x4m8*Yp5q53?p+%NVR315kDbpviT02BS9+G1wB?,l!p96d9l0VNZjQa2rCeM8FEt5K|FoV%P:C*1>,QNuuJ2ZXQ>E8l4zSuXA|fJB7,M~b5CR3iU|L.6VI5q,nPIsVq4nWRzS0%F3r<Iul$|Z3gAROx8pO1FP!qyPC4PCnM0B=$eDQ*kF;yOS1^mtH8ZM!5X>5:j^Y=0=yCuD^4?2VL=cmh+040D!oy37<2dEiX0L=NCr3m2bLDe2r<hEMCgQ9~vt$z3oZKoITnpxl!8j+ihkJz43Y%AEFZN|0YC24pRH55Zi|yZJzn2rcHKFo2s1f^aAt,7H43jZQmt+;D!?pajMpZ0GtMYLDBl3Qg,Ys::oA7m|h%l<n5wSbV^5S=3pO4xOD6W4i&7U~WZtGbjSlD*p:8dV4li:Px0tNw3bBPf8?ri8UlSmR~reFawjd2ZL7qp|k=3oUNX,il^A$xwHHb_lRdAtJy8vY4VWhe+Q%Me|IQpbR8h0mdGAU!B74E2+^Fg2fA6^+ifPqL0e+T_hH1x0l%;owI8_3VJdPO!s_G9%yK7*~G8Sw;X8:3iHm9i$5iTh7OkbhCcVUFH4T|cQyz1d|CCI?<<4qQfr2ZPiV~K>ADOJ93PnzwiILp0+,NL2B,nCKj,OI=6o60j4Ii>PWATYcoHhJ01OM:r9b<?Zn|R4!jn182.b*&au|8oNpwds!71jZ;u<>~s5nE2now|d52+3nTu0!5cHgZe!EpBOjb66mUx4Xr_^YVt%QIM;Bg75z4u+I,612v4!KYy>YNMATU*RTrg90O?ZHkvrT3cdM*U>fX0?EjG6^ubUp2soEHE;4F^Ut6npR4>|Z99k*N0l8<aIY3H67S8W$Zog8v3?,m:hcWJg^Rt~2MDjS2Pg+ZO0mz0W$!*iAaGEWQ5|:D7UKQ8U7j2T=lRvA4_5WE6|GMOx6LRGnlro:5invq|N^tM<CpDFNaNUsS27zFZ;95TDC8!Ek68G6G4B4p6kAFpqm^92t6HJvTMq2<F74|:Co5X~S0e<WT2T9CWYshsEhb0&=Ir=34VU1,Ubl2?Q,&5Gi9cA7A:3G%^2vhPTZPuV2&P,_v^z8dpWQAO&s;1qx2<g~ZHMzIPM:*B55wljQC=68AOwkz^vp*1|&&aP8G!04nqNk!3RHrqZ5+^Gz5L,j~B3sC4iN;s1GM<dznI69nJp8%q+w57oQ30<1TRH5j7izmd:.Y9822|DfEV;7B5KiQo|d4EREyu_1jD<3pYa,urH59kR_sKr03NA6sEmX8=yuYBV=;13KjL=rv&Ehu>j^:NI1F71KQ.O54yBoxZ^*_6ahI~ppbu6+aU;Uf,$8;MbmzmQl8gub|UoPJ0Me_+_8NA03hUCpX=W0JbT7Px%8CiRS0KSLIC^tng28W210Y4q,t^K0^_&QU~OH4D~2241xD7XTQ.U5&J7cok%:iZ*1S3+151reD02d~8rPfK61NyHP7W3l3uPL$jI1wXp!KWkI0?v8QNjFu6v!4gDAxw3Qvi%?RP+4tqwX:uEiDvnb,rs,&giS;_JIGrJa+~IYb9Y2XFoGGFR8E^^jLXuev5cPkak;~q2<q2c9>^A4*LP.g_QMEWmsP~pXgIJgnW_OkiLc>fRIfssECKh*?igo3GgN+.|kW5eFSfxJ7F31DQ,*J5a7Hfk;DRMW0fIx8Tmg%0I<%s;Q9C2PLC?5&9K1Vq_LVkOaI5J=A.uJPAKA7ypb0v8U^uy+tcA0EN&YHCIpG4;_W*;qVM%a8p1ORuCg;noX$7I37rw1!hPyBZNX=Pxl85Y_JIGtvfOArp1fg5r43y6O<szOY!QCAGelbK0_:pY_&QUz<VDq=KiDP7Yd6Pu,6XX<~FBAU1b7LFR9H0Ea3Hj0GE$1.tew!n|!BifmD%Zcy0Th0%fmQBI$JICh%GdH74sSZoM,1E,^ufutJGLN?byM|43+i$1l&QmU5uG2y?UL0o5qIRWQ>4.*=Nq&HP0dh%UVa6^7CFa4jy!ZEHIGElwjSLpdH><pV5LZF,Yg=214APg5+H!A0D%uD7DKkV&rF$SS?t71b<ysY6F5nhqc:POU0kAmyP3^925zESCtcx1YgBEtWa_0SGj^19A+3t:KqAR^:2fLn7G%$>U&7*&VT8IVe=>L:q5<B65rCYQyb0vPv_|my7Fb0eHS+qpB>33tZus;2ehM12^GnLtS,blkW71=vcDnbl.8hTutTGFZ9ws4e?Bcl09dAn7x1439^R6l2$_0o0Zi,|%RB<U!pWw!51h63aus<J4uWhb3^NF5J>TP?5sJD%aIo:<K04!Q7eWy?h3??tf6e062<77hY+D,00fD~L7<A0XWr3c~o60^_xWV!Z!BOLVJ1xkP0qP^,Vt9x0qSP,?a|cAji4lpt!j0DS&aa^Ql6;c;?fJKf5NyYjhWg_1.fE5ZS9U6&Kbk|b~k9dDtWl?_DD8y>W;+oEIV*,afXQ%0rT.mvg|*Fj8zQmswbBHD|:qzfz3fZ=Vdo6LC3M&5H5!WG!U4AjT&v1M?G:43l5Kdk3ZWw<?99gXGV~$AIego:,6I_8E.LDK$0QIZ6Kq7>9&37X,,3n|pA8?oI:=o:3QC:r|e*H5DND052cV9B;0::PtCOw<ZhK+u~2ml&.W,0DFZ7ygqNqFAXtoGjG0j2U46!Q1Qn3iehNU.r~CmXo%>3VS0+iF5~o3QK:~+beTPrKfG98;aHR3<Qj5Bp3|HxCH~%TN~6.BQ2fcdE1JouBO*iN8WlgB8Gj7Gg+2o*7GIFIH&p*<e60&|5kHF<x1F.0~I6vXAbULbCL|P3V1,TC+U4Mi,WDwM&N10Lp!Y1Fr0ZnbFf8&n1KE^aM&hk5MlD&8vT|8q?k_^$CkJ&80q3a&4GTIFhj_4H8Tsz&lhr.YM9xei?qN7~y_KE!oPBU<QId5+p2bN*enwpd2+VHQ%>K=j7Y8y2rJ:59mlTf6WU9+c4QNRGr6Ie,$?sL3B?DBkJ9D+0%hXvjSD$DV5uqPhl,I9VO.He8^KitPYXur^3+PQ9~3JK5A6V3BJ7<8CqHN;Z.kFmmCfzzzR1uVDm~R%OKJ+!812e_G%_.WrM+wSPhXgDK5w25>1r>GDR06<3F$mme0T2%o<4sq27Zo2AUGbD>:9ubhhNCEuTotxl=Inaj&P8PkHNL<ZK%%!AGuJeY!O^6938qZ<+70:JV~sZ_~C&h:eb8Ca5M;bU?a7_ClP7+pyxKAzi^d_&X70*dc;=9!Y1m+O848H~H^Bq5dLnrF?j3<IiSGGkYTX&zGkAGFpFqx<,3doB?O>g^1=A6p9sh<PwgCn==t70+g95duqFJ,|kJlKkH1qq*w+?2h0<ar<lBg:A&a6UCJk_3f7~3^wkWr>2j6uD3&2=FsSQi<;1ZhcE0PmcCky^=d&~J10DJ:0o+*b5;Vmj3qIBB!o,wo_pFBt>G8xe47BeRvjASMHem87|%b_Evw~R0j?qDTVah;73X2;Bbl&NUD491Ry;mc*1wE*N**h:91neTg:C^0Ept02,Eh4r+LDC=,1HryV~g%*~4gc;w?>?d2;z059daC77+~VMR^GDosM+s?og3e&lEA5527SOZRA<6D0uk1!?B1vDz!gNkCV03v~Az.Z7k9ORm<yw:2485oi_Ux,5o1AT*8qv9B=&|&uYN7.nl95YV3AfwRy4^vq4Bdv;Q*zv1%G,+8BZB34B|P1w%5CtiZ&GypO3|QDXD8sz9X&6W>Oo49avS7B1Y=7hA688LahTMo3Zf7Wx1*%6A;wFddGQF:+eY|4GH|t&X$TAUvRVZ_9gJ1lw%&P:,13OFrm01pS==IziggODK0OfNB5kBNbSBzcve9R&cGLXGl1INZYWsUPYiG?Jy6bS3_AB%DO4w9u8<3YOLJ8bu?_V9:K2WcYz=?3QEXn9&KgmbNy_E4G*t_5p&$bo~RuFVExCoK.P2ZB!eu5T22.ri^<lgyD*^yL0~nN1WvtSY5Ci3G;0P=^1KK0c9URg?kJ&AKQ^Oh1Is9awg%mp5R4!<8qak733YpAJl%6:23k;gmt06_m:;F>b0|2qzI=2H2XoKGyMYOAxZ|~XWU$3A<NpU0nD1ixKdqU&,E+NY0YgAH9JEA<_B=~1gony+2q=A=ihB$jd,1J3eXyQVa4%mtqtPsHO<6B?VF0>J5XLcQJ|65;WckgE;XC*4uPITKUL<RFM3lTwEYC|.;g;5Dp9V<=YN29vr|5^RG2Ne$k,MDo:1B1x4LexN5msKh3n<q3JVdpa!w^C?^VI7+ZcDUHVBwN^*3pub5TWL_0hX_zzFSOBCujxV3AR0!7IlV_IToFz!=D8A3Q_tzbR?7O7wuv?OMcl0|Cs1|20V6iSHj2B6D8CCoonf.!0K1adJSPT5KQ^?BI*=Bpf!D?ahpZVHzj:9%dCcwR|AWWy0Cn*z<V0?GJ5!^ki9a7Hcmbxl2P4?sfpR^dT2D4CN&mS;bC545L;Dd112;AnoY55%piok%xzBD&sn9s6T4<CBfabdfHc^kXy;9FWtVALV+R,1YuYzSAO^19!7bkBCC4|D5lkEPr2^M2InLI=ApVxPvZFb0l4;Eog8n2hSUbno3VRGd.0Itie3$CO43bE9Hby|coNizI0>60C=0O2P~FkJo*<6_l4!!Uv03B+.18rL29039&MoyKC9M*g$z&31*:=p=RA9B7bGkL+.c8^Gdx|WSB1%0LJ50n%0RfLQ^iT;4s~FRLlR|6<7FBefqy41T=^!?$*0xuih4Gyr4s0n68_Us5D+b|sLfQBU43Pd1oI7nQ%I583mCuJPqbHZO8Np+h~ZllAkWTST3G_04ttuhAKuAEE%0abbBB0aownuCt2ckct%5N00+kvVr~M&GswcW%;HtHdWJbP4myH2WCMb!PG1&4af1cK4SsbD7ynKP6tLP4D8Z>6=8vW~NW&3Tzh=DAH%3wRl$Jmd%9F0~TGE4y9JEub;.gmBuDuGxgH:7c9DvR81,3&4YRHV=Q0HJ,zYB;<C=mq_s<JK4?eHYL6Up6|kuBW83c7FP4*QNK+5uF*bW+Rs9Zc<Z*<SC3_xSi;U<$7VL*?<k,q76ZU.ZgGPAUZ*B^sgl8dujDlKc+K~_sZPHFb4Ok8*c0Zcky.891MmZF&i_KQdCt3LzjUbl845Xd2oC<c95%:nvW|7|E3n;rpw|KVO8O9M_hU*C%^_&,I+B6gHU=O%~CT>tl%67l7A8FaH24!5bj2*QEFS3zSdb?RN|EK%*4x0n9EfK3,s6Ld4x;R$3K*3DEP^514gvOd?i268,F7L7E&,E;iM=f,Ttd7,A2.9DhyrN5&uvfDiTI1kqSlQe$.8~hvaCCrk3TqGnf_RN2gso_&RqcF|*NQ3p9v3e8eEk61s5YmD!a%aJ4ccEZ2pAz4Bz!RxX5a7hSq7VQ|E9c0$i53Y0AwlK5A6jp7zVIlR>~vNWY8ux9jl1QADzj^g9B%4*.jXb0G!gGDq3aQCz7ES5y&U2:Ggcjj;;4sc6jG7i.Ev5dup;,J7H6u_SA3Q4_b|>txOk9BOc%m0y!Riyw$Xm=pCNEbWN9e193DryJ4So5^40Uz1Zh0mN,<VN1^9++nzvHyb6LB.~Y6^E8zvs94t1lGOP;sXB~=3~%kD&=H72ztaZB1,~Bjwi>Ms=i1?<LT:Om12?+S1?d~HCU%ngHq^LDFu.OGb!gM$z|qiZ653WXRdbEA;F~Ka=RAx!Q~G%4=0mx1A;ik^ogM9nRvnpg$DFdoXCN!1=K%E8ugpiH5AoUB!XmZ5|G>btTT+KfLNr:eAT3eL^U4se2VQVJ2aG5D0!DEJ>4YI7y:ob6Ig5,P_&;0qFs2hK4X|+lO0J,,PUfjtUU2&2cYY=L8!xn=olU2fNxD_eeS7I3ia_agv9k7eFjqLhDALU*NnCYBWPq8A1d9O46jqU$,s3I6?PLdlV9pJ7C<?M^0vJusyZIgDtl_Y1uzsBUk!BrGf3QJP0~K=9f23p+39tj6192p4PKeka:yObwut6CiX?GXerU»
end PySem.W.Fast
set_option maxRecDepth 100000 in
set_option maxHeartbeats 0 in
theorem PySem.Challenge.cw_whistlebook_k40_whole_any_pattern_holds : PySem.Challenge.rw_whistlebook_k40_whole_any_pattern.Holds := by
 w_on;o_law;k_head;(case hw=>w_witness2)
 k_fill
 refine K40.walk (l:=PySem.Challenge.rw_whistlebook_k40_whole_any_pattern) rfl rfl (fun w h Y=>PySem.W.kIn_of Y) ?F
 case F =>
  intro w mg fa h KX G hmg;apply K40.zie KX G hmg
  (case zpz|zow|znu|zm5|znc|zne|zpj|zod|zof|zo5|zoy|zob|zpw|zpi|zmw|zn5|zqb|zqc|zqo|zp3=>(show _=_;k_is))
  (case zpo|zom|zp7|zo9|zn9|zon|zpf|zpr|zqj|zpe|zo2|zp6|zp0|zpg|znn=>(show PySem.W.excIn _ _ _ _=true;k_exc))
  all_goals first|(show _=_;k_is)|(constructor<;>(show _=_;k_is))
#print axioms PySem.Challenge.cw_whistlebook_k40_whole_any_pattern_holds
