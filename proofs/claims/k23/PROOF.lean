import PyProof.Rows.All
import Wide.All
import OpenK.AllK
import Wide.FinOn
import PyProof.EqAt
import PyProof.EqKinds
import PyProof.TupleCall
import Lean
import KE.KDictList
import PyProof.MaxThree
import KE.LcSums
import PyProof.Rows.FactsN_abs
import PyProof.FactsAll.list_3
import PyProof.SeqI3
import PyProof.EnumIter
import PyProof.EnumMake
import PyProof.EnumFor
import PyProof.ZipIter
import PyProof.FactsAll.zip_1
import PyProof.DictIter
import PyProof.MinMaxWalk
import PyProof.Rows.TupDisplay
import PyProof.Rows.SetFrom
import PyProof.FactsAll.NoneType_1
import PyProof.StrCalls2
import PyProof.FactsAll.list_4
import PyProof.ListRange
import PySem.Challenge.RW_whistlebook_k23_away_in_rounds
open PySem.W(Frag)
open Sum(inl inr)
local macro_rules|`(⋯)=>`(by first|decide +kernel|omega|walk_at "ar")
abbrev zp3:=@List.length_map
abbrev zp4:=@List.getElem?_eq_some_iff
abbrev zp5:=@List.getElem?_eq_getElem
abbrev zp6:=@List.length_append
abbrev zp7:=@List.mem_cons
abbrev zp8:=@decide_eq_true
abbrev zp9:=@List.mem_singleton
abbrev zqa:=@Nat.le_refl
abbrev zqb:=@List.getElem?_map
abbrev zqc:=@List.map_cons
abbrev zqd:=@decide_eq_false
abbrev zqe:=@List.size_toArray
abbrev zqf:=@List.mem_of_getElem?
abbrev zqg:=@List.map_append
abbrev zqh:=@List.mem_map
abbrev zqi:=@List.mem_append
abbrev zqj:=@Bool.false_ne_true
abbrev zqk:=@Nat.lt_of_lt_of_le
abbrev zql:=@List.mem_cons_of_mem
abbrev zqm:=@List.getD_eq_getElem?_getD
abbrev zqn:=@beq_eq_false_iff_ne
abbrev zqo:=@Nat.zero_le
abbrev zqp:=@List.mem_cons_self
abbrev zqq:=@List.mem_append_right
abbrev zqr:=@Nat.le_trans
abbrev zqs:=@List.length_cons
abbrev zqt:=@List.nodup_cons
abbrev zqu:=@Nat.ne_of_lt
abbrev zqv:=@List.mem_append_left
abbrev zqw:=@List.getElem?_append_left
abbrev zqx:=@List.getElem?_set_ne
abbrev zqy:=@List.getElem?_append_right
abbrev zqz:=@List.take_length
abbrev zq0:=@List.take_succ_eq_append_getElem
abbrev zq1:=@List.getElem?_set_self
abbrev zq2:=@List.not_mem_nil
abbrev zq3:=@List.lookup_cons
abbrev zq4:=@List.length_range
abbrev zq5:=@Int.toNat_natCast
abbrev zq6:=@Option.map_some
abbrev zq7:=@List.getElem_mem
abbrev zq8:=@Nat.le_succ_of_le
abbrev zq9:=@List.mem_filter
abbrev zra:=@Bool.false_eq_true
abbrev zrb:=@List.mem_range
abbrev zrc:=@Option.isSome_iff_exists
abbrev zrd:=@List.filter_cons
abbrev zre:=@List.take_add_one
abbrev zrf:=@List.length_set
abbrev zrg:=@List.getElem_of_mem
abbrev zrh:=@Nat.lt_irrefl
abbrev zri:=@Nat.lt_of_le_of_lt
abbrev zrj:=@List.map_map
abbrev zrk:=@List.any_cons
abbrev zrl:=@List.replicate_succ
abbrev zrm:=@Bool.and_eq_true
abbrev zrn:=@Nat.le_succ
abbrev zro:=@List.find?_cons
abbrev zrp:=@List.length_filter_le
abbrev zrq:=@List.reverse_cons
abbrev zrr:=@Nat.lt_succ_of_lt
abbrev zrs:=@List.append_inj'
abbrev zrt:=@List.filterMap_cons
abbrev zru:=@Int.zero_add
abbrev zrv:=@List.mem_filterMap
abbrev zrw:=@Nat.not_lt_zero
set_option Elab.async false
set_option linter.all false
set_option maxRecDepth 100000
namespace L2
open PySem PySem.Spec PyProof.Rows
abbrev Key:=Sum Int Str
def K5:Key->Value->Bool
 | .inl k,v=>Value.isInt k v
 | .inr x,v=>Value.isStrOf x v
def zgp(w:World):Key->Int
 | .inl k=>hashInt k
 | .inr x=>hashStr w x
theorem Yo:∀ {k:Key} {v:Value},K5 k v=true->(∃ i t,k=inl i/\v=Value.int i t)\/(∃ x t,k=inr x/\v=Value.str x t)
 | .inl i,v,h=>by
   obtain⟨t,e⟩:=Value.isInt_shape (k:=i) (v:=v) h;exact .inl ⟨i,t,rfl,e⟩
 | .inr x,v,h=>by
   obtain⟨t,e⟩:=Value.isStrOf_shape (x:=x) (v:=v) h;exact .inr ⟨x,t,rfl,e⟩
theorem Cq(i:Int)(t:Tok):K5 (.inl i) (.int i t)=true:=by simp[K5,Value.isInt]
theorem Cr(x:Str)(t:Tok):K5 (.inr x) (.str x t)=true:=by simp[K5,Value.isStrOf]
theorem zdh(a b:Int):decide ((inl a:Key)=inl b)=(a == b):=by
 by_cases e:a=b
 ·subst e;simp
 ·have h:¬ (inl a:Key)=inl b:=fun q=>e (inl.inj q);rw[zqd h];exact(zqn.mpr e).symm
theorem zdi(a b:Str):decide ((inr a:Key)=inr b)=decide (a=b):=by
 by_cases e:a=b
 ·subst e;simp
 ·have h:¬ (inr a:Key)=inr b:=fun q=>e (inr.inj q);rw[zqd h,zqd e]
theorem zdj(a:Int)(b:Str):decide ((inl a:Key)=inr b)=false:=zqd (fun q=>nomatch q)
theorem zdk(a:Str)(b:Int):decide ((inr a:Key)=inl b)=false:=zqd (fun q=>nomatch q)
def Yg(prog:Program)(w:World):PySem.KeyKind prog w Key where
 is:=K5
 hash:=zgp w
 inj:=fun v a b ha hb=>by
  rcases Yo ha with ⟨i,t,rfl,rfl⟩|⟨x,t,rfl,rfl⟩
  ·rcases Yo hb with ⟨j,u,rfl,e⟩|⟨y,u,rfl,e⟩
   ·injection e with e1 _;rw[e1]
   ·exact nomatch e
  ·rcases Yo hb with ⟨j,u,rfl,e⟩|⟨y,u,rfl,e⟩
   ·exact nomatch e
   ·injection e with e1 _;rw[e1]
 byValue:=fun k v h=>by
  rcases Yo h with ⟨i,t,rfl,rfl⟩|⟨x,t,rfl,rfl⟩<;>rfl
 pyHash:=fun hv h=>by
  rcases Yo hv with ⟨i,t,rfl,rfl⟩|⟨x,t,rfl,rfl⟩
  ·exact wpAny_pyHash_int h
  ·exact wpAny_pyHash_str h
 eqBool:=fun hu hv h=>by
  rcases Yo hu with ⟨i,t,rfl,rfl⟩|⟨x,t,rfl,rfl⟩
  ·rcases Yo hv with ⟨j,u,rfl,rfl⟩|⟨y,u,rfl,rfl⟩
   ·rw[zdh] at h;exact wpAny_eqBool_int h
   ·rw[zdj] at h;exact SeqAt.EqAt.int_str i t y u _ _ _ _ h
  ·rcases Yo hv with ⟨j,u,rfl,rfl⟩|⟨y,u,rfl,rfl⟩
   ·rw[zdk] at h;exact SeqAt.EqAt.str_int x t j u _ _ _ _ h
   ·rw[zdi] at h;exact wpAny_eqBool_str h
 «strs»:=fun k x t v h=>by
  rcases Yo h with ⟨i,u,rfl,e⟩|⟨y,u,rfl,e⟩
  ·exact nomatch e
  ·injection e with e1 _;subst e1;cases v<;>rfl
theorem Gg(prog:Program)(w:World)(i:Int)(t:Tok):(Yg prog w).is (.inl i) (.int i t)=true:=Cq i t
theorem Gh(prog:Program)(w:World)(x:Str)(t:Tok):(Yg prog w).is (.inr x) (.str x t)=true:=Cr x t
inductive V where
 | non|bl (b:Bool)|int (i:Int)|str (x:Str)|byt (b:Array UInt8)|flt (b:UInt64)|ref (a:Addr)|ty (n:String)
 deriving DecidableEq
def RelV:V->Value->Prop
 | .non,u=>u=Value.none
 | .bl b,u=>u=Value.bool b
 | .int i,u=>∃ t,u=Value.int i t
 | .str x,u=>∃ t,u=Value.str x t
 | .byt b,u=>∃ t,u=Value.bytes b t
 | .flt b,u=>∃ t,u=Value.float b t
 | .ref a,u=>u=Value.ref a
 | .ty n,u=>u=Value.type n
abbrev Vals:List V->List Value->Prop:=Paired RelV
theorem Vals.length(r:Vals xs us):xs.length=us.length:=Paired.length r
theorem Vals.get:∀ {xs:List V} {us:List Value} {i:Nat} {x:V},Vals xs us->xs[i]?=some x->∃ u,us[i]?=some u/\RelV x u
 | _,_,_,_,.nil,e=>by simp at e
 | _,_,0,_,.cons r _,e=>by simp at e;subst e;exact⟨_,rfl,r⟩
 | _,_,i+1,x,.cons _ t,e=>by
   obtain⟨u,h1,h2⟩:=Vals.get (i:=i) (x:=x) t (by simpa using e);exact⟨u,by simpa using h1,h2⟩
theorem Vals.set(r:RelV x u):∀ {xs:List V} {us:List Value} (i:Nat),Vals xs us->Vals (xs.set i x) (us.set i u)
 | _,_,_,.nil=>.nil
 | _,_,0,.cons _ t=>.cons r t
 | _,_,i+1,.cons q t=>.cons q (Vals.set r i t)
theorem Vals.append:∀ {xs ys:List V} {us ws:List Value},Vals xs us->Vals ys ws->Vals (xs++ys) (us++ws)
 | _,_,_,_,.nil,s=>s
 | _,_,_,_,.cons r t,s=>.cons r (Vals.append t s)
def RelO:Option V->Option Value->Prop
 | some v,some u=>RelV v u
 | none,none=>True
 | _,_=>False
def KV{κ:Type}:List (κ×V)->List (κ×Value)->Prop:=Paired fun (p:κ×V) (q:κ×Value)=>p.1=q.1/\RelV p.2 q.2
def kV:Key->V
 | .inl i=>.int i
 | .inr x=>.str x
inductive HO where
 | lst (xs:List V)
 | tup (xs:List V)
 | dK (kvs:List (Key×V))|dT (kvs:List (List Key×V))
 | set (S:Int->Bool) (n:Nat)
 | ins (C dx:Addr) (fs:List (Str×V))
 | own (x:Addr)
 | xd (fs:List (Str×V))
 | met (f x:Addr)
 | rng (lo hi:Int)
 | frz (o:Obj) (u:HO)
 | tbl (ps:Array Value)
 | ext (φ:Heap->Prop)
abbrev Hp:=Addr->Option HO
def upd(H:Hp)(a:Addr)(o:HO):Hp:=fun b=>if b=a then some o else H b
theorem Zb:upd H a o a=some o:=by unfold upd;rw[if_pos rfl]
theorem Zh(h:b≠a):upd H a o b=H b:=by unfold upd;rw[if_neg h]
theorem N8:upd (upd H a o) a u=upd H a u:=by
 funext b;unfold upd;split<;>rfl
theorem Z9{H:Hp}{a b:Addr}{o u:HO}(h:H a=some o)(h':H b=some u)(d:o≠u):a≠b:=by
 intro e;subst e;rw[h] at h';exact d (Option.some.inj h')
theorem Zg{H:Hp}{a b:Addr}{o:HO}(h:H a=some o)(h':H b=none):a≠b:=by
 intro e;subst e;rw[h] at h';cases h'
section
variable(P:Program)(w:World)
def Yh(H:Hp)(h:Heap)(a:Addr):HO->Prop
 | .lst xs=>xs.length<=sizeLine/\∃ (its:List Value) (n:Nat),Vals xs its/\h.get? a=some { cls:=.type "list",data:=.seq its.toArray n }
 | .tup xs=>xs.length<=sizeLine/\∃ its:List Value,Vals xs its/\IsTup h a its.toArray
 | .dK kvs=>kvs.length<=sizeLine/\(a == sysModules)=false/\∃ vs,KV kvs vs/\h.DictOf (Yg P w) a vs
 | .dT kvs=>kvs.length<=sizeLine/\(a == sysModules)=false/\∃ xs:List (List Key×Addr×Value),
   Paired (fun (p:List Key×V) (q:List Key×Addr×Value)=>p.1=q.1/\H q.2.1=some (.tup (p.1.map kV))/\RelV p.2 q.2.2) kvs xs /\
   ∃ o es ep,h.get? a=some o/\o.ExactDict/\o.data=.dict es ep/\es.toList=xs.map (entryOfKey (tupleKind (Yg P w)))/\(xs.map (·.1)).Nodup
 | .set S n=>h.SetOf (intKind P w) a S n
 | .ins C dx fs=>H dx=some (.own a)/\fs.length<=1000/\dx≠a/\h.get? a=some (PySem.W.instObj C dx) /\
   ∃ mA,h.Ns1 dx mA/\(∀ f,RelO (fs.lookup f) (mA f))/\PySem.Within mA (fs.map (·.1))
 | .own _=>∃ o,h.get? a=some o
 | .xd fs=>∃ mA,h.Ns1 a mA/\∀ f,RelO (fs.lookup f) (mA f)
 | .rng lo hi=>∃ t u v,h.get? a=some { cls:=.type "range",data:=.fields #[.int lo t,.int hi u,.int 1 v] }
 | .frz o u=>h.get? a=some o/\Yh H h a u
 | .tbl ps=>h.get? a=some { cls:=.none,data:=.fields ps }
 | .met f x=>h.get? a=some (PySem.W.methodObj (.ref f) (.ref x))
 | .ext φ=>φ h/\(∃ o,h.get? a=some o)/\∀ h1 h2:Heap,φ h1->(∀ o,h1.get? a=some o->h2.get? a=some o)->φ h2
def HOk(H:Hp)(h:Heap):Prop:=∀ a o,H a=some o->Yh P w H h a o
end
section
variable{P:Program}{w:World}{H H':Hp}{h h':Heap}{a:Addr}{o:HO}
theorem Yh.lt(x:Yh P w H h a o):a<h.objs.size:=by
 cases o with
 | lst xs=>obtain⟨_,_,_,_,e⟩:=x;exact Heap.lt_size e
 | tup xs=>obtain⟨_,_,_,p⟩:=x;exact p.lt
 | dK kvs=>obtain⟨_,_,_,_,o,_,_,e,_⟩:=x;exact Heap.lt_size e
 | dT kvs=>obtain⟨_,_,_,_,o,_,_,e,_⟩:=x;exact Heap.lt_size e
 | set S n=>obtain⟨o,_,_,_,e,_⟩:=x;exact Heap.lt_size e
 | ins C dx fs=>obtain⟨_,_,_,e,_⟩:=x;exact Heap.lt_size e
 | own y=>obtain⟨_,e⟩:=x;exact Heap.lt_size e
 | xd fs=>obtain⟨_,⟨_,_,_,e,_⟩,_⟩:=x;exact Heap.lt_size e
 | rng lo hi=>obtain⟨_,_,_,e⟩:=x;exact Heap.lt_size e
 | frz ob u=>obtain⟨e,_⟩:=x;exact Heap.lt_size e
 | tbl ps=>exact Heap.lt_size (show h.get? a=some _ from x)
 | met f y=>exact Heap.lt_size (show h.get? a=some _ from x)
 | ext φ=>obtain⟨_,⟨_,e⟩,_⟩:=x;exact Heap.lt_size e
theorem Paired.mapP:∀ {l₁:List α} {l₂:List β},Paired F l₁ l₂->(∀ a b,F a b->G a b)->Paired G l₁ l₂
 | _,_,.nil,_=>.nil
 | _,_,.cons r t,f=>.cons (f _ _ r) (Paired.mapP t f)
theorem Yh.stay(x:Yh P w H h a o)(k:∀ b u,(b=a\/H b=some (.own a))->h.get? b=some u->h'.get? b=some u)
  (ho:∀ b,H b=some (.own a)->H' b=some (.own a)) (ht:∀ b xs,H b=some (.tup xs)->H' b=some (.tup xs)):Yh P w H' h' a o:=by
 induction o with
 | lst xs=>obtain⟨z,its,n,r,e⟩:=x;exact⟨z,its,n,r,k _ _ (.inl rfl) e⟩
 | tup xs=>obtain⟨z,its,r,ob,e,c⟩:=x;exact⟨z,its,r,ob,k _ _ (.inl rfl) e,c⟩
 | dK kvs=>obtain⟨z,y,vs,r,ob,es,ep,e,c⟩:=x;exact⟨z,y,vs,r,ob,es,ep,k _ _ (.inl rfl) e,c⟩
 | dT kvs =>
   obtain⟨z,y,xs,r,ob,es,ep,e,c⟩:=x;exact⟨z,y,xs,Paired.mapP r fun p q z=>⟨z.1,ht _ _ z.2.1,z.2.2⟩,ob,es,ep,k _ _ (.inl rfl) e,c⟩
 | set S n=>obtain⟨ob,es,ep,t,e,c⟩:=x;exact⟨ob,es,ep,t,k _ _ (.inl rfl) e,c⟩
 | ins C dx fs =>
   obtain⟨d,z,ne,e,mA,⟨od,es,ep,e2,c⟩,r⟩:=x;exact⟨ho _ d,z,ne,k _ _ (.inl rfl) e,mA,⟨od,es,ep,k _ _ (.inr d) e2,c⟩,r⟩
 | own y=>obtain⟨ob,e⟩:=x;exact⟨ob,k _ _ (.inl rfl) e⟩
 | xd fs=>obtain⟨mA,⟨od,es,ep,e,c⟩,r⟩:=x;exact⟨mA,⟨od,es,ep,k _ _ (.inl rfl) e,c⟩,r⟩
 | rng lo hi=>obtain⟨t,u,v,e⟩:=x;exact⟨t,u,v,k _ _ (.inl rfl) e⟩
 | frz ob u ih=>obtain⟨e,q⟩:=x;exact⟨k _ _ (.inl rfl) e,ih q⟩
 | tbl ps =>
   have e:h.get? a=some { cls:=.none,data:=.fields ps }:=x;show h'.get? a=some { cls:=.none,data:=.fields ps };exact k a _ (.inl rfl) e
 | met f y =>
   have e:h.get? a=some (PySem.W.methodObj (.ref f) (.ref y)):=x;show h'.get? a=some (PySem.W.methodObj (.ref f) (.ref y));exact k a _ (.inl rfl) e
 | ext φ=>obtain⟨p,⟨o,e⟩,st⟩:=x;exact⟨st _ _ p fun o q=>k _ _ (.inl rfl) q,⟨o,k _ _ (.inl rfl) e⟩,st⟩
theorem HOk.lt(x:HOk P w H h)(e:H a=some o):a<h.objs.size:=(x a o e).lt
theorem HOk.fresh(x:HOk P w H h)(e:h.objs.size<=a):H a=none:=by
 cases q:H a with
 | none=>rfl
 | some u=>exact absurd (zqk (x.lt q) e) (zrh _)
theorem HOk.kept(x:HOk P w H h)(k:∀ b u,h.get? b=some u->h'.get? b=some u):HOk P w H h':=fun a o e =>
 (x a o e).stay (fun b u _ q=>k b u q) (fun _ q=>q) fun _ _ q=>q
theorem HOk.laid(x:HOk P w H h)(k:∀ b u,h.get? b=some u->h'.get? b=some u)(hp:h.objs.size<=a)(new:Yh P w (upd H a o) h' a o):HOk P w (upd H a o) h':=fun b u e=>by
 have hn:=x.fresh hp;by_cases hb:b=a
 ·subst hb;rw[Zb] at e;cases e;exact new
 ·rw[Zh hb] at e;exact(x b u e).stay (fun c v _ q=>k c v q) (fun c q=>by rw[Zh (Zg q hn)];exact q) fun c xs q=>by rw[Zh (Zg q hn)];exact q
end
def Rd(H:Hp)(a:Addr)(u:HO):Prop:=H a=some u\/∃ o,H a=some (.frz o u)
theorem Rd.ok(r:Rd H a u)(x:HOk P w H h):Yh P w H h a u:=by
 rcases r with r|⟨o,r⟩
 ·exact x a u r
 ·obtain⟨_,q⟩:=x a _ r;exact q
def Mut:Option HO->Prop
 | some (.lst _)=>True
 | some (.dK _)=>True
 | some (.dT _)=>True
 | some (.set _ _)=>True
 | some (.ins _ _ _)=>True
 | some (.ext _)=>True
 | _=>False
section
variable{P:Program}{w:World}{H:Hp}{h h':Heap}{x e:Addr}{o':HO}
theorem HOk.write(ok:HOk P w H h)(mu:Mut (H x))(he:e=x\/H e=some (.own x))(k:∀ b u,b≠e->h.get? b=some u->h'.get? b=some u)(heo:∃ u,h'.get? e=some u)
  (new:Yh P w (upd H x o') h' x o'):HOk P w (upd H x o') h':=fun b u q=>by
 have nown:∀ c y,H c=some (.own y)->c≠x:=fun c y r z=>by subst z;rw[r] at mu;exact mu
 have ntup:∀ c xs,H c=some (.tup xs)->c≠x:=fun c xs r z=>by subst z;rw[r] at mu;exact mu
 by_cases hb:b=x
 ·subst hb;rw[Zb] at q;cases q;exact new
 ·rw[Zh hb] at q;by_cases hbe:b=e
  ·have q':H b=some (.own x):=by
    rcases he with z|z
    ·exact absurd (hbe.trans z) hb
    ·rw[hbe];exact z
   rw[q] at q';cases q';obtain⟨v,hv⟩:=heo;exact⟨v,by rw[hbe];exact hv⟩
  ·refine(ok b u q).stay (fun c v hc r=>k c v ?_ r) (fun c r=>by rw[Zh (nown c b r)];exact r) fun c xs r=>by rw[Zh (ntup c xs r)];exact r
   rcases hc with rfl|hc
   ·exact hbe
   ·rintro rfl;rcases he with z|z
    ·exact nown c b hc z
    ·rw[hc] at z;cases z;exact hb rfl
end
structure Un(fs ex:List Addr)(H H':Hp)(h h':Heap):Prop where
 keep:∀ b o,h.get? b=some o->H b=none->b∉fs->b∉ex->h'.get? b=some o
 slot:∀ b o,h.get? b=some o->H b=none->b∈fs->b∉ex->∃ sl,h'.get? b=some { o with slots:=sl }
 free:∀ b o,h.get? b=some o->H b=none->b∉ex->H' b=none
 there:∀ b o,h.get? b=some o->b∉ex->∃ o',h'.get? b=some o'
 tups:∀ b xs,H b=some (.tup xs)->H' b=some (.tup xs)
 frzs:∀ b o u,H b=some (.frz o u)->H' b=some (.frz o u)
 tbls:∀ b ps,H b=some (.tbl ps)->∃ more,H' b=some (.tbl (ps++more))
section
variable{fs fs' ex ex':List Addr}{H H1 H2:Hp}{h h1 h2 h':Heap}{a x e:Addr}{o:HO}
theorem Un.any(u:Un fs ex H H1 h h1)(q:h.get? b=some ob)(n:H b=none)(hx:b∉ex):∃ sl,h1.get? b=some { ob with slots:=sl }:=by
 by_cases hb:b∈fs
 ·exact u.slot b ob q n hb hx
 ·exact⟨ob.slots,u.keep b ob q n hb hx⟩
theorem Un.kept(k:∀ b u,h.get? b=some u->h'.get? b=some u):Un fs ex H H h h' :=
 ⟨fun b ob q _ _ _=>k b ob q,fun b ob q _ _ _=>⟨ob.slots,k b ob q⟩,fun _ _ _ n _=>n,fun b ob q _=>⟨ob,k b ob q⟩,fun _ _ q=>q,fun _ _ _ q=>q,fun _ ps q=>⟨#[],by rw[q];simp⟩⟩
theorem Un.refl:Un fs ex H H h h:=Un.kept fun _ _ q=>q
theorem Un.laid(k:∀ b u,h.get? b=some u->h'.get? b=some u)(hp:h.objs.size<=a)(hn:H a=none):Un fs ex H (upd H a o) h h' where
 keep:=fun b u q _ _ _=>k b u q
 slot:=fun b u q _ _ _=>⟨u.slots,k b u q⟩
 free:=fun b u q n _=>by rw[Zh (zqu (zqk (Heap.lt_size q) hp))];exact n
 there:=fun b u q _=>⟨u,k b u q⟩
 tups:=fun b xs q=>by rw[Zh (Zg q hn)];exact q
 frzs:=fun b u xs q=>by rw[Zh (Zg q hn)];exact q
 tbls:=fun b ps q=>⟨#[],by rw[Zh (Zg q hn),q];simp⟩
theorem Un.write(mu:Mut (H x))(he:e=x\/H e=some (.own x))(k:∀ b u,b≠e->h.get? b=some u->h'.get? b=some u)(heo:∃ u,h'.get? e=some u):Un fs ex H (upd H x o) h h':=by
 have hx:∀ b,H b=none->b≠x:=fun b n z=>by subst z;rw[n] at mu;exact mu
 have hb:∀ b,H b=none->b≠e:=fun b n z=>by
  subst z;rcases he with r|r
  ·exact hx b n r
  ·rw[n] at r;cases r
 have hm:∀ b u,H b=some u->¬ Mut (some u)->b≠x:=fun b u q nm z=>by subst z;rw[q] at mu;exact nm mu
 refine⟨fun b u q n _ _=>k b u (hb b n) q,fun b u q n _ _=>⟨u.slots,k b u (hb b n) q⟩,fun b u q n _=>by rw[Zh (hx b n)];exact n,fun b u q _=>?_,
  fun b xs q=>by rw[Zh (hm b _ q fun z=>z)];exact q,fun b u xs q=>by rw[Zh (hm b _ q fun z=>z)];exact q,fun b ps q=>⟨#[],by rw[Zh (hm b _ q fun z=>z),q];simp⟩⟩
 by_cases hbe:b=e
 ·subst hbe;exact heo
 ·exact⟨u,k b u hbe q⟩
end
def trk(h:Heap)(H:Hp):List Addr:=(List.range h.objs.size).filter fun a=>(H a).isSome
def Ig(h:Heap)(H:Hp):Heap:=PySem.W.hideAll h (trk h H)
theorem Cs(h:Heap)(H:Hp):(Ig h H).objs.size=h.objs.size:=PySem.W.hideAll_size _ _
theorem B9(e:h.get? b=some o)(n:H b=none):(Ig h H).get? b=some o :=
 PySem.W.hideAll_get _ e fun hm=>by
  have q:(H b).isSome=true:=(zq9.mp hm).2;rw[n] at q;simp at q
theorem zbp(e:(Ig h H).get? b=some o):h.get? b=some o/\H b=none:=by
 have e':h.get? b=some o:=PySem.W.of_hideAll (trk h H) e;refine⟨e',?_⟩;cases q:H b with
 | none=>rfl
 | some x =>
   have hm:b∈trk h H:=zq9.mpr ⟨zrb.mpr (Heap.lt_size e'),by simp[q]⟩;have z:(Ig h H).get? b=none:=PySem.W.hideAll_none (trk h H) hm;rw[z] at e;cases e
structure Mod(K:Frag)(mg:Str->Option Value)(base:Heap):Prop where
 kin:K.In base
 glob:base.Ns mainGlobals mg
 blt:∃ mb,base.Ns builtinsNs mb/\∀ x:Str,x≠"__name__"->mb x=bootBuiltins x
 nolimit:base.NoLimit
structure Cx where
 prog:Program
 w:World
 K:Frag
 mg:Str->Option Value
 base:Heap
 A:Around
 N:List Str
 s₀:Shared
 H₀:Hp
 env:Env
 outer:List Env
 stack:List Env
 ex:List Addr
 fn:Str->Bool
 calm:Bool
 pn:List (Addr×Obj)
 xe:Value->Shared->Prop
 lk:List (Option V):=[]
def frs(l:List Env):List Addr:=l.filterMap (·.frame)
abbrev Cx.fs(X:Cx):List Addr:=frs X.outer
def Vis(sc:Scope)(x:Str):Prop:=sc.names.lookup x=some .local\/sc.names.lookup x=some .cell\/sc.names.lookup x=some .free
def Loc(sc:Scope)(x:Str):Prop:=sc.names.lookup x=some .local\/sc.names.lookup x=some .cell
def Look(env:Env)(h:Heap)(m:Str->Option Value)(x:Str)(u:Value):Prop :=
 (env.kindOf x=some .local/\m x=some u)\/((env.kindOf x=some .cell\/env.kindOf x=some .free)/\∃ c,env.cells.lookup x=some c/\h.IsCell c (some u))
structure Cx.Ok(X:Cx):Prop where
 mod:Mod X.K X.mg X.base
 kind:X.env.scope.kind=.function
 glob:X.env.globals=mainGlobals
 blt:X.env.builtins=builtinsNs
 above:X.s₀.heap.objs.size<=X.env.locals
 inj:∀ x y c,X.env.cells.lookup x=some c->X.env.cells.lookup y=some c->x=y
 has:∀ x,(X.env.kindOf x=some .cell\/X.env.kindOf x=some .free)->∃ c,X.env.cells.lookup x=some c
 cab:∀ x c,X.fn x=true->X.env.cells.lookup x=some c->X.s₀.heap.objs.size<=c
 hd:X.calm=true->X.A.handled=none
 frames:X.A.frames=some X.stack
 stk:X.stack=X.outer\/(X.stack=X.env :: X.outer/\X.env.frame=some X.env.locals)
 exf:∀ b∈X.ex,b≠X.env.locals/\∀ x c,X.env.cells.lookup x=some c->c≠b
 bs:∀ b o,X.base.get? b=some o->X.s₀.heap.get? b=some o/\X.H₀ b=none
 bsz:X.base.objs.size<=X.s₀.heap.objs.size
 noex:∀ b o,X.base.get? b=some o->b∉X.ex
 exfs:∀ b∈X.ex,b∉X.fs
 funs:X.s₀.heap.FunFrames X.base X.outer
 frf:∀ b∈X.fs,X.H₀ b=none
structure Inv(X:Cx)(pins:List (Addr×Obj))(σ:List (Option V))(H:Hp)(s:Shared):Prop where
 ok:X.Ok
 os:s.os=X.s₀.os
 bare:AllBare s.gens
 base:Un X.fs X.ex X.H₀ H X.s₀.heap s.heap
 loc:∃ m,s.heap.Ns X.env.locals m/\∀ (i:Nat) (x:Str) (v:V),X.N[i]?=some x->(σ[i]?=some (some v)\/X.lk[i]?=some (some v))->Vis X.env.scope x->∃ u,RelV v u/\Look X.env s.heap m x u
 cell:∀ x c,X.env.cells.lookup x=some c->∃ v,s.heap.IsCell c v
 free:H X.env.locals=none
 freeC:∀ x c,X.env.cells.lookup x=some c->H c=none
 pin:∀ p∈X.pn++pins,s.heap.get? p.1=some p.2/\H p.1=none/\p.1≠X.env.locals/\p.1∉X.fs/\∀ v,p.2.data≠.cell v
 hok:HOk X.prog X.w H s.heap
 len:σ.length=X.N.length
section
variable{X:Cx}{pins:List (Addr×Obj)}{σ:List (Option V)}{H H':Hp}{s:Shared}{h':Heap}
theorem Cx.Ok.nofr(ok:X.Ok)(e:X.base.get? b=some o):b∉X.fs:=fun hb=>by
 have:=(ok.funs.mem hb).1;rw[e] at this;cases this
theorem Inv.bs(I:Inv X pins σ H s):∀ b o,X.base.get? b=some o->s.heap.get? b=some o/\H b=none:=fun b o e =>
 ⟨I.base.keep b o (I.ok.bs b o e).1 (I.ok.bs b o e).2 (I.ok.nofr e) (I.ok.noex b o e),I.base.free b o (I.ok.bs b o e).1 (I.ok.bs b o e).2 (I.ok.noex b o e)⟩
theorem Inv.bk(I:Inv X pins σ H s):∀ b o,X.base.get? b=some o->s.heap.get? b=some o:=fun b o e=>(I.bs b o e).1
theorem Inv.mod(I:Inv X pins σ H s):Mod X.K X.mg X.base:=I.ok.mod
theorem Inv.kIn(I:Inv X pins σ H s):X.K.In s.heap:=I.ok.mod.kin.keeps I.bk
theorem Inv.lt(I:Inv X pins σ H s):X.env.locals<s.heap.objs.size:=let ⟨_,hn,_⟩:=I.loc;hn.lt
theorem Inv.sz(I:Inv X pins σ H s):X.s₀.heap.objs.size<=s.heap.objs.size:=zqr I.ok.above (Nat.le_of_lt I.lt)
theorem Inv.nofs(I:Inv X pins σ H s)(h:s.heap.objs.size<=a):a∉X.fs:=fun hb=>by
 obtain⟨_,o,ho,_⟩:=I.ok.funs.mem hb;exact absurd (zqk (Heap.lt_size ho) (zqr I.sz h)) (zrh _)
theorem Inv.cne(I:Inv X pins σ H s):∀ x c,X.env.cells.lookup x=some c->c≠X.env.locals:=fun x c e z=>by
 obtain⟨v,o,ho,hd⟩:=I.cell x c e;obtain⟨m,⟨o',es,ep,ho',hd',_⟩,_⟩:=I.loc;rw[z,ho'] at ho;cases ho;rw[hd'] at hd;cases hd
theorem Inv.funs(I:Inv X pins σ H s):s.heap.FunFrames X.base X.outer:=by
 have all:∀ (l:List Env),(∀ b∈frs l,b∈X.fs)->X.s₀.heap.FunFrames X.base l->s.heap.FunFrames X.base l:=by
  intro l
  induction l with
  | nil=>intro _ _;trivial
  | cons env r ih =>
    intro hs hl;obtain⟨hk,⟨L,o,hf,hn,ho,hd⟩,hr⟩:=hl;have hL:L∈X.fs:=hs L (by unfold frs;rw[zrt,hf];exact zqp);obtain⟨sl,e⟩:=I.base.slot L o ho (I.ok.frf L hL) hL fun z=>I.ok.exfs L z hL;exact⟨hk,⟨L,_,hf,hn,e,hd⟩,ih (fun b hb=>hs b (by unfold frs;rw[zrt,hf];exact zql _ hb)) hr⟩
 exact all X.outer (fun _ hb=>hb) I.ok.funs
theorem Inv.stack(I:Inv X pins σ H s):s.heap.FunFrames X.base X.stack:=by
 rcases I.ok.stk with e|⟨e,hf⟩
 ·rw[e];exact I.funs
 ·rw[e];obtain⟨m,hn,_⟩:=I.loc;refine .cons (by rw[I.ok.kind];decide) hf hn ?_ I.funs;exact Heap.get?_none_of_le (zqr I.ok.bsz I.ok.above)
theorem Inv.stkSub(I:Inv X pins σ H s):∀ b∈frs X.stack,b∈X.env.locals :: X.fs:=fun b hb=>by
 rcases I.ok.stk with e|⟨e,hf⟩
 ·rw[e] at hb;exact zql _ hb
 ·rw[e] at hb;unfold frs at hb;rw[zrt,hf] at hb;exact hb
theorem Inv.stkFree(I:Inv X pins σ H s):∀ b∈frs X.stack,H b=none:=fun b hb=>by
 rcases zp7.mp (I.stkSub b hb) with e|hb
 ·rw[e];exact I.free
 ·obtain⟨_,o,ho,_⟩:=I.ok.funs.mem hb;exact I.base.free b o ho (I.ok.frf b hb) fun z=>I.ok.exfs b z hb
theorem Inv.step{g':Array GenState}{t':Nat}{d':Drawn}{ch:List Addr}(I:Inv X pins σ H s)
  (hch:∀ b∈ch,(b∈X.ex\/X.s₀.heap.objs.size<=b)/\b≠X.env.locals/\(∀ x c,X.env.cells.lookup x=some c->c≠b)/\∀ p∈X.pn++pins,p.1≠b)
  (keep:∀ b o,b≠X.env.locals->b∉X.fs->b∉ch->s.heap.get? b=some o->H b=none->h'.get? b=some o)
  (slot:∀ b o,b≠X.env.locals->b∈X.fs->b∉ch->s.heap.get? b=some o->H b=none->∃ sl,h'.get? b=some { o with slots:=sl }) (free:∀ b o,b∉ch->s.heap.get? b=some o->H b=none->H' b=none)
  (there:∀ b o,b∉ch->s.heap.get? b=some o->∃ o',h'.get? b=some o')
  (tups:∀ b xs,H b=some (.tup xs)->H' b=some (.tup xs)) (frzs:∀ b o u,H b=some (.frz o u)->H' b=some (.frz o u)) (tbls:∀ b ps,H b=some (.tbl ps)->∃ more,H' b=some (.tbl (ps++more)))
  (ns:∀ m,s.heap.Ns X.env.locals m->h'.Ns X.env.locals m) (hok:HOk X.prog X.w H' h') (hg:AllBare g') :
  Inv X pins σ H' { s with heap:=h',gens:=g',drawn:=d',toks:=t' }:=by
 have neL:∀ b o,X.s₀.heap.get? b=some o->b≠X.env.locals:=fun b o e=>zqu (zqk (Heap.lt_size e) I.ok.above);have neC:∀ b o,X.s₀.heap.get? b=some o->b∉X.ex->b∉ch:=fun b o e hx hb=>by
  rcases(hch b hb).1 with z|z
  ·exact hx z
  ·exact absurd (zqk (Heap.lt_size e) z) (zrh _)
 have cellK:∀ x c,X.env.cells.lookup x=some c->∀ v,s.heap.IsCell c v->h'.IsCell c v:=fun x c e v ⟨o,ho,hd⟩=>by
  have nch:c∉ch:=fun z=>(hch c z).2.2.1 x c e rfl;by_cases hc:c∈X.fs
  ·obtain⟨sl,q⟩:=slot c o (I.cne x c e) hc nch ho (I.freeC x c e);exact⟨_,q,hd⟩
  ·exact⟨o,keep c o (I.cne x c e) hc nch ho (I.freeC x c e),hd⟩
 refine⟨I.ok,I.os,hg,⟨fun b o e n hb hx=>?_,fun b o e n hb hx=>?_,fun b o e n hx=>?_,fun b o e hx=>?_,fun b xs e=>tups b xs (I.base.tups b xs e),fun b o xs e=>frzs b o xs (I.base.frzs b o xs e),fun b ps e=>?_⟩,?_,fun x c e=>?_,?_,fun x c e=>?_,fun p hp=>?_,hok,I.len⟩
 ·exact keep b o (neL b o e) hb (neC b o e hx) (I.base.keep b o e n hb hx) (I.base.free b o e n hx)
 ·obtain⟨sl,e1⟩:=I.base.slot b o e n hb hx;obtain⟨sl',e2⟩:=slot b _ (neL b o e) hb (neC b o e hx) e1 (I.base.free b o e n hx);exact⟨sl',e2⟩
 ·obtain⟨o',e1⟩:=I.base.there b o e hx;exact free b o' (neC b o e hx) e1 (I.base.free b o e n hx)
 ·obtain⟨o',e1⟩:=I.base.there b o e hx;exact there b o' (neC b o e hx) e1
 ·obtain⟨m1,e1⟩:=I.base.tbls b ps e;obtain⟨m2,e2⟩:=tbls b _ e1;exact⟨m1++m2,by rw[e2,Array.append_assoc]⟩
 ·obtain⟨m,hn,hl⟩:=I.loc;refine⟨m,ns m hn,fun i x v e1 e2 e3=>?_⟩;obtain⟨u,r,l⟩:=hl i x v e1 e2 e3;refine⟨u,r,?_⟩;rcases l with l|⟨k,c,e,z⟩
  ·exact .inl l
  ·exact .inr ⟨k,c,e,cellK x c e _ z⟩
 ·obtain⟨v,z⟩:=I.cell x c e;exact⟨v,cellK x c e v z⟩
 ·obtain⟨m,⟨o,_,_,ho,_⟩,_⟩:=I.loc;exact free _ o (fun z=>(hch _ z).2.1 rfl) ho I.free
 ·obtain⟨v,o,ho,hd⟩:=I.cell x c e;exact free c o (fun z=>(hch c z).2.2.1 x c e rfl) ho (I.freeC x c e)
 ·obtain⟨e,n,ne,nf,d⟩:=I.pin p hp;have nch:p.1∉ch:=fun z=>(hch p.1 z).2.2.2 p hp rfl;exact⟨keep p.1 p.2 ne nf nch e n,free p.1 p.2 nch e n,ne,nf,d⟩
theorem Inv.un{t':Nat}(I:Inv X pins σ H s)(u:Un X.fs [] H H' s.heap h')(hok:HOk X.prog X.w H' h'):Inv X pins σ H' { s with heap:=h',toks:=t' }:=by
 obtain⟨m,⟨o,es,ep,ho,r⟩,_⟩:=id I.loc;obtain⟨sl,hL⟩:=u.any ho I.free (by simp);exact I.step (g':=s.gens) (d':=s.drawn) (ch:=[]) (fun _ z=>nomatch z) (fun b o _ hb _ e n=>u.keep b o e n hb (by simp)) (fun b o _ hb _ e n=>u.slot b o e n hb (by simp)) (fun b o _ e n=>u.free b o e n (by simp)) (fun b o _ e=>u.there b o e (by simp)) u.tups u.frzs u.tbls (fun m' hm=>by
  obtain⟨o',es',ep',ho',r'⟩:=hm;rw[ho] at ho';cases ho';exact⟨_,es',ep',hL,r'⟩) hok I.bare
theorem Inv.call{g':Array GenState}{t':Nat}{d':Drawn}{ch:List Addr}(I:Inv X pins σ H s)(u:Un (frs X.stack) ch H H' s.heap h')(hok:HOk X.prog X.w H' h')(hg:AllBare g')
  (hch:∀ b∈ch,(b∈X.ex\/X.s₀.heap.objs.size<=b)/\b≠X.env.locals/\(∀ x c,X.env.cells.lookup x=some c->c≠b)/\∀ p∈X.pn++pins,p.1≠b) :
  Inv X pins σ H' { s with heap:=h',gens:=g',drawn:=d',toks:=t' }:=by
 obtain⟨m,⟨o,es,ep,ho,r⟩,_⟩:=id I.loc;obtain⟨sl,hL⟩:=u.any ho I.free fun z=>(hch _ z).2.1 rfl;exact I.step (ch:=ch) hch (fun b o hL hb hc e n=>u.keep b o e n (fun z=>(zp7.mp (I.stkSub b z)).elim hL hb) hc) (fun b o _ _ hc e n=>u.any e n hc) (fun b o hc e n=>u.free b o e n hc) (fun b o hc e=>u.there b o e hc) u.tups u.frzs u.tbls (fun m' hm=>by
  obtain⟨o',es',ep',ho',r'⟩:=hm;rw[ho] at ho';cases ho';exact⟨_,es',ep',hL,r'⟩) hok hg
theorem Inv.turned{t':Nat}{it:Addr}(I:Inv X pins σ H s)(k:∀ b o,b≠it->s.heap.get? b=some o->h'.get? b=some o)(hn:H it=none)(hL:it≠X.env.locals)
  (h1:it∈X.ex\/X.s₀.heap.objs.size<=it) (h2:∀ x c,X.env.cells.lookup x=some c->c≠it) (h3:∀ p∈X.pn++pins,p.1≠it):Inv X pins σ H { s with heap:=h',toks:=t' }:=by
 have nit:∀ b u,H b=some u->b≠it:=fun b u e z=>by rw[z,hn] at e;cases e
 refine I.step (g':=s.gens) (d':=s.drawn) (ch:=[it]) (fun b hb=>?_) (fun b o _ _ hc e _=>k b o (fun z=>hc (by simp[z])) e) (fun b o _ _ hc e _=>⟨o.slots,k b o (fun z=>hc (by simp[z])) e⟩) (fun _ _ _ _ n=>n)
  (fun b o hc e=>⟨o,k b o (fun z=>hc (by simp[z])) e⟩) (fun _ _ e=>e) (fun _ _ _ e=>e) (fun b ps e=>⟨#[],by rw[e];simp⟩) (fun m hm=>?_) (fun b u e=>?_) I.bare
 ·have e:b=it:=by simpa using hb
  subst e;exact⟨h1,hL,h2,h3⟩
 ·obtain⟨o,es,ep,ho,r⟩:=hm;exact⟨o,es,ep,k _ o (Ne.symm hL) ho,r⟩
 ·refine(I.hok b u e).stay (fun c v hc q=>k c v ?_ q) (fun _ q=>q) fun _ _ q=>q;rcases hc with z|z
  ·rw[z];exact nit b u e
  ·exact nit c _ z
theorem Inv.tok(I:Inv X pins σ H s)(t:Nat):Inv X pins σ H { s with toks:=t }:=I.un (h':=s.heap) (t':=t) Un.refl I.hok
theorem Inv.kept(I:Inv X pins σ H s)(k:∀ b u,s.heap.get? b=some u->h'.get? b=some u):Inv X pins σ H { s with heap:=h',toks:=t' }:=I.un (Un.kept k) (I.hok.kept k)
theorem Inv.laid(I:Inv X pins σ H s)(k:∀ b u,s.heap.get? b=some u->h'.get? b=some u)(hp:s.heap.objs.size<=a)(new:Yh X.prog X.w (upd H a o) h' a o) :
  Inv X pins σ (upd H a o) { s with heap:=h',toks:=t' }:=I.un (Un.laid k hp (I.hok.fresh hp)) (I.hok.laid k hp new)
theorem Inv.write(I:Inv X pins σ H s)(mu:Mut (H x))(he:e=x\/H e=some (.own x))(k:∀ b u,b≠e->s.heap.get? b=some u->h'.get? b=some u)(heo:∃ u,h'.get? e=some u)
  (new:Yh X.prog X.w (upd H x o) h' x o):Inv X pins σ (upd H x o) { s with heap:=h',toks:=t' }:=I.un (Un.write mu he k heo) (I.hok.write mu he k heo new)
theorem Inv.weak(I:Inv X pins σ H s)(hl:σ'.length=σ.length)(w:∀ (i:Nat) v,σ'[i]?=some (some v)->σ[i]?=some (some v)):Inv X pins σ' H s :=
 ⟨I.ok,I.os,I.bare,I.base,let ⟨m,hn,hl'⟩:=I.loc;⟨m,hn,fun i x v e1 e2 e3=>hl' i x v e1 (e2.imp_left (w i v)) e3⟩,I.cell,I.free,I.freeC,I.pin,I.hok,hl.trans I.len⟩
theorem Inv.pins_of(I:Inv X pins σ H s)(h:∀ p∈pins',s.heap.get? p.1=some p.2/\H p.1=none/\p.1≠X.env.locals/\p.1∉X.fs/\∀ v,p.2.data≠.cell v):Inv X pins' σ H s :=
 ⟨I.ok,I.os,I.bare,I.base,I.loc,I.cell,I.free,I.freeC,fun p hp=>(zqi.mp hp).elim (fun z=>I.pin p (zqv _ z)) (h p),I.hok,I.len⟩
theorem Mh{N:List Str}(hN:N.Nodup){i j:Nat}{x:Str}(a:N[i]?=some x)(b:N[j]?=some x):i=j:=by
 obtain⟨h1,e1⟩:=zp4.mp a;obtain⟨h2,e2⟩:=zp4.mp b;exact(List.getElem_inj hN).mp (e1.trans e2.symm)
def Eb(X:Cx)(i:Nat)(x:Str):Prop:=(X.fn x=true\/X.env.scope.names.lookup x=some .local)/\∀ v,X.lk[i]?≠some (some v)
theorem Xn{i:Nat}:∀ v:V,([]:List (Option V))[i]?≠some (some v):=fun _ h=>by simp at h
theorem K6{M:Model}{A:Around}{E:Value->Shared->Prop}{i:Nat}{x:Str}{v:V}{u:Value}{Q:Unit->Shared->Prop}(I:Inv X pins σ H s)(hN:X.N.Nodup)(hi:X.N[i]?=some x)(hx:Loc X.env.scope x)(r:RelV v u)
  (h:∀ s',Inv X pins (σ.set i (some v)) H s'->(∃ a,Heap.SameBut a s.heap s'.heap/\(a=X.env.locals\/X.env.cells.lookup x=some a))->Q () s') (hf:Eb X i x:=by first|exact⟨.inl rfl,Xn⟩|exact⟨.inr rfl,Xn⟩|assumption|exact⟨.inl rfl,by assumption⟩|exact⟨.inr rfl,by assumption⟩):wpAny M A (storeName X.env x u) Q E s:=by
 obtain⟨m,hn,hl⟩:=id I.loc;have hcls:(X.env.scope.kind == .class||(X.env.scope.kind == .module&&X.env.locals != X.env.globals))=false:=by rw[I.ok.kind];rfl
 have hiσ:i<σ.length:=by rw[I.len];exact(zp4.mp hi).1
 have cne:=I.cne;have tracked:∀ {a:Addr} {h':Heap},(∃ o,s.heap.get? a=some o/\H a=none)->Heap.SameBut a s.heap h'->HOk X.prog X.w H h':=fun {a h'} ha hs b ob e=>by
  obtain⟨_,_,hfree⟩:=ha;refine(I.hok b ob e).stay (fun c w' hc q=>(hs.2 c ?_).trans q) (fun _ q=>q) fun _ _ q=>q;rintro rfl;rcases hc with rfl|hc
  ·rw[hfree] at e;cases e
  ·rw[hfree] at hc;cases hc
 rcases hx with hk|hk
 ·refine wpAny_storeName_local hk hn (fun h' hn' hs=>?_) hcls;obtain⟨oL,_,_,hoL,_⟩:=id hn;refine h _ ⟨I.ok,I.os,I.bare,⟨fun b o e n hb hx=>?_,fun b o e n hb hx=>?_,I.base.free,fun b o e hx=>?_,I.base.tups,I.base.frzs,I.base.tbls⟩,⟨_,hn',fun j y v' e1 e2 e3=>?_⟩,fun y c e=>?_,I.free,I.freeC,fun p hp=>?_,tracked ⟨oL,hoL,I.free⟩ hs,by simpa using I.len⟩ ⟨_,hs,.inl rfl⟩
  ·exact(hs.2 b (zqu (zqk (Heap.lt_size e) I.ok.above))).trans (I.base.keep b o e n hb hx)
  ·obtain⟨sl,e1⟩:=I.base.slot b o e n hb hx;exact⟨sl,(hs.2 b (zqu (zqk (Heap.lt_size e) I.ok.above))).trans e1⟩
  ·obtain⟨o',e1⟩:=I.base.there b o e hx;exact⟨o',(hs.2 b (zqu (zqk (Heap.lt_size e) I.ok.above))).trans e1⟩
  ·by_cases hj:j=i
   ·subst hj;rw[hi] at e1;cases e1;rcases e2 with e2|e2
    case' inr=>exact absurd e2 (hf.2 _)
    rw[zq1 hiσ] at e2;cases e2;exact⟨u,r,.inl ⟨hk,by simp⟩⟩
   ·have e2:σ[j]?=some (some v')\/X.lk[j]?=some (some v'):=e2.imp_left fun z=>by rw[zqx (Ne.symm hj)] at z;exact z
    obtain⟨u',r',q⟩:=hl j y v' e1 e2 e3;refine⟨u',r',?_⟩;rcases q with ⟨k,e⟩|⟨k,c,e,z⟩
    ·refine .inl ⟨k,?_⟩;have:y≠x:=fun e=>hj (Mh hN e1 (e▸hi));simp[this,e]
    ·exact .inr ⟨k,c,e,z.sameBut hs (cne y c e)⟩
  ·obtain⟨w',z⟩:=I.cell y c e;exact⟨w',z.sameBut hs (cne y c e)⟩
  ·obtain⟨e,n,ne,nf,d⟩:=I.pin p hp;exact⟨(hs.2 p.1 ne).trans e,n,ne,nf,d⟩
 ·have hfn:X.fn x=true:=by
   rcases hf.1 with z|z
   ·exact z
   ·rw[z] at hk;cases hk
  obtain⟨c,hc⟩:=I.ok.has x (.inl hk);obtain⟨w',z⟩:=I.cell x c hc;refine wpAny_storeName_cell I.ok.kind hk hc z (fun h' hc' hs=>?_);obtain⟨oc,hoc,hocd⟩:=id z;refine h { s with heap:=h' } ⟨I.ok,I.os,I.bare,⟨fun b o e n hb hx=>?_,fun b o e n hb hx=>?_,I.base.free,fun b o e hx=>?_,I.base.tups,I.base.frzs,I.base.tbls⟩,⟨m,hn.sameBut hs (Ne.symm (cne x c hc)),fun j y v' e1 e2 e3=>?_⟩,fun y c' e=>?_,I.free,I.freeC,fun p hp=>?_,tracked ⟨oc,hoc,I.freeC x c hc⟩ hs,by simpa using I.len⟩ ⟨c,hs,.inr hc⟩
  ·exact(hs.2 b (zqu (zqk (Heap.lt_size e) (I.ok.cab x c hfn hc)))).trans (I.base.keep b o e n hb hx)
  ·obtain⟨sl,e1⟩:=I.base.slot b o e n hb hx;exact⟨sl,(hs.2 b (zqu (zqk (Heap.lt_size e) (I.ok.cab x c hfn hc)))).trans e1⟩
  ·obtain⟨o',e1⟩:=I.base.there b o e hx;exact⟨o',(hs.2 b (zqu (zqk (Heap.lt_size e) (I.ok.cab x c hfn hc)))).trans e1⟩
  ·by_cases hj:j=i
   ·subst hj;rw[hi] at e1;cases e1;rcases e2 with e2|e2
    case' inr=>exact absurd e2 (hf.2 _)
    rw[zq1 hiσ] at e2;cases e2;exact⟨u,r,.inr ⟨.inl hk,c,hc,hc'⟩⟩
   ·have e2:σ[j]?=some (some v')\/X.lk[j]?=some (some v'):=e2.imp_left fun z=>by rw[zqx (Ne.symm hj)] at z;exact z
    obtain⟨u',r',q⟩:=hl j y v' e1 e2 e3;refine⟨u',r',?_⟩;rcases q with q|⟨k,c',e,z'⟩
    ·exact .inl q
    ·refine .inr ⟨k,c',e,z'.sameBut hs ?_⟩;rintro rfl;exact hj (Mh hN e1 (I.ok.inj _ _ _ e hc▸hi))
  ·by_cases hcc:c'=c
   ·subst hcc;exact⟨_,hc'⟩
   ·obtain⟨w2,z2⟩:=I.cell y c' e;exact⟨w2,z2.sameBut hs hcc⟩
  ·obtain⟨e,n,ne,nf,d⟩:=I.pin p hp;refine⟨(hs.2 p.1 ?_).trans e,n,ne,nf,d⟩;intro q;rw[q,hoc] at e;have q':oc=p.2:=Option.some.inj e;exact d w' (by rw[<- q'];exact hocd)
theorem Mi(I:Inv X pins σ H s)(hN:X.N.Nodup)(hi:X.N[i]?=some x)(hx:Loc X.env.scope x)(r:RelV v u)
  (h:∀ s',Inv X pins (σ.set i (some v)) H s'->Q () s') (hf:Eb X i x:=by first|exact⟨.inl rfl,Xn⟩|exact⟨.inr rfl,Xn⟩|assumption|exact⟨.inl rfl,by assumption⟩|exact⟨.inr rfl,by assumption⟩):wpAny M A (storeName X.env x u) Q E s :=
 K6 I hN hi hx r (fun s' I' _=>h s' I') hf
theorem Inv.call'(I:Inv X pins σ H s)(ho:s'.os=s.os)(u:Un (frs X.stack) ch H H' s.heap s'.heap)(hok:HOk X.prog X.w H' s'.heap)(hg:AllBare s'.gens)
  (hch:∀ b∈ch,(b∈X.ex\/X.s₀.heap.objs.size<=b)/\b≠X.env.locals/\(∀ x c,X.env.cells.lookup x=some c->c≠b)/\∀ p∈X.pn++pins,p.1≠b):Inv X pins σ H' s':=by
 obtain⟨h',g',d',t',o'⟩:=s';have e:o'=s.os:=ho;subst e;exact I.call (g':=g') (t':=t') (d':=d') u hok hg hch
end
abbrev XK:=Value->Option Addr->Hp->Prop
abbrev St:=List (Option V)
abbrev VK:=V->Hp->Prop
abbrev TE:=St->Hp->VK->Prop
abbrev TT:=St->Hp->(Bool->Hp->Prop)->Prop
abbrev TA:=St->Hp->(List V->Hp->Prop)->Prop
structure Qf where
 nx:St->Hp->Prop
 rt:VK
 bk:St->Hp->Prop:=fun _ _=>False
 ct:St->Hp->Prop:=fun _ _=>False
abbrev TS:=Qf->St->Hp->Prop
def EP(X:Cx)(pins:List (Addr×Obj))(σ:St)(Q:VK)(u:Value)(s':Shared):Prop:=∃ v H',Inv X pins σ H' s'/\RelV v u/\Q v H'
def TP(X:Cx)(pins:List (Addr×Obj))(σ:St)(Q:Bool->Hp->Prop)(b:Bool)(s':Shared):Prop:=∃ H',Inv X pins σ H' s'/\Q b H'
def AP(X:Cx)(pins:List (Addr×Obj))(σ:St)(Q:List V->Hp->Prop)(us:List Value)(s':Shared):Prop:=∃ vs H',Inv X pins σ H' s'/\Vals vs us/\Q vs H'
def SP(X:Cx)(pins:List (Addr×Obj))(D:Qf)(f:Flow)(s':Shared):Prop :=
 match f with
 | .next=>∃ σ' H',Inv X pins σ' H' s'/\D.nx σ' H'
 | .brk=>∃ σ' H',Inv X pins σ' H' s'/\D.bk σ' H'
 | .cont=>∃ σ' H',Inv X pins σ' H' s'/\D.ct σ' H'
 | .ret u=>∃ v σ' H',Inv X pins σ' H' s'/\RelV v u/\D.rt v H'
def PE(X:Cx)(e:Expr)(t:TE):Prop :=
 ∀ (pins:List (Addr×Obj)) (s:Shared) (σ:St) (H:Hp) (Q:VK),Inv X pins σ H s->t σ H Q->wpAny (model X.prog X.w) X.A (eval e X.env) (EP X pins σ Q) X.xe s
def PT(X:Cx)(e:Expr)(t:TT):Prop :=
 ∀ (pins:List (Addr×Obj)) (s:Shared) (σ:St) (H:Hp) (Q:Bool->Hp->Prop),Inv X pins σ H s->t σ H Q->wpAny (model X.prog X.w) X.A (isTrue e X.env (eval e X.env)) (TP X pins σ Q) X.xe s
def PW(X:Cx)(e:Expr)(t:TT):Prop :=
 ∀ (whole:Sem Value) (pins:List (Addr×Obj)) (s:Shared) (σ:St) (H:Hp) (Q:Bool->Hp->Prop),Inv X pins σ H s->t σ H Q->wpAny (model X.prog X.w) X.A (isTrue e X.env whole) (TP X pins σ Q) X.xe s
theorem PW.pt(h:PW X e t):PT X e t:=h _
def PA(X:Cx)(es:List Expr)(t:TA):Prop :=
 ∀ (pos:Pos) (pins:List (Addr×Obj)) (s:Shared) (σ:St) (H:Hp) (Q:List V->Hp->Prop),Inv X pins σ H s->t σ H Q->wpAny (model X.prog X.w) X.A (spliced (backTo pos (starEach es X.env))) (AP X pins σ Q) X.xe s
def PS(X:Cx)(st:Stmt)(t:TS):Prop :=
 ∀ (pins:List (Addr×Obj)) (s:Shared) (σ:St) (H:Hp) (D:Qf),Inv X pins σ H s->t D σ H->wpAny (model X.prog X.w) X.A (exec st X.env) (SP X pins D) X.xe s
def PSs(X:Cx)(st:List Stmt)(t:TS):Prop :=
 ∀ (pins:List (Addr×Obj)) (s:Shared) (σ:St) (H:Hp) (D:Qf),Inv X pins σ H s->t D σ H->wpAny (model X.prog X.w) X.A (execs st X.env) (SP X pins D) X.xe s
theorem thn(h:wpAny M A t Q E s)(hQ:∀ a s,Q a s->Q' a s):wpAny M A t Q' E s:=wpAny_mono h hQ fun _ _ x=>x
section
variable{X:Cx}
inductive tVar(i:Nat)(σ:L2.St)(H:Hp)(Q:VK):Prop where
 | mk(v)(_:σ[i]?=some (some v))(_:Q v H)
def tC(v:V):TE:=fun _ H Q=>Q v H
theorem zdl(hN:X.N[i]?=some x)(hv:Vis X.env.scope x)(hd:(x == ("__debug__":Str))=false:=by decide)(hcd:(x == ("__classdict__":Str))=false:=by decide):PE X (.Name x pos) (tVar i):=by
 intro pins s σ H Q I h;obtain⟨v,e,h⟩:=h;obtain⟨m,hn,hl⟩:=I.loc;obtain⟨u,r,l⟩:=hl i x v hN (.inl e) hv;have fin:EP X pins σ Q u s:=⟨v,H,I,r,h⟩;rcases l with ⟨hk,hm⟩|⟨hk,c,hc,hcell⟩
 ·exact wpAny_Name (wpAny_loadName_local I.ok.kind hk hn hm fin) hd
 ·rcases hk with hk|hk
  ·exact wpAny_Name (wpAny_loadName_cell I.ok.kind hk hc hcell fin) hd
  ·exact wpAny_Name (wpAny_loadName_free I.ok.kind hk hc hcell fin hcd) hd
theorem Zi{i j pos}:PE X (.Constant (.int i) j pos) (tC (.int i)):=fun _ _ _ H _ I h=>wpAny_Constant_int ⟨.int i,H,I.tok _,⟨_,rfl⟩,h⟩
theorem Vq{b j pos}:PE X (.Constant (.bool b) j pos) (tC (.bl b)):=fun _ _ _ H _ I h=>Constant_bool ⟨.bl b,H,I,rfl,h⟩
theorem Xw{j pos}:PE X (.Constant .none j pos) (tC .non):=fun _ _ _ H _ I h=>Constant_none ⟨.non,H,I,rfl,h⟩
theorem Zl{x j pos}:PE X (.Constant (.str x) j pos) (tC (.str x)):=fun _ _ _ H _ I h=>Calls.Constant_str ⟨.str x,H,I.tok _,⟨_,rfl⟩,h⟩
def Gl(X:Cx)(x:Str):Prop:=X.env.kindOf x=some .globalImplicit
theorem V0(I:Inv X pins σ H s)(hg:Gl X x)(hm:X.mg x=some u)(h:Q u s)
  (hd:(x == ("__debug__":Str))=false:=by decide):wpAny (model X.prog X.w) X.A (eval (.Name x pos) X.env) Q E s :=
 Calls.Name_function_global I.ok.kind hg (Calls.loadGlobal_global (by rw[I.ok.glob];exact I.mod.glob.keeps I.bk) hm h) hd
theorem Qg(I:Inv X pins σ H s)(hg:Gl X x)(hm:X.mg x=none)(hv:bootBuiltins x=some u)(h:Q u s)
  (hn:x≠"__name__":=by decide) (hd:(x == ("__debug__":Str))=false:=by decide):wpAny (model X.prog X.w) X.A (eval (.Name x pos) X.env) Q E s:=by
 obtain⟨mb,h1,h2⟩:=I.mod.blt;exact Calls.Name_function_global I.ok.kind hg (Calls.loadGlobal_builtin (by rw[I.ok.glob];exact I.mod.glob.keeps I.bk) hm (by rw[I.ok.blt];exact h1.keeps I.bk) ((h2 x hn).trans hv) h) hd
theorem Dl(hg:Gl X x)(hm:X.mg x=some u)(r:RelV v u)(hd:(x == ("__debug__":Str))=false:=by decide):PE X (.Name x pos) (tC v) :=
 fun _ _ _ H _ I h=>V0 I hg hm ⟨v,H,I,r,h⟩ hd
theorem Uz(hg:Gl X x)(hm:X.mg x=none)(hv:bootBuiltins x=some u)(r:RelV v u)(hn:x≠"__name__":=by decide)(hd:(x == ("__debug__":Str))=false:=by decide):PE X (.Name x pos) (tC v) :=
 fun _ _ _ H _ I h=>Qg I hg hm hv ⟨v,H,I,r,h⟩ hn hd
variable{a b:Expr}{ta tb:TE}{pos:Pos}
def PC(X:Cx)(op:CmpOp)(a b:Expr)(t:TE):Prop :=
 ∀ (pins:List (Addr×Obj)) (s:Shared) (σ:St) (H:Hp) (Q:VK),Inv X pins σ H s->t σ H Q ->
   wpAny (model X.prog X.w) X.A (eval a X.env) (fun v s₁=>wpAny (model X.prog X.w) X.A (eval b X.env) (fun u s₂=>wpAny (model X.prog X.w) X.A (compareOp op v u) (EP X pins σ Q) X.xe s₂) X.xe s₁) X.xe s
inductive tBI(Q:Bool->Hp->Prop)(x:V)(H1:Hp):Prop where
 | mk(c)(_:x=.bl c)(_:Q c H1)
def tB(t:TE):TT:=fun σ H Q=>t σ H fun x H1=>tBI Q x H1
theorem zdm(h:PC X op a b t)(h1:behindInMarks op b=false:=by first|exact nobehind _ ⋯ ⋯|rfl):PE X (.Compare a [op] [b] pos) t:=fun pins s σ H Q I hw=>wpAny_Compare1 (h pins s σ H Q I hw) h1
theorem Qh(h:PC X op a b t)(h1:behindInMarks op b=false:=by first|exact nobehind _ ⋯ ⋯|rfl):PT X (.Compare a [op] [b] pos) (tB t):=by
 intro pins s σ H Q I hw;refine wpAny_isTrue_Compare1 (thn (h pins s σ H _ I hw) fun v s1 h1=>thn h1 fun u s2 h2=>thn h2 fun c s3 ⟨x,H1,I1,r1,q1⟩=>?_) h1;obtain⟨d,rfl,q⟩:=q1;cases r1;exact wpAny_truthy_bool ⟨H1,I1,q⟩
theorem Vg(h:PE X e t)(he:∀ whole,isTrue e X.env whole=(do let v <- whole;standAt e.pos;holding [v] (truthy v)):=by intro _;rfl):PT X e (tB t):=by
 intro pins s σ H Q I hw;refine isTrue_plain (thn (h pins s σ H _ I hw) fun v s1 ⟨x,H1,I1,r1,q1⟩=>?_) (he _);obtain⟨d,rfl,q⟩:=q1;cases r1;exact wpAny_truthy_bool ⟨H1,I1,q⟩
variable{tA tB':TT}{rest:List Expr}
def zgq(t u:TT):TT:=fun σ H Q=>t σ H fun c H1=>if c=true then u σ H1 Q else Q false H1
def tOr(t u:TT):TT:=fun σ H Q=>t σ H fun c H1=>if c=true then Q true H1 else u σ H1 Q
def zgr(t:TT):TT:=fun σ H Q=>t σ H fun c H1=>Q (!c) H1
theorem Pc(ha:PT X a tA):PW X (.BoolOp .And [a] pos) tA:=by
 intro wh pins s σ H Q I h;refine isTrue_and (thn (ha pins s σ H Q I h) fun c s1 e=>?_);cases c with
 | true=>exact isTrue_and_nil e
 | false=>exact e
theorem Vu(ha:PT X a tA):PW X (.BoolOp .Or [a] pos) tA:=by
 intro wh pins s σ H Q I h;refine isTrue_or (thn (ha pins s σ H Q I h) fun c s1 e=>?_);cases c with
 | false=>exact isTrue_or_nil e
 | true=>exact e
theorem Mj(ha:PT X a tA)(hb:PW X (.BoolOp .And (b :: rest) pos) tB'):PW X (.BoolOp .And (a :: b :: rest) pos) (zgq tA tB'):=by
 intro wh pins s σ H Q I h;refine isTrue_and (thn (ha pins s σ H _ I h) fun c s1 ⟨H1,I1,q1⟩=>?_);cases c with
 | true=>exact hb wh pins s1 σ H1 Q I1 q1
 | false=>exact⟨H1,I1,q1⟩
theorem Tn(ha:PT X a tA)(hb:PW X (.BoolOp .Or (b :: rest) pos) tB'):PW X (.BoolOp .Or (a :: b :: rest) pos) (tOr tA tB'):=by
 intro wh pins s σ H Q I h;refine isTrue_or (thn (ha pins s σ H _ I h) fun c s1 ⟨H1,I1,q1⟩=>?_);cases c with
 | true=>exact⟨H1,I1,q1⟩
 | false=>exact hb wh pins s1 σ H1 Q I1 q1
theorem Ud(ha:PT X a tA):PT X (.UnaryOp .Not a pos) (zgr tA):=by
 intro pins s σ H Q I h;exact isTrue_not (ha pins s σ H (fun c H1=>Q (!c) H1) I h)
inductive zdn(tb:TE)(σ:L2.St)(Q:VK)(x:V)(H1:Hp):Prop where
 | mk(c)(_:x=.bl c)(_:if c=true then tb σ H1 Q else Q (.bl false) H1)
def ze8(ta tb:TE):TE:=fun σ H Q=>ta σ H fun x H1=>zdn tb σ Q x H1
inductive zdo(Q:VK)(x:V)(H1:Hp):Prop where
 | mk(c)(_:x=.bl c)(_:Q (.bl (!c)) H1)
def ze9(ta:TE):TE:=fun σ H Q=>ta σ H fun x H1=>zdo Q x H1
theorem Ml{op}(h:PE X a t):PE X (.BoolOp op [a] pos) t:=fun pins s σ H Q I hw=>BoolOp_one (h pins s σ H Q I hw)
theorem P6(ha:PE X a ta)(hb:PE X (.BoolOp .And (b :: rest) pos) tb):PE X (.BoolOp .And (a :: b :: rest) pos) (ze8 ta tb):=by
 intro pins s σ H Q I h;refine BoolOp_and (thn (ha pins s σ H _ I h) fun v s1 ⟨x,H1,I1,r1,q1⟩=>?_);obtain⟨c,rfl,q1⟩:=q1;cases r1;refine wpAny_truthy_bool ?_;cases c with
 | true=>exact hb pins s1 σ H1 Q I1 q1
 | false=>exact⟨.bl false,H1,I1,rfl,q1⟩
theorem zdp(ha:PE X a ta):PE X (.UnaryOp .Not a pos) (ze9 ta):=by
 intro pins s σ H Q I h;refine UnaryOp_ (thn (ha pins s σ H _ I h) fun v s1 ⟨x,H1,I1,r1,q1⟩=>?_);obtain⟨c,rfl,q1⟩:=q1;cases r1;exact not_of (wpAny_truthy_bool ⟨.bl (!c),H1,I1,rfl,q1⟩)
def tIf(t:TT)(ta tb:TE):TE:=fun σ H Q=>t σ H fun c H1=>if c=true then ta σ H1 Q else tb σ H1 Q
theorem Gi(hc:PT X c tA)(ha:PE X a ta)(hb:PE X b tb):PE X (.IfExp c a b pos) (tIf tA ta tb):=by
 intro pins s σ H Q I h;refine wpAny_IfExp (thn (hc pins s σ H _ I h) fun d s1 ⟨H1,I1,q1⟩=>?_);cases d with
 | true=>exact ha pins s1 σ H1 Q I1 q1
 | false=>exact hb pins s1 σ H1 Q I1 q1
end
def SqL(K:Frag)(H:Hp)(a:Addr)(xs:List V):Prop :=
 Rd H a (.lst xs) \/
  ∃ (o:Obj) (its:Array Value) (n:Nat),K.lookup a=some o/\o.cls=.type "list"/\o.dict=none/\o.data=.seq its n/\its.size<=sizeLine/\Vals xs its.toList
def SqT(K:Frag)(H:Hp)(a:Addr)(xs:List V):Prop :=
 Rd H a (.tup xs) \/
  ∃ (o:Obj) (its:Array Value) (n:Nat),K.lookup a=some o/\o.cls=.type "tuple"/\o.data=.seq its n/\its.size<=sizeLine/\Vals xs its.toList
def zgs:Value->Option V
 | .none=>some .non
 | .bool b=>some (.bl b)
 | .int i _=>some (.int i)
 | .str x _=>some (.str x)
 | .bytes b _=>some (.byt b)
 | .float b _=>some (.flt b)
 | .ref a=>some (.ref a)
 | .type n=>some (.ty n)
 | _=>none
theorem RelV.abs(r:RelV x u):zgs u=some x:=by
 cases x with
 | non=>cases r;rfl
 | bl _=>cases r;rfl
 | int _=>obtain⟨t,rfl⟩:=r;rfl
 | str _=>obtain⟨t,rfl⟩:=r;rfl
 | byt _=>obtain⟨t,rfl⟩:=r;rfl
 | flt _=>obtain⟨t,rfl⟩:=r;rfl
 | ref _=>cases r;rfl
 | ty _=>cases r;rfl
theorem RelV.inj(r:RelV x u)(q:RelV y u):x=y:=Option.some.inj (r.abs.symm.trans q.abs)
theorem Vals.inj:∀ {xs ys:List V} {us:List Value},Vals xs us->Vals ys us->xs=ys
 | _,_,_,.nil,.nil=>rfl
 | _,_,_,.cons r t,.cons r' t'=>by rw[r.inj r',Vals.inj t t']
section
variable{X:Cx}{pins:List (Addr×Obj)}{σ:St}{H:Hp}{s:Shared}{a:Addr}{xs ys:List V}
theorem SqL.of{K:Frag}(h:H a=some (.lst xs)):SqL K H a xs:=.inl (.inl h)
theorem SqT.of{K:Frag}(h:H a=some (.tup xs)):SqT K H a xs:=.inl (.inl h)
theorem Inv.list(I:Inv X pins σ H s)(h:SqL X.K H a xs):∃ its:List Value,Vals xs its/\PlainL s.heap a its.toArray/\xs.length<=sizeLine:=by
 rcases h with h|⟨o,its,n,hk,hc,hd,hs,hz,r⟩
 ·obtain⟨z,its,n,r,e⟩:=h.ok I.hok;exact⟨its,r,⟨_,n,e,rfl,rfl,rfl⟩,z⟩
 ·refine⟨its.toList,r,⟨o,n,I.kIn a o hk,hc,hd,by simpa using hs⟩,?_⟩;have e:=r.length;simp only[Array.length_toList] at e;omega
theorem Inv.tuple(I:Inv X pins σ H s)(h:SqT X.K H a xs):∃ its:List Value,Vals xs its/\IsTup s.heap a its.toArray/\xs.length<=sizeLine:=by
 rcases h with h|⟨o,its,n,hk,hc,hs,hz,r⟩
 ·obtain⟨z,its,r,p⟩:=h.ok I.hok;exact⟨its,r,p,z⟩
 ·refine⟨its.toList,r,⟨o,I.kIn a o hk,hc,n,by simpa using hs⟩,?_⟩;have e:=r.length;simp only[Array.length_toList] at e;omega
theorem Inv.list_inj(I:Inv X pins σ H s)(h:SqL X.K H a xs)(h':SqL X.K H a ys):xs=ys:=by
 obtain⟨its,r,⟨o,n,e,_,_,d⟩,_⟩:=I.list h;obtain⟨its',r',⟨o',n',e',_,_,d'⟩,_⟩:=I.list h';rw[e] at e';cases e';rw[d] at d';injection d' with d1 _;have:its=its':=by simpa using congrArg Array.toList d1
 subst this;exact r.inj r'
theorem Inv.tuple_inj(I:Inv X pins σ H s)(h:SqT X.K H a xs)(h':SqT X.K H a ys):xs=ys:=by
 obtain⟨its,r,⟨o,e,_,n,d⟩,_⟩:=I.tuple h;obtain⟨its',r',⟨o',e',_,n',d'⟩,_⟩:=I.tuple h';rw[e] at e';cases e';rw[d] at d';injection d' with d1 _;have:its=its':=by simpa using congrArg Array.toList d1
 subst this;exact r.inj r'
end
section
variable{X:Cx}{st:Stmt}{rest:List Stmt}{t u:TS}{e:Expr}{te:TE}{pos:Pos}
def Aa:TS:=fun D σ H=>D.nx σ H
def Z1(t u:TS):TS:=fun D σ H=>t { D with nx:=u D } σ H
theorem Zq:PSs X [] Aa:=fun _ _ σ H _ I h=>wpAny_execs_nil ⟨σ,H,I,h⟩
theorem Zc(h1:PS X st t)(h2:PSs X rest u):PSs X (st :: rest) (Z1 t u):=by
 intro pins s σ H D I h;refine wpAny_execs_cons (thn (h1 pins s σ H { D with nx:=u D } I h) fun f s1 q=>?_);cases f with
 | next =>
   obtain⟨σ',H',I',q⟩:=q;exact h2 pins s1 σ' H' D I' q
 | ret v=>exact q
 | brk=>exact q
 | cont=>exact q
theorem Ze(h1:PS X st t):PSs X [st] t:=by
 intro pins s σ H D I h;refine wpAny_execs_cons (thn (h1 pins s σ H D I h) fun f s1 q=>?_);cases f with
 | next=>exact wpAny_execs_nil q
 | ret v=>exact q
 | brk=>exact q
 | cont=>exact q
theorem Inv.quiet(I:Inv X pins σ H s):interactive X.env=false:=by simp[interactive,I.ok.kind]
def zfa(te:TE):TS:=fun D σ H=>te σ H fun _ H1=>D.nx σ H1
theorem Zy(he:PE X e te)(hs:swapsWith e none pos.line X.env=pure false:=by rfl):PS X (.Expr e pos) (zfa te):=by
 intro pins s σ H D I h;exact wpAny_Expr_any (thn (he pins s σ H _ I h) fun v s1 ⟨x,H1,I1,r1,q1⟩=>⟨σ,H1,I1,q1⟩) I.quiet hs
def zgt(te:TE):TS:=fun D σ H=>te σ H D.rt
theorem Zo(he:PE X e te):PS X (.Return (some e) pos) (zgt te):=by
 intro pins s σ H D I h;exact wpAny_Return_some (thn (he pins s σ H _ I h) fun v s1 ⟨x,H1,I1,r1,q1⟩=>⟨x,σ,H1,I1,r1,q1⟩)
def Ec(c:TT)(t u:TS):TS:=fun D σ H=>c σ H fun b H1=>if b=true then t D σ H1 else u D σ H1
theorem Zz(hc:PT X c tc)(ha:PSs X a t)(hb:PSs X b u):PS X (.If c a b pos) (Ec tc t u):=by
 intro pins s σ H D I h;refine wpAny_If (thn (hc pins s σ H _ I h) fun d s1 ⟨H1,I1,q1⟩=>?_);cases d with
 | true=>exact ha pins s1 σ H1 D I1 q1
 | false=>exact hb pins s1 σ H1 D I1 q1
end
abbrev TG:=V->St->Hp->(St->Hp->Prop)->Prop
abbrev TGs:=List V->St->Hp->(St->Hp->Prop)->Prop
def PG(X:Cx)(target:Expr)(t:TG):Prop :=
 ∀ (pins:List (Addr×Obj)) (s:Shared) (σ:St) (H:Hp) (v:V) (u:Value) (Q:St->Hp->Prop),Inv X pins σ H s->RelV v u->t v σ H Q ->
   wpAny (model X.prog X.w) X.A (assign target X.env u) (fun _ s'=>∃ σ' H',Inv X pins σ' H' s'/\Q σ' H') X.xe s
def PGs(X:Cx)(ts:List Expr)(t:TGs):Prop :=
 ∀ (pins:List (Addr×Obj)) (s:Shared) (σ:St) (H:Hp) (vs:List V) (us:List Value) (Q:St->Hp->Prop),Inv X pins σ H s->Vals vs us->t vs σ H Q ->
   wpAny (model X.prog X.w) X.A (assignInOrder ((assignEach ts X.env).map (·.2)) us) (fun _ s'=>∃ σ' H',Inv X pins σ' H' s'/\Q σ' H') X.xe s
abbrev zfb:=V->V->V->Hp->(Hp->Prop)->Prop
def zfc(X:Cx)(t:zfb):Prop :=
 ∀ (pins:List (Addr×Obj)) (s:Shared) (σ:St) (H:Hp) (o i v:V) (ov iv u:Value) (Q:Hp->Prop),Inv X pins σ H s->RelV o ov->RelV i iv->RelV v u->t o i v H Q ->
   wpAny (model X.prog X.w) X.A (setItem ov iv u) (fun _ s'=>∃ H',Inv X pins σ H' s'/\Q H') X.xe s
section
variable{X:Cx}{pos:Pos}
def Ve(i:Nat):TG:=fun v σ H Q=>Q (σ.set i (some v)) H
theorem V1(hN:X.N.Nodup)(hi:X.N[i]?=some x)(hx:Loc X.env.scope x)(hf:Eb X i x:=by first|exact⟨.inl rfl,Xn⟩|exact⟨.inr rfl,Xn⟩|assumption|exact⟨.inl rfl,by assumption⟩|exact⟨.inr rfl,by assumption⟩):PG X (.Name x pos) (Ve i):=by
 intro pins s σ H v u Q I r h;exact wpAny_assign_Name (Mi I hN hi hx r (fun s' I'=>⟨_,H,I',h⟩) hf)
def zgu:TGs:=fun vs σ H Q=>vs=[]/\Q σ H
def zfd(t:TG)(u:TGs):TGs:=fun vs σ H Q=>∃ v r,vs=v :: r/\t v σ H fun σ' H'=>u r σ' H' Q
theorem V2:PGs X [] zgu:=by
 intro pins s σ H vs us Q I r h;obtain⟨e,h⟩:=h;subst e;cases r;exact assignInOrder_nil ⟨σ,H,I,h⟩
theorem Z8(h1:PG X e t)(h2:PGs X es u)
  (hs:(assignEach (e :: es) X.env).map (·.2)=assign e X.env :: (assignEach es X.env).map (·.2):=by rfl):PGs X (e :: es) (zfd t u):=by
 intro pins s σ H vs us Q I r h;obtain⟨v,vr,e1,h⟩:=h;subst e1;cases r with
 | cons r rr =>
   rw[hs];refine assignInOrder_cons (thn (h1 pins s σ H _ _ _ I r h) fun _ s1 ⟨σ1,H1,I1,q1⟩=>?_);exact h2 pins s1 σ1 H1 _ _ Q I1 rr q1
def zfe(K:Frag)(n:Nat)(t:TGs):TG:=fun v σ H Q=>∃ a xs,v=.ref a/\SqT K H a xs/\xs.length=n/\t xs σ H Q
theorem zdq(hc:X.calm=true)(h:PGs X es t)
  (hn:(assignEach es X.env).length=n:=by rfl) (hst:(assignEach es X.env).findIdx? (·.1)=none:=by rfl):PG X (.Tuple es k pos) (zfe X.K n t):=by
 intro pins s σ H v u Q I r hw;obtain⟨a,xs,e1,hq,hl,hw⟩:=hw;subst e1;cases r;obtain⟨its,rv,ht,hz⟩:=I.tuple hq;refine assign_Tuple_tuple (I.ok.hd hc) ht (by simp[hn,<- hl,rv.length]) hst fun h' hx=>?_;have I1:Inv X pins σ H { s with heap:=h' }:=I.kept (t':=s.toks) fun b o e=>hx b o (zqu (Heap.lt_size e)) e;exact h pins _ σ H xs _ Q I1 (by simpa using rv) hw
def zgv(to ti:TE)(t:zfb):TG:=fun v σ H Q=>to σ H fun o H1=>ti σ H1 fun i H2=>t o i v H2 fun H3=>Q σ H3
theorem zdr(ho:PE X o to)(hi:PE X i ti)(hs:zfc X t)
  (ha:∀ v,assign (.Subscript o i pos) X.env v=(do
   let ov <- holding [v] (eval o X.env)
   let iv <- holding [v,ov] (eval i X.env)
   standAt pos
   holding [v,ov,iv] (setItem ov iv v)
   release [v,ov,iv] []):=by intro _;rfl):PG X (.Subscript o i pos) (zgv to ti t):=by
 intro pins s σ H v u Q I r h;rw[ha];refine wpAny_bind (wpAny_holding (thn (ho pins s σ H _ I h) fun ov s1 ⟨x,H1,I1,r1,q1⟩=>?_));refine wpAny_bind (wpAny_holding (thn (hi pins s1 σ H1 _ I1 q1) fun iv s2 ⟨y,H2,I2,r2,q2⟩=>?_));refine wpAny_bind (wpAny_standAt (wpAny_bind (wpAny_holding (thn (hs pins s2 σ H2 x y v ov iv u _ I2 r1 r2 r q2) fun _ s3 ⟨H3,I3,q3⟩=>?_))));exact wpAny_release ⟨σ,H3,I3,q3⟩
def Ct(te:TE)(g:TG):TS:=fun D σ H=>te σ H fun x H1=>g x σ H1 D.nx
theorem Ab(he:PE X e te)(hg:PG X tg g)(hs:swapsWithSole [tg] e pos.line X.env=pure false:=by rfl)(hw:swappedStores [tg] e X.env=pure none:=by rfl)
  (h1:(assignEach [tg] X.env).map (·.2)=[assign tg X.env]:=by rfl):PS X (.Assign [tg] e pos) (Ct te g):=by
 intro pins s σ H D I h;refine wpAny_Assign_stores (thn (he pins s σ H _ I h) fun v s1 ⟨x,H1,I1,r1,q1⟩=>?_) hs hw;rw[h1];exact thn (hg pins s1 σ H1 x v _ I1 r1 q1) fun _ s2 q=>q
theorem zds(hN:X.N.Nodup)(hi:X.N[i]?=some x)(hx:Loc X.env.scope x)(he:PE X e te)(hs:swapsWith e (some (.Name x pos')) pos.line X.env=pure false:=by rfl)(hf:Eb X i x:=by first|exact⟨.inl rfl,Xn⟩|exact⟨.inr rfl,Xn⟩|assumption|exact⟨.inl rfl,by assumption⟩|exact⟨.inr rfl,by assumption⟩) :
  PS X (.Assign [.Name x pos'] e pos) (Ct te (Ve i)):=by
 intro pins s σ H D I h;refine wpAny_Assign_Name (thn (he pins s σ H _ I h) fun v s1 ⟨y,H1,I1,r1,q1⟩=>?_) hs;exact Mi I1 hN hi hx r1 (fun s2 I2=>⟨_,H1,I2,q1⟩) hf
end
section
variable{X:Cx}{pos:Pos}
def Ac(c:TT)(tb:TS):TS:=fun D σ H=>∃ W:Nat->St->Hp->Prop,(∃ m,W m σ H)/\∀ m σ H,W m σ H ->
 c σ H fun b H1=>if b=true then ∃ N:St->Hp->Prop,(∀ σ' H',N σ' H'->∃ m',m' < m/\W m' σ' H')/\tb { D with nx:=N,ct:=N,bk:=D.nx } σ H1 else D.nx σ H1
theorem Gj(hp:PassesOwn (model X.prog X.w) X.A X.env X.xe)(hc:PT X c tc)(hb:PSs X body tb):PS X (.While c body [] pos) (Ac tc tb):=by
 intro pins s σ H D I h;obtain⟨W,⟨m0,w0⟩,turn⟩:=h;refine wpAny_While (codeAny_whileLoop (fun n s'=>∃ σ' H',Inv X pins σ' H' s'/\W n σ' H') ?_ m0 ⟨σ,H,I,w0⟩);rintro n s1 ⟨σ1,H1,I1,w1⟩;refine wpAny_passesOwn hp (thn (hc pins s1 σ1 H1 _ I1 (turn n σ1 H1 w1)) fun b s2 ⟨H2,I2,q2⟩=>?_);cases b with
 | true =>
   obtain⟨N,hN,q2⟩:=q2;rw[if_pos rfl];refine wpAny_passesOwn hp (thn (hb pins s2 σ1 H2 _ I2 q2) fun f s3 q3=>?_);cases f with
   | next =>
     obtain⟨σ3,H3,I3,n3⟩:=q3;obtain⟨m',hm,w3⟩:=hN σ3 H3 n3;exact⟨m',hm,σ3,H3,I3,w3⟩
   | cont =>
     obtain⟨σ3,H3,I3,n3⟩:=q3;obtain⟨m',hm,w3⟩:=hN σ3 H3 n3;exact⟨m',hm,σ3,H3,I3,w3⟩
   | brk=>exact q3
   | ret v=>exact q3
 | false =>
   rw[if_neg zqj];exact wpAny_execs_nil ⟨σ1,H2,I2,q2⟩
end
structure It where
 go:Nat->Hp->Prop
 yld:Nat->Hp->V->Hp->Prop
 stop:Nat->Hp->Prop
def FpOk(X:Cx)(pins:List (Addr×Obj))(H:Hp)(b:Addr):Prop :=
 H b=none/\b≠X.env.locals/\b∉X.fs/\(b∈X.ex\/X.s₀.heap.objs.size<=b)/\(∀ x c,X.env.cells.lookup x=some c->c≠b)/\∀ p∈X.pn++pins,p.1≠b
theorem Inv.fpOk(I:Inv X pins σ H s)(hb:s.heap.objs.size<=b)(hn:H' b=none):FpOk X pins H' b:=by
 refine⟨hn,Nat.ne_of_gt (zqk I.lt hb),I.nofs hb,.inr (zqr I.sz hb),fun x c e z=>?_,fun p hp z=>?_⟩
 ·obtain⟨v,q⟩:=I.cell x c e;exact absurd (zqk q.lt (by rw[z];exact hb)) (zrh _)
 ·exact absurd (zqk (Heap.lt_size (I.pin p hp).1) (by rw[z];exact hb)) (zrh _)
structure Gk(P:Program)(w:World)(K:Frag)(tg:Expr)(J:It)(fp:List Addr)(it:Addr)(tn:Nat->Heap->Prop):Prop where
 mem:it∈fp
 obj:∀ i h,tn i h->∀ b∈fp,∃ o,h.get? b=some o/\∀ v,o.data≠.cell v
 keep:∀ i h h',tn i h->(∀ b∈fp,∀ o,h.get? b=some o->h'.get? b=some o)->tn i h'
 item:∀ (X:Cx),X.prog=P->X.w=w->X.K=K->X.calm=true->∀ (i:Nat) (pins:List (Addr×Obj)) (s:Shared) (σ:St) (H:Hp) (E:Value->Shared->Prop),Inv X pins σ H s->(∀ b∈fp,FpOk X pins H b)->tn i s.heap->J.go i H ->
  wpAny (model P w) X.A (pyNext (.ref it)) (fun r s1=>∃ u,r=some u /\
   wpAny (model P w) X.A (letOwnedTupleGo tg (.ref it) u) (fun _ s2=>∃ x H',Inv X pins σ H' s2/\RelV x u/\J.yld i H x H'/\tn (i+1) s2.heap/\∀ b∈fp,H' b=none) E s1) E s
 done:∀ (X:Cx),X.prog=P->X.w=w->X.K=K->X.calm=true->∀ (i:Nat) (pins:List (Addr×Obj)) (s:Shared) (σ:St) (H:Hp) (E:Value->Shared->Prop),Inv X pins σ H s->(∀ b∈fp,FpOk X pins H b)->tn i s.heap->J.stop i H ->
  wpAny (model P w) X.A (pyNext (.ref it)) (fun r s1=>r=none/\Inv X pins σ H s1) E s
 self:∀ (A:Around) (i:Nat) (s:Shared) (Q:Value->Shared->Prop) (E:Value->Shared->Prop),tn i s.heap->Q (.ref it) s->wpAny (model P w) A (pyIter (.ref it)) Q E s
abbrev TI:=St->Hp->(It->Hp->Prop)->Prop
def PIE(X:Cx)(pins:List (Addr×Obj))(σ:St)(tg:Expr)(R:It->Hp->Prop)(itv:Value)(s2:Shared):Prop :=
 ∃ (it:Addr) (fp:List Addr) (tn:Nat->Heap->Prop) (J:It) (H':Hp),itv=.ref it/\Inv X pins σ H' s2/\Gk X.prog X.w X.K tg J fp it tn/\tn 0 s2.heap/\(∀ b∈fp,FpOk X pins H' b)/\R J H'
def PI(X:Cx)(tg iter:Expr)(wi:TI):Prop :=
 ∀ (pins:List (Addr×Obj)) (s:Shared) (σ:St) (H:Hp) (R:It->Hp->Prop),Inv X pins σ H s->wi σ H R ->
   wpAny (model X.prog X.w) X.A (eval iter X.env) (fun v s1=>wpAny (model X.prog X.w) X.A (pyIter v) (PIE X pins σ tg R) X.xe s1) X.xe s
theorem Ae(ho:s.heap.get? it=some o)(hc:o.cls=.type n)(hd:o.data=.fields vs)
  (hn:["enumerate","zip","dict_itemiterator","dict_reverseitemiterator","odict_iterator","itertools.zip_longest","itertools.pairwise"].contains n=false) (hQ:Q () s):wpAny M A (letOwnedTupleGo tg (.ref it) u) Q E s:=by
 unfold letOwnedTupleGo;cases tg<;>first
  | exact wpAny_pure hQ
  | (cases u<;>first
    | exact wpAny_pure hQ
    | (refine wpAny_bind (wpAny_load ho ?_)
       rw[hc,hd];show wpAny M A (if (["enumerate","zip","dict_itemiterator","dict_reverseitemiterator","odict_iterator","itertools.zip_longest","itertools.pairwise"].contains n&&vs[0]? == some (rawInt _))=true then _ else _) Q E s;rw[if_neg (by intro h;rw[hn,Bool.false_and] at h;cases h)];exact wpAny_pure hQ))
def Itl(K:Frag)(a:Addr):It :=
 ⟨fun i H=>∃ xs x,SqL K H a xs/\xs[i]?=some x,fun i H x H'=>H'=H/\∀ xs,SqL K H a xs->xs[i]?=some x,fun i H=>∃ xs,SqL K H a xs/\xs.length<=i⟩
def Itr(lo:Int)(n:Nat):It:=⟨fun i _=>i<n,fun i H x H'=>H'=H/\x=.int (lo+i),fun i _=>n<=i⟩
theorem Cu{P:Program}{w:World}{K:Frag}{tg:Expr}(a it:Addr):Gk P w K tg (Itl K a) [it] it (fun i h=>h.IsListIter it a i) where
 mem:=by simp
 obj:=fun i h st b hb=>by
  have e:b=it:=by simpa using hb
  subst e;obtain⟨o,e,c,d⟩:=st;exact⟨o,e,fun v z=>by rw[d] at z;cases z⟩
 keep:=fun i h h' st k=>st.at fun o e=>k it (by simp) o e
 item:=by
  intro X hP hw hK hc i pins s σ H E I hf st hg;subst hP hw hK;obtain⟨xs,x,hq,hx⟩:=hg;obtain⟨its,rv,p,hz⟩:=I.list hq;obtain⟨u,hu,ru⟩:=rv.get hx;obtain⟨f0,f1,f2,f3,f4,f5⟩:=hf it (by simp);refine wpAny_pyNext_list_item st p.isList (x:=u) (by simpa using hu) fun h' st' sb=>?_;have I1:Inv X pins σ H { s with heap:=h' }:=I.turned (t':=s.toks) (fun b o hb e=>(sb.2 b hb).trans e) f0 f1 f3 f4 f5;obtain⟨o,e,c,d⟩:=id st';exact⟨u,rfl,Ae (s:={ s with heap:=h' }) e c d ⋯ ⟨x,H,I1,ru,⟨rfl,fun ys hy=>by rw[I.list_inj hy hq];exact hx⟩,st',fun b hb=>(hf b hb).1⟩⟩
 done:=by
  intro X hP hw hK hc i pins s σ H E I hf st hg;subst hP hw hK;obtain⟨xs,hq,hx⟩:=hg;obtain⟨its,rv,p,hz⟩:=I.list hq;obtain⟨f0,f1,f2,f3,f4,f5⟩:=hf it (by simp);have hl:=rv.length;exact wpAny_pyNext_list_end (I.ok.hd hc) st p.isList (by simp;omega) fun h' eb=>⟨rfl,I.turned (t':=s.toks) (fun b o hb e=>eb b o hb e) f0 f1 f3 f4 f5⟩
 self:=fun _ _ _ _ _ st h=>wpAny_pyIter_listiter st h
theorem Ed{P:Program}{w:World}{K:Frag}{tg:Expr}(it:Addr)(lo:Int)(n:Nat):Gk P w K tg (Itr lo n) [it] it (fun i h=>IsRangeIter h it (lo+(i:Nat)*1) ((n:Int)-(i:Nat)) 1) where
 mem:=by simp
 obj:=fun i h st b hb=>by
  have e:b=it:=by simpa using hb
  subst e;exact⟨_,st,fun v z=>by
   have z':Data.fields _=Data.cell v:=z;cases z'⟩
 keep:=fun i h h' st k=>k it (by simp) _ st
 item:=by
  intro X hP hw hK hc i pins s σ H E I hf st hg;subst hP hw hK;obtain⟨f0,f1,f2,f3,f4,f5⟩:=hf it (by simp);have W:=Walks.range (prog:=X.prog) (w:=X.w) (I.ok.hd hc) it lo 1 n;refine W.item i s _ _ hg st fun v h' tk hv st' kk=>?_;obtain⟨t,rfl⟩:=hv;have I1:Inv X pins σ H { s with heap:=h',toks:=tk }:=I.turned (fun b o hb e=>kk b o (by simpa using hb) e) f0 f1 f3 f4 f5;refine⟨_,rfl,Ae (s:={ s with heap:=h',toks:=tk }) (n:="range_iterator") st' rfl rfl ⋯ ⟨.int (lo+i),H,I1,⟨t,?_⟩,⟨rfl,rfl⟩,st',fun b hb=>(hf b hb).1⟩⟩;rw[Int.mul_one]
 done:=by
  intro X hP hw hK hc i pins s σ H E I hf st hg;subst hP hw hK;obtain⟨f0,f1,f2,f3,f4,f5⟩:=hf it (by simp);exact wpAny_pyNext_range_end (I.ok.hd hc) st (by have:n<=i:=hg;omega) fun h' eb=>⟨rfl,I.turned (t':=s.toks) (fun b o hb e=>eb b o hb e) f0 f1 f3 f4 f5⟩
 self:=fun _ _ _ _ _ st h=>wpAny_pyIter_rangeiter st h
section
variable{X:Cx}{tg:Expr}
inductive zdt(K:Frag)(R:It->Hp->Prop)(x:V)(H1:Hp):Prop where
 | mk(a)(_:x=.ref a)(_:(∃ xs,SqL K H1 a xs))(_:R (Itl K a) H1)
def zc1(K:Frag)(tl:TE):TI:=fun σ H R=>tl σ H fun x H1=>zdt K R x H1
theorem zbq{l:Expr}{tl:TE}(hl:PE X l tl):PI X tg l (zc1 X.K tl):=by
 intro pins s σ H R I h;refine thn (hl pins s σ H _ I h) fun v s1 ⟨x,H1,I1,r1,q1⟩=>?_;obtain⟨a,e,⟨xs,hq⟩,q⟩:=q1;subst e;cases r1;obtain⟨its,rv,p,hz⟩:=I1.list hq;refine wpAny_pyIter_list p.isList ?_;refine⟨s1.heap.objs.size,[s1.heap.objs.size],_,_,H1,rfl,I1.kept (t':=s1.toks) fun b o e=>Heap.get?_push_of_some _ e,Cu a _,⟨_,Heap.get?_push_size _ rfl,rfl,rfl⟩,fun b hb=>?_,q⟩;have e:b=s1.heap.objs.size:=by simpa using hb
 subst e;exact I1.fpOk (zqa _) (I1.hok.fresh (zqa _))
theorem Gm{pins:List (Addr×Obj)}{σ:St}{H:Hp}{s:Shared}{R:It->Hp->Prop}{E:Value->Shared->Prop}{lo hi:Int}{t u v:Tok}{tk:Nat}(I:Inv X pins σ H s)(h1:-(2 ^ 62)<=lo)(h2:lo<2 ^ 62)(h3:-(2 ^ 62)<=hi)(h4:hi<2 ^ 62)
  (q:R (Itr lo (hi-lo).toNat) H):wpAny (model X.prog X.w) X.A (pyIter (.ref s.heap.objs.size)) (PIE X pins σ tg R) E { s with heap:=s.heap.push { cls:=.type "range",data:=.fields #[.int lo t,.int hi u,.int 1 v] },toks:=tk }:=by
 refine wpAny_pyIter_range (IsRange.new ..) (small_one h1 h2 h3 h4) ?_;have I1:Inv X pins σ H { s with heap:=s.heap.push { cls:=.type "range",data:=.fields #[.int lo t,.int hi u,.int 1 v] },toks:=tk }:=I.kept fun b o e=>Heap.get?_push_of_some _ e;refine⟨(s.heap.push { cls:=.type "range",data:=.fields #[.int lo t,.int hi u,.int 1 v] }).objs.size,[(s.heap.push { cls:=.type "range",data:=.fields #[.int lo t,.int hi u,.int 1 v] }).objs.size],_,_,H,rfl,
  I1.kept (t':=tk) fun b o e=>Heap.get?_push_of_some _ e,Ed _ lo (hi-lo).toNat,?_,fun b hb=>?_,q⟩
 ·have e1:lo+((0:Nat):Int)*1=lo:=by simp
  have e2:(((hi-lo).toNat:Nat):Int)-((0:Nat):Int)=Builtin.Range.rangeSize lo hi 1:=by rw[rangeSize_one];split<;>omega
  show IsRangeIter _ _ (lo+((0:Nat):Int)*1) ((((hi-lo).toNat:Nat):Int)-((0:Nat):Int)) 1;rw[e1,e2];exact Heap.get?_push_size _ rfl
 ·have e:b=(s.heap.push { cls:=.type "range",data:=.fields #[.int lo t,.int hi u,.int 1 v] }).objs.size:=by simpa using hb
  subst e;exact I1.fpOk (zqa _) (I1.hok.fresh (zqa _))
def zff(ta:TA):TI:=fun σ H R=>ta σ H fun vs H1=>∃ j:Int,vs=[.int j]/\-(2 ^ 62)<=j/\j<2 ^ 62/\R (Itr 0 j.toNat) H1
def zfg(ta:TA):TI:=fun σ H R=>ta σ H fun vs H1=>∃ i j:Int,vs=[.int i,.int j]/\(-(2 ^ 62)<=i/\i<2 ^ 62/\-(2 ^ 62)<=j/\j<2 ^ 62)/\R (Itr i (j-i).toNat) H1
theorem Ua{a:Expr}{ta:TA}{p pos:Pos}(hg:Gl X "range")(hm:X.mg "range"=none)(ha:PA X [a] ta)(hs:starEach [a] X.env=[(false,eval a X.env)]:=by rfl):PI X tg (.Call (.Name "range" p) [a] [] pos) (zff ta):=by
 intro pins s σ H R I h;refine Call_ (Qg I hg hm boot_range (PyProof.Rows.callWith_type1 (thn (ha pos pins s σ H _ I h) fun us s1 ⟨vs,H1,I1,r1,q1⟩=>?_) hs rfl));obtain⟨j,e,q1,q2,q⟩:=q1;subst e;cases r1 with
 | cons r rr =>
   cases rr;obtain⟨t,rfl⟩:=r;exact call_range_1 (Gm I1 ⋯ ⋯ q1 q2 (by simpa using q))
theorem Cv(hg:Gl X "range")(hm:X.mg "range"=none)(ha:PA X [a,b] ta)(hs:starEach [a,b] X.env=[(false,eval a X.env),(false,eval b X.env)]:=by rfl)(hs2:starEach [b] X.env=[(false,eval b X.env)]:=by rfl) :
  PI X tg (.Call (.Name "range" p) [a,b] [] pos) (zfg ta):=by
 intro pins s σ H R I h;refine Call_ (Qg I hg hm boot_range (PyProof.Rows.callWith_type1 (thn (ha pos pins s σ H _ I h) fun us s1 ⟨vs,H1,I1,r1,q1⟩=>?_) (by rw[hs,hs2]) (by rw[hs2];rfl)));obtain⟨i,j,e,⟨q1,q2,q3,q4⟩,q⟩:=q1;subst e;cases r1 with
 | cons r rr =>
   cases rr with
   | cons r' rr =>
     cases rr;obtain⟨t,rfl⟩:=r;obtain⟨t',rfl⟩:=r';exact call_range_2 (Gm I1 q1 q2 q3 q4 q)
def zdu(wi:TI)(g:TG)(tb:TS):TS:=fun D σ H=>wi σ H fun J H1=>∃ W:Nat->Nat->St->Hp->Prop,(∃ m,W 0 m σ H1)/\∀ i m σ H,W i m σ H ->
 (J.stop i H/\D.nx σ H)\/(J.go i H/\∃ N:St->Hp->Prop,(∀ σ' H',N σ' H'->∃ m',m' < m/\W (i+1) m' σ' H')/\∀ x H',J.yld i H x H'->g x σ H' fun σ2 H2=>tb { D with nx:=N,ct:=N,bk:=D.nx } σ2 H2)
def P7(fp:List Addr)(h:Heap):List (Addr×Obj):=fp.filterMap fun b=>(h.get? b).map fun o=>(b,o)
theorem T7(hb:b∈fp)(e:h.get? b=some o):(b,o)∈P7 fp h:=zrv.mpr ⟨b,hb,by rw[e];rfl⟩
theorem Cw(hp:p∈P7 fp h):p.1∈fp/\h.get? p.1=some p.2:=by
 obtain⟨b,hb,e⟩:=zrv.mp hp;cases q:h.get? b with
 | none=>rw[q] at e;cases e
 | some o =>
   rw[q] at e;have e':(b,o)=p:=Option.some.inj e;subst e';exact⟨hb,q⟩
theorem Inv.pinned(I:Inv X pins σ H s)(hf:∀ b∈fp,FpOk X pins H b)(ho:∀ b∈fp,∃ o,s.heap.get? b=some o/\∀ v,o.data≠.cell v):Inv X (pins++P7 fp s.heap) σ H s :=
 I.pins_of fun p hp=>(zqi.mp hp).elim (fun z=>I.pin p (zqq _ z)) fun z=>by
  obtain⟨hb,e⟩:=Cw z;obtain⟨f0,f1,f2,_⟩:=hf p.1 hb;obtain⟨o,e',d⟩:=ho p.1 hb;rw[e] at e';cases e';exact⟨e,f0,f1,f2,d⟩
theorem Inv.unpinned(I:Inv X (pins++pl) σ H s):Inv X pins σ H s:=I.pins_of fun p hp=>I.pin p (zqq _ (zqv _ hp))
theorem Wi(hp:PassesOwn (model X.prog X.w) X.A X.env X.xe)(hc:X.calm=true)(hi:PI X tg iter wi)(hg:PG X tg g)(hb:PSs X body tb)
  (hs:∀ x,foldedSetIterable iter X.env x=pure x:=by intro _;rfl):PS X (.For tg iter body [] pos) (zdu wi g tb):=by
 intro pins s σ H D I h;refine wpAny_For (thn (hi pins s σ H _ I h) fun v s1 h1=>thn h1 fun itv s2 h2=>?_) hs;obtain⟨it,fp,tn,J,H2,e,I2,T,st2,f2,W,⟨m0,w0⟩,turn⟩:=h2;subst e;have stat:∀ {H':Hp},(∀ b∈fp,H' b=none)->∀ b∈fp,FpOk X pins H' b:=fun hn b hb=>⟨hn b hb,(f2 b hb).2⟩
 refine codeAny_forLoop_any (fun n s'=>∃ i σ' H',Inv X pins σ' H' s'/\tn i s'.heap/\(∀ b∈fp,H' b=none)/\W i n σ' H') ?_ m0 ⟨0,σ,H2,I2,st2,fun b hb=>(f2 b hb).1,w0⟩;rintro n s3 ⟨i,σ3,H3,I3,st3,fr3,w3⟩;rcases turn i n σ3 H3 w3 with ⟨stop,qn⟩|⟨go,N,hN,step⟩
 ·refine wpAny_passesOwn hp (thn (T.done X rfl rfl rfl hc i pins s3 σ3 H3 X.xe I3 (stat fr3) st3 stop) fun r s4 ⟨hr,I4⟩=>?_);subst hr;exact wpAny_execs_nil ⟨σ3,H3,I4,qn⟩
 ·refine wpAny_passesOwn hp (thn (T.item X rfl rfl rfl hc i pins s3 σ3 H3 X.xe I3 (stat fr3) st3 go) fun r s4 ⟨u,hr,h4⟩=>?_);subst hr;refine wpAny_passesOwn hp (thn h4 fun _ s5 ⟨x,H5,I5,r5,y5,st5,fr5⟩=>?_);have I5':=I5.pinned (stat fr5) (T.obj _ _ st5);refine wpAny_passesOwn hp (thn (hg _ s5 σ3 H5 x u _ I5' r5 (step x H5 y5)) fun _ s6 ⟨σ6,H6,I6,q6⟩=>?_);refine wpAny_passesOwn hp (thn (hb _ s6 σ6 H6 _ I6 q6) fun f s7 q7=>?_);have again:∀ {σ7:St} {H7:Hp},Inv X (pins++P7 fp s5.heap) σ7 H7 s7->N σ7 H7->∃ m,m<n/\∃ i σ' H',Inv X pins σ' H' s7/\tn i s7.heap/\(∀ b∈fp,H' b=none)/\W i m σ' H':=fun {σ7 H7} I7 n7=>by
   obtain⟨m',hm,w7⟩:=hN σ7 H7 n7;refine⟨m',hm,i+1,σ7,H7,I7.unpinned,T.keep _ _ _ st5 fun b hb o e=>(I7.pin (b,o) (zqq _ (zqq _ (T7 hb e)))).1,fun b hb=>?_,w7⟩;obtain⟨o,e,d⟩:=T.obj _ _ st5 b hb;exact(I7.pin (b,o) (zqq _ (zqq _ (T7 hb e)))).2.1
  cases f with
  | next=>obtain⟨σ7,H7,I7,n7⟩:=q7;exact again I7 n7
  | cont=>obtain⟨σ7,H7,I7,n7⟩:=q7;exact again I7 n7
  | brk=>obtain⟨σ7,H7,I7,q7⟩:=q7;exact⟨σ7,H7,I7.unpinned,q7⟩
  | ret v=>obtain⟨x7,σ7,H7,I7,r7,q7⟩:=q7;exact⟨x7,σ7,H7,I7.unpinned,r7,q7⟩
end
theorem Wu{K:Frag}{a:Addr}{xs:List V}{g:TG}{tb:TS}{D:Qf}{σ:St}{H:Hp}(Pv:Nat->St->Hp->Prop)(h0:Pv 0 σ H)(hl:∀ i σ H,i<=xs.length->Pv i σ H->SqL K H a xs)
  (hs:∀ i x σ H,xs[i]?=some x->Pv i σ H->g x σ H fun σ2 H2=>tb { D with nx:=Pv (i+1),ct:=Pv (i+1),bk:=D.nx } σ2 H2) (hd:∀ σ H,Pv xs.length σ H->D.nx σ H) :
  ∃ W:Nat->Nat->St->Hp->Prop,(∃ m,W 0 m σ H)/\∀ i m σ H,W i m σ H ->
    ((Itl K a).stop i H/\D.nx σ H)\/((Itl K a).go i H/\∃ N:St->Hp->Prop,(∀ σ' H',N σ' H'->∃ m',m' < m/\W (i+1) m' σ' H')/\∀ x H',(Itl K a).yld i H x H'->g x σ H' fun σ2 H2=>tb { D with nx:=N,ct:=N,bk:=D.nx } σ2 H2):=by
 refine⟨fun i m σ H=>m=xs.length-i/\i<=xs.length/\Pv i σ H,⟨xs.length,by simp,zqo _,h0⟩,?_⟩;rintro i m σ H ⟨rfl,hi,p⟩;have q:=hl i σ H hi p;by_cases hlt:i<xs.length
 ·refine .inr ⟨⟨xs,xs[i],q,by simp[hlt]⟩,Pv (i+1),fun σ' H' p'=>⟨xs.length-(i+1),by omega,rfl,hlt,p'⟩,fun x H' y=>?_⟩;obtain⟨e,y⟩:=y;subst e;exact hs i x σ _ (y xs q) p
 ·have e:i=xs.length:=by omega
  subst e;exact .inl ⟨⟨xs,q,zqa _⟩,hd σ H p⟩
theorem Rn{lo:Int}{n:Nat}{g:TG}{tb:TS}{D:Qf}{σ:St}{H:Hp}(Pv:Nat->St->Hp->Prop)(h0:Pv 0 σ H)
  (hs:∀ i σ H,i<n->Pv i σ H->g (.int (lo+i)) σ H fun σ2 H2=>tb { D with nx:=Pv (i+1),ct:=Pv (i+1),bk:=D.nx } σ2 H2) (hd:∀ σ H,Pv n σ H->D.nx σ H) :
  ∃ W:Nat->Nat->St->Hp->Prop,(∃ m,W 0 m σ H)/\∀ i m σ H,W i m σ H ->
    ((Itr lo n).stop i H/\D.nx σ H)\/((Itr lo n).go i H/\∃ N:St->Hp->Prop,(∀ σ' H',N σ' H'->∃ m',m' < m/\W (i+1) m' σ' H')/\∀ x H',(Itr lo n).yld i H x H'->g x σ H' fun σ2 H2=>tb { D with nx:=N,ct:=N,bk:=D.nx } σ2 H2):=by
 refine⟨fun i m σ H=>m=n-i/\i<=n/\Pv i σ H,⟨n,by simp,zqo _,h0⟩,?_⟩;rintro i m σ H ⟨rfl,hi,p⟩;by_cases hlt:i<n
 ·refine .inr ⟨hlt,Pv (i+1),fun σ' H' p'=>⟨n-(i+1),by omega,rfl,hlt,p'⟩,fun x H' y=>?_⟩;obtain⟨e,y⟩:=y;subst e y;exact hs i σ _ hlt p
 ·have e:i=n:=by omega
  subst e;exact .inl ⟨zqa _,hd σ H p⟩
abbrev R2:=V->V->Hp->VK->Prop
def OpR(X:Cx)(f:Value->Value->Sem Value)(r:R2):Prop :=
 ∀ (pins:List (Addr×Obj)) (s:Shared) (σ:St) (H:Hp) (x y:V) (v u:Value) (Q:VK),Inv X pins σ H s->RelV x v->RelV y u->r x y H Q ->
   wpAny (model X.prog X.w) X.A (f v u) (EP X pins σ Q) X.xe s
def UnR(X:Cx)(f:Value->Sem Value)(r:V->Hp->VK->Prop):Prop :=
 ∀ (pins:List (Addr×Obj)) (s:Shared) (σ:St) (H:Hp) (x:V) (v:Value) (Q:VK),Inv X pins σ H s->RelV x v->r x H Q ->
   wpAny (model X.prog X.w) X.A (f v) (EP X pins σ Q) X.xe s
def Wv(X:Cx)(f:Value)(r:List V->Hp->VK->Prop):Prop :=
 ∀ (pins:List (Addr×Obj)) (s:Shared) (σ:St) (H:Hp) (xs:List V) (us:List Value) (Q:VK),Inv X pins σ H s->Vals xs us->r xs H Q ->
   wpAny (model X.prog X.w) X.A (call f us) (EP X pins σ Q) X.xe s
def zgw(X:Cx)(r:V->Hp->(Bool->Hp->Prop)->Prop):Prop :=
 ∀ (pins:List (Addr×Obj)) (s:Shared) (σ:St) (H:Hp) (x:V) (v:Value) (Q:Bool->Hp->Prop),Inv X pins σ H s->RelV x v->r x H Q ->
   wpAny (model X.prog X.w) X.A (truthy v) (TP X pins σ Q) X.xe s
def tOp(r:R2)(ta tb:TE):TE:=fun σ H Q=>ta σ H fun x H1=>tb σ H1 fun y H2=>r x y H2 Q
def tUn(r:V->Hp->VK->Prop)(ta:TE):TE:=fun σ H Q=>ta σ H fun x H1=>r x H1 Q
inductive rI(C:Int->Int->Prop)(g:Int->Int->V)(x:V)(y:V)(H:Hp)(Q:VK):Prop where
 | mk(i)(j)(_:x=.int i)(_:y=.int j)(_:C i j/\Q (g i j) H)
inductive rI0(g:Int->Int->V)(x:V)(y:V)(H:Hp)(Q:VK):Prop where
 | mk(i)(j)(_:x=.int i)(_:y=.int j)(_:Q (g i j) H)
inductive rU(g:Int->V)(x:V)(H:Hp)(Q:VK):Prop where
 | mk(i)(_:x=.int i)(_:Q (g i) H)
section
variable{X:Cx}{a b c:Expr}{ta tb tc:TE}{pos:Pos}
theorem binT(ha:PE X a ta)(hb:PE X b tb){pins:List (Addr×Obj)}{s:Shared}{σ:St}{H:Hp}{R:V->V->Hp->Prop}(I:Inv X pins σ H s)
  (h:ta σ H fun x H1=>tb σ H1 fun y H2=>R x y H2) {Q:Value->Shared->Prop} {f:Value->Value->Sem Value}
  (hf:∀ v u s2 x y H2,Inv X pins σ H2 s2->RelV x v->RelV y u->R x y H2->wpAny (model X.prog X.w) X.A (f v u) Q X.xe s2) :
  wpAny (model X.prog X.w) X.A (eval a X.env) (fun v s₁=>wpAny (model X.prog X.w) X.A (eval b X.env) (fun u s₂=>wpAny (model X.prog X.w) X.A (f v u) Q X.xe s₂) X.xe s₁) X.xe s:=by
 refine thn (ha pins s σ H _ I h) fun v s1 ⟨x,H1,I1,r1,q1⟩=>?_;refine thn (hb pins s1 σ H1 _ I1 q1) fun u s2 ⟨y,H2,I2,r2,q2⟩=>?_;exact hf v u s2 x y H2 I2 r1 r2 q2
theorem Z3{op:Operator}{r:R2}(ho:OpR X (binaryOp op) r)(ha:PE X a ta)(hb:PE X b tb):PE X (.BinOp a op b pos) (tOp r ta tb):=by
 intro pins s σ H Q I h;exact wpAny_BinOp (binT ha hb I h fun v u s2 x y H2 I2 rx ry q=>ho pins s2 σ H2 x y v u Q I2 rx ry q)
theorem Af(ho:UnR X (unaryOp op) r)(ha:PE X a ta):PE X (.UnaryOp op a pos) (tUn r ta):=by
 intro pins s σ H Q I h;exact UnaryOp_ (thn (ha pins s σ H _ I h) fun v s1 ⟨x,H1,I1,r1,q1⟩=>ho pins s1 σ H1 x v Q I1 r1 q1)
theorem opI{f:Value->Value->Sem Value}{C:Int->Int->Prop}{g:Int->Int->Int}
  (rule:∀ (i j:Int) (t u:Tok) (s:Shared) (Q:Value->Shared->Prop) (E:Value->Shared->Prop),C i j->Q (.int (g i j) s.toks) { s with toks:=s.toks+1 }->wpAny (model X.prog X.w) X.A (f (.int i t) (.int j u)) Q E s) :
  OpR X f (rI C fun i j=>.int (g i j)):=by
 intro pins s σ H x y v u Q I rx ry h;obtain⟨i,j,rfl,rfl,hc,q⟩:=h;obtain⟨t,rfl⟩:=rx;obtain⟨t',rfl⟩:=ry;exact rule i j t t' s _ _ hc ⟨.int (g i j),H,I.tok _,⟨_,rfl⟩,q⟩
theorem zfh{f:Value->Value->Sem Value}{g:Int->Int->Int}
  (rule:∀ (i j:Int) (t u:Tok) (s:Shared) (Q:Value->Shared->Prop) (E:Value->Shared->Prop),Q (.int (g i j) s.toks) { s with toks:=s.toks+1 }->wpAny (model X.prog X.w) X.A (f (.int i t) (.int j u)) Q E s) :
  OpR X f (rI0 fun i j=>.int (g i j)):=by
 intro pins s σ H x y v u Q I rx ry h;obtain⟨i,j,rfl,rfl,q⟩:=h;obtain⟨t,rfl⟩:=rx;obtain⟨t',rfl⟩:=ry;exact rule i j t t' s _ _ ⟨.int (g i j),H,I.tok _,⟨_,rfl⟩,q⟩
theorem zbr{f:Value->Value->Sem Value}{g:Int->Int->Bool}
  (rule:∀ (i j:Int) (t u:Tok) (s:Shared) (Q:Value->Shared->Prop) (E:Value->Shared->Prop),Q (.bool (g i j)) s->wpAny (model X.prog X.w) X.A (f (.int i t) (.int j u)) Q E s) :
  OpR X f (rI0 fun i j=>.bl (g i j)):=by
 intro pins s σ H x y v u Q I rx ry h;obtain⟨i,j,rfl,rfl,q⟩:=h;obtain⟨t,rfl⟩:=rx;obtain⟨t',rfl⟩:=ry;exact rule i j t t' s _ _ ⟨.bl (g i j),H,I,rfl,q⟩
def CDiv(i j:Int):Prop:=0<j/\j<1073741824
def CPow(i j:Int):Prop:=0<=j/\j<=1000000/\i.natAbs<2 ^ 64
def CMul(i j:Int):Prop:=(-(2 ^ 64)<i/\i<2 ^ 64)\/(-(2 ^ 64)<j/\j<2 ^ 64)
theorem CMul.ok(h:CMul i j):IntMulOk i j:=by
 rcases h with ⟨h1,h2⟩|⟨h1,h2⟩
 ·exact .of_left (intBits_le_64 h1 h2)
 ·exact .of_right (intBits_le_64 h1 h2)
theorem Vv:OpR X (binaryOp .Add) (rI0 fun i j=>.int (i+j)):=zfh fun _ _ _ _ _ _ _ q=>add_int q
theorem Ag:OpR X (binaryOp .Sub) (rI0 fun i j=>.int (i-j)):=zfh fun _ _ _ _ _ _ _ q=>sub_int q
theorem Qi:OpR X (binaryOp .Mult) (rI CMul fun i j=>.int (i*j)):=opI fun _ _ _ _ _ _ _ hc q=>mul_int q hc.ok
theorem N9:OpR X (binaryOp .FloorDiv) (rI CDiv fun i j=>.int (i/j)):=opI fun i j _ _ _ _ _ hc q=>by
 have h1:(0:Int)<j:=hc.1;have h2:j<1073741824:=hc.2;exact floordiv_int ⋯ (by rw[Int.fdiv_eq_ediv_of_nonneg i ⋯];exact q) (.inl (PyProof.noPylong_small ⋯))
theorem Ue:OpR X (binaryOp .Mod) (rI (fun _ j=>0<j) fun i j=>.int (i%j)):=opI fun i j _ _ _ _ _ hc q=>by
 have h1:(0:Int)<j:=hc;exact mod_int' ⋯ (by rw[Int.fmod_eq_emod_of_nonneg i ⋯];exact q)
theorem Ah:OpR X (binaryOp .Pow) (rI CPow fun i j=>.int (i ^ j.toNat)):=opI fun _ _ _ _ _ _ _ hc q=>pow_int_small hc.1 hc.2.1 hc.2.2 q
theorem unI{f:Value->Sem Value}{g:Int->Int}
  (rule:∀ (i:Int) (t:Tok) (s:Shared) (Q:Value->Shared->Prop) (E:Value->Shared->Prop),Q (.int (g i) s.toks) { s with toks:=s.toks+1 }->wpAny (model X.prog X.w) X.A (f (.int i t)) Q E s) :
  UnR X f (rU fun i=>.int (g i)):=by
 intro pins s σ H x v Q I rx h;obtain⟨i,rfl,q⟩:=h;obtain⟨t,rfl⟩:=rx;exact rule i t s _ _ ⟨.int (g i),H,I.tok _,⟨_,rfl⟩,q⟩
theorem Ee:UnR X (unaryOp .USub) (rU fun i=>.int (-i)):=unI fun _ _ _ _ _ q=>neg_int q
end
def zfi:V->V->Bool
 | .non,.non=>true|.non,.int _=>true|.int _,.non=>true|.non,.bl _=>true|.bl _,.non=>true|.non,.str _=>true|.str _,.non=>true
 | .int _,.int _=>true|.bl _,.bl _=>true|.str _,.str _=>true|.byt _,.byt _=>true
 | .int _,.str _=>true|.str _,.int _=>true|.bl _,.str _=>true|.str _,.bl _=>true
 | _,_=>false
inductive rEq(x:V)(y:V)(H:Hp)(Q:VK):Prop where
 | mk(_:zfi x y=true)(_:Q (.bl (decide (x=y))) H)
inductive rNe(x:V)(y:V)(H:Hp)(Q:VK):Prop where
 | mk(_:zfi x y=true)(_:Q (.bl (!decide (x=y))) H)
theorem Dm:decide (V.int i=V.int j)=(i == j):=by
 rw[Bool.eq_iff_iff];simp
theorem Ai:decide (V.bl i=V.bl j)=(i == j):=by
 rw[Bool.eq_iff_iff];simp
theorem Dp:decide (V.str i=V.str j)=(i == j):=by
 rw[Bool.eq_iff_iff];simp
theorem Dq:decide (V.byt i=V.byt j)=(i.toList == j.toList):=by
 rw[Bool.eq_iff_iff];cases i;cases j;simp
section
variable{X:Cx}{a b c:Expr}{ta tb tc:TE}{pos:Pos}
theorem Yc(I:Inv X pins σ H s)(q:Q (.bl k) H)(e:k=k'):EP X pins σ Q (.bool k') s:=by
 subst e;exact⟨.bl k,H,I,rfl,q⟩
theorem Y6:OpR X (compareOp .Eq) rEq:=by
 intro pins s σ H x y v u Q I rx ry h;obtain⟨hs,q⟩:=h;cases x with
 | non =>
   cases rx;cases y with
   | non=>cases ry;exact PySem.EqNone.eq_none_none (Yc I q (by simp))
   | bl j=>cases ry;exact PySem.EqNone.eq_none_bool (Yc I q (by simp))
   | int j=>obtain⟨t',rfl⟩:=ry;exact PySem.EqNone.eq_none_int (Yc I q (by simp))
   | str j=>obtain⟨t',rfl⟩:=ry;exact PySem.EqNone.eq_none_str (Yc I q (by simp))
   | _=>exact absurd (show false=true from hs) zqj
 | bl i =>
   cases rx;cases y with
   | non=>cases ry;exact PySem.EqNone.eq_bool_none (Yc I q (by simp))
   | bl j=>cases ry;exact eq_bool (Yc I q Ai)
   | str j=>obtain⟨t',rfl⟩:=ry;exact PySem.EqMixed.eq_bool_str (Yc I q (by simp))
   | _=>exact absurd (show false=true from hs) zqj
 | int i =>
   obtain⟨t,rfl⟩:=rx;cases y with
   | non=>cases ry;exact PySem.EqNone.eq_int_none (Yc I q (by simp))
   | int j=>obtain⟨t',rfl⟩:=ry;exact eq_int (Yc I q Dm)
   | str j=>obtain⟨t',rfl⟩:=ry;exact PySem.EqMixed.eq_int_str (Yc I q (by simp))
   | _=>exact absurd (show false=true from hs) zqj
 | str i =>
   obtain⟨t,rfl⟩:=rx;cases y with
   | non=>cases ry;exact PySem.EqNone.eq_str_none (Yc I q (by simp))
   | bl j=>cases ry;exact PySem.EqMixed.eq_str_bool (Yc I q (by simp))
   | int j=>obtain⟨t',rfl⟩:=ry;exact PySem.EqMixed.eq_str_int (Yc I q (by simp))
   | str j=>obtain⟨t',rfl⟩:=ry;exact eq_str (Yc I q Dp)
   | _=>exact absurd (show false=true from hs) zqj
 | byt i =>
   obtain⟨t,rfl⟩:=rx;cases y with
   | byt j=>obtain⟨t',rfl⟩:=ry;exact PySem.W.eq_bytes (Yc I q Dq)
   | _=>exact absurd (show false=true from hs) zqj
 | _=>cases y<;>exact absurd (show false=true from hs) zqj
theorem Mm:OpR X (compareOp .NotEq) rNe:=by
 intro pins s σ H x y v u Q I rx ry h;obtain⟨hs,q⟩:=h;cases x with
 | non =>
   cases rx;cases y with
   | non=>cases ry;exact PySem.EqNone.ne_none_none (Yc I q (by simp))
   | bl j=>cases ry;exact PySem.EqNone.ne_none_bool (Yc I q (by simp))
   | int j=>obtain⟨t',rfl⟩:=ry;exact PySem.EqNone.ne_none_int (Yc I q (by simp))
   | str j=>obtain⟨t',rfl⟩:=ry;exact PySem.EqNone.ne_none_str (Yc I q (by simp))
   | _=>exact absurd (show false=true from hs) zqj
 | bl i =>
   cases rx;cases y with
   | non=>cases ry;exact PySem.EqNone.ne_bool_none (Yc I q (by simp))
   | bl j=>cases ry;exact ne_bool (Yc I q (congrArg not Ai))
   | str j=>obtain⟨t',rfl⟩:=ry;exact PySem.EqMixed.ne_bool_str (Yc I q (by simp))
   | _=>exact absurd (show false=true from hs) zqj
 | int i =>
   obtain⟨t,rfl⟩:=rx;cases y with
   | non=>cases ry;exact PySem.EqNone.ne_int_none (Yc I q (by simp))
   | int j=>obtain⟨t',rfl⟩:=ry;exact ne_int (Yc I q (congrArg not Dm))
   | str j=>obtain⟨t',rfl⟩:=ry;exact PySem.EqMixed.ne_int_str (Yc I q (by simp))
   | _=>exact absurd (show false=true from hs) zqj
 | str i =>
   obtain⟨t,rfl⟩:=rx;cases y with
   | non=>cases ry;exact PySem.EqNone.ne_str_none (Yc I q (by simp))
   | bl j=>cases ry;exact PySem.EqMixed.ne_str_bool (Yc I q (by simp))
   | int j=>obtain⟨t',rfl⟩:=ry;exact PySem.EqMixed.ne_str_int (Yc I q (by simp))
   | str j=>obtain⟨t',rfl⟩:=ry;exact ne_str (Yc I q (congrArg not Dp))
   | _=>exact absurd (show false=true from hs) zqj
 | byt i =>
   obtain⟨t,rfl⟩:=rx;cases y with
   | byt j=>obtain⟨t',rfl⟩:=ry;exact PySem.W.ne_bytes (Yc I q (congrArg not Dq))
   | _=>exact absurd (show false=true from hs) zqj
 | _=>cases y<;>exact absurd (show false=true from hs) zqj
theorem K7:OpR X (compareOp .Lt) (rI0 fun i j=>.bl (decide (i<j))):=zbr fun _ _ _ _ _ _ _ q=>lt_int q
theorem Aj:OpR X (compareOp .LtE) (rI0 fun i j=>.bl (decide (i<=j))):=zbr fun _ _ _ _ _ _ _ q=>le_int q
theorem R8:OpR X (compareOp .Gt) (rI0 fun i j=>.bl (decide (j<i))):=zbr fun _ _ _ _ _ _ _ q=>gt_int q
theorem zc2:OpR X (compareOp .GtE) (rI0 fun i j=>.bl (decide (j<=i))):=zbr fun _ _ _ _ _ _ _ q=>ge_int q
theorem Mn:OpR X (compareOp .Is) (fun x y H Q=>y=.non/\Q (.bl (decide (x=.non))) H):=by
 intro pins s σ H x y v u Q I rx ry h;obtain⟨rfl,q⟩:=h;cases ry;refine is_none_gen (Yc I q ?_);cases x<;>first
  | (cases rx;rfl)
  | (obtain⟨t,rfl⟩:=rx;rfl)
theorem Pd:OpR X (compareOp .IsNot) (fun x y H Q=>y=.non/\Q (.bl (!decide (x=.non))) H):=by
 intro pins s σ H x y v u Q I rx ry h;obtain⟨rfl,q⟩:=h;cases ry;refine isnot_none_gen (Yc I q ?_);cases x<;>first
  | (cases rx;rfl)
  | (obtain⟨t,rfl⟩:=rx;rfl)
theorem Zr(b:Expr)(h:op≠.In:=by decide)(h2:op≠.NotIn:=by decide):behindInMarks op b=false:=by
 have e1:(op == CmpOp.In)=false:=by cases op<;>first|rfl|exact absurd rfl h
 have e2:(op == CmpOp.NotIn)=false:=by cases op<;>first|rfl|exact absurd rfl h2
 cases b<;>simp[behindInMarks,e1,e2]
theorem Ww{op:CmpOp}{r:R2}(ho:OpR X (compareOp op) r)(ha:PE X a ta)(hb:PE X b tb)(hm:behindInMarks op b=false):PE X (.Compare a [op] [b] pos) (tOp r ta tb):=by
 intro pins s σ H Q I h;exact wpAny_Compare1 (binT ha hb I h fun v u s2 x y H2 I2 rx ry q=>ho pins s2 σ H2 x y v u Q I2 rx ry q) hm
def zfj(t:TE):TT:=fun σ H Q=>t σ H fun x H'=>∃ k,x=.bl k/\Q k H'
theorem Zp(ho:OpR X (compareOp op) r)(ha:PE X a ta)(hb:PE X b tb)(hm:behindInMarks op b=false):PT X (.Compare a [op] [b] pos) (zfj (tOp r ta tb)):=by
 intro pins s σ H Q I h;refine wpAny_isTrue_Compare1 (thn (ha pins s σ H _ I h) fun v s1 ⟨x,H1,I1,r1,q1⟩=>thn (hb pins s1 σ H1 _ I1 q1) fun u s2 ⟨y,H2,I2,r2,q2⟩ =>
  thn (ho pins s2 σ H2 x y v u _ I2 r1 r2 q2) fun c s3 ⟨z,H3,I3,r3,k,e,q3⟩=>?_) hm
 subst e;cases r3;exact wpAny_truthy_bool ⟨H3,I3,q3⟩
def TruV(K:Frag)(x:V)(H:Hp)(k:Bool):Prop :=
 match x with
 | .non=>k=false
 | .bl b=>k=b
 | .int i=>k=(i != 0)
 | .str y=>y.length<=sizeLine/\k=((y.length:Int) != 0)
 | .byt y=>y.size<=sizeLine/\k=((y.size:Int) != 0)
 | .ref p=>(∃ xs,SqL K H p xs/\k=!xs.isEmpty)\/(∃ xs,SqT K H p xs/\k=!xs.isEmpty)\/∃ kvs,H p=some (.dK kvs)/\k=!kvs.isEmpty
 | _=>False
theorem Ef(r:KV kvs vs):(!vs.isEmpty)=!kvs.isEmpty:=by
 cases r<;>rfl
theorem Mo(r:Vals xs its):(!its.toArray.isEmpty)=!xs.isEmpty:=by
 cases r<;>simp
theorem Qj:(sizeLine:Nat)<2 ^ 63:=by rw[sizeLine_eq];decide
theorem zdv:zgw X (fun x H Q=>∃ k,TruV X.K x H k/\Q k H):=by
 intro pins s σ H x v Q I rx h;obtain⟨k,e,q⟩:=h;have hl:=Qj;have hs:sizeLine=16777216:=sizeLine_eq;cases x with
 | non =>
   cases rx;have e':k=false:=e;subst e';exact truthy_none ⟨H,I,q⟩
 | bl b =>
   cases rx;have e':k=b:=e;subst e';exact wpAny_truthy_bool ⟨H,I,q⟩
 | int i =>
   obtain⟨t,rfl⟩:=rx;have e':k=(i != 0):=e;subst e';exact PySem.P.truthy_int ⟨H,I,q⟩
 | str y =>
   obtain⟨t,rfl⟩:=rx;obtain⟨hy,e'⟩:y.length<=sizeLine/\k=((y.length:Int) != 0):=e;subst e';exact PySem.P.truthy_str ⋯ ⟨H,I.tok _,q⟩
 | byt y =>
   obtain⟨t,rfl⟩:=rx;obtain⟨hy,e'⟩:y.size<=sizeLine/\k=((y.size:Int) != 0):=e;subst e';exact PySem.W.truthy_bytes ⋯ ⟨H,I.tok _,q⟩
 | ref p =>
   cases rx;have e':(∃ xs,SqL X.K H p xs/\k=!xs.isEmpty)\/(∃ xs,SqT X.K H p xs/\k=!xs.isEmpty)\/∃ kvs,H p=some (.dK kvs)/\k=!kvs.isEmpty:=e;rcases e' with ⟨xs,hx,e'⟩|⟨xs,hx,e'⟩|⟨kvs,hx,e'⟩
   ·subst e';obtain⟨its,r,pl,hz⟩:=I.list hx;have hlen:=r.length;exact wpAny_truthy_list pl.isList (by simp only[zqe];omega) ⟨H,I.tok _,by rw[Mo r];exact q⟩
   ·subst e';obtain⟨its,r,pl,hz⟩:=I.tuple hx;have hlen:=r.length;exact truthy_tuple pl (by simp only[zqe];omega) ⟨H,I.tok _,by rw[Mo r];exact q⟩
   ·subst e';obtain⟨hz,hS,vs,r,m⟩:kvs.length<=sizeLine/\(p == sysModules)=false/\∃ vs,KV kvs vs/\s.heap.DictOf (Yg X.prog X.w) p vs:=I.hok p _ hx;have hlen:kvs.length=vs.length:=Paired.length r;exact wpAny_truthy_dict hS m ⋯ ⟨H,I.tok _,by rw[Ef r];exact q⟩
 | _=>exact(show False from e).elim
theorem Ak(ha:PE X a ta)(he:∀ whole,isTrue a X.env whole=(do let v <- whole;standAt a.pos;holding [v] (truthy v))) :
  PT X a (fun σ H Q=>ta σ H fun x H'=>∃ k,TruV X.K x H' k/\Q k H'):=by
 intro pins s σ H Q I h;exact isTrue_plain (thn (ha pins s σ H _ I h) fun v s1 ⟨x,H1,I1,r1,q1⟩=>zdv pins s1 σ H1 x v Q I1 r1 q1) (he _)
theorem Sm(r:Vals [x] us):∃ u,us=[u]/\RelV x u:=by
 cases r with
 | cons r1 r2=>cases r2;exact⟨_,rfl,r1⟩
theorem Al(r:Vals [x,y] us):∃ u w',us=[u,w']/\RelV x u/\RelV y w':=by
 cases r with
 | cons r1 r2 =>
   cases r2 with
   | cons r3 r4=>cases r4;exact⟨_,_,rfl,r1,r3⟩
theorem Cy(hc:X.calm=true):Wv X (.builtin "max") (fun xs H Q=>∃ i j,xs=[.int i,.int j]/\Q (.int (if j>i then j else i)) H):=by
 intro pins s σ H xs us Q I r h;obtain⟨i,j,rfl,q⟩:=h;obtain⟨u,w',rfl,⟨t,rfl⟩,⟨t',rfl⟩⟩:=Al r;refine max_two_ints (I.ok.hd hc) fun h' tk k=>⟨_,H,I.kept k,?_,q⟩
 by_cases hj:j>i
 ·rw[if_pos hj,if_pos hj];exact⟨_,rfl⟩
 ·rw[if_neg hj,if_neg hj];exact⟨_,rfl⟩
theorem Cz(hc:X.calm=true):Wv X (.builtin "min") (fun xs H Q=>∃ i j,xs=[.int i,.int j]/\Q (.int (if j<i then j else i)) H):=by
 intro pins s σ H xs us Q I r h;obtain⟨i,j,rfl,q⟩:=h;obtain⟨u,w',rfl,⟨t,rfl⟩,⟨t',rfl⟩⟩:=Al r;refine min_two_ints (I.ok.hd hc) fun h' tk k=>⟨_,H,I.kept k,?_,q⟩
 by_cases hj:j<i
 ·rw[if_pos hj,if_pos hj];exact⟨_,rfl⟩
 ·rw[if_neg hj,if_neg hj];exact⟨_,rfl⟩
theorem Ro:Wv X (.type "int") (fun xs H Q=>(∃ i,xs=[.int i]/\Q (.int i) H)\/∃ k,xs=[.bl k]/\Q (.int (if k then 1 else 0)) H):=by
 intro pins s σ H xs us Q I r h;rcases h with ⟨i,rfl,q⟩|⟨k,rfl,q⟩
 ·obtain⟨u,rfl,t,rfl⟩:=Sm r;exact call_int_int ⟨.int i,H,I,⟨_,rfl⟩,q⟩
 ·obtain⟨u,rfl,r1⟩:=Sm r;cases r1;exact call_int_bool ⟨.int (if k then 1 else 0),H,I.tok _,⟨_,rfl⟩,q⟩
end
structure ObjM(h:Heap)(x dx C:Addr)(mA:Str->Option Value):Prop where
 obj:h.get? x=some (PySem.W.instObj C dx)
 ns:h.Ns1 dx mA
 ne:dx≠x
theorem C0{h:Heap}{dx:Addr}{mA:Str->Option Value}(n:h.Ns1 dx mA):∃ od,h.get? dx=some od/\∀ name,PySem.W.lookIn name od=some (mA name):=by
 obtain⟨o,es,ep,ho,hd,hk,_,hm⟩:=n;refine⟨o,ho,fun name=>?_⟩;have e:=hm name;unfold nsFind findBy at e;rw[<- Array.find?_toList] at e;unfold PySem.W.lookIn;rw[hd];dsimp only;split
 ·rename_i y q;rw[q] at e;exact congrArg some e
 ·rename_i q;rw[q] at e;have a:es.toList.any (·.refKey)=false:=by
   rw[List.any_eq_false];intro y hy;obtain⟨z,t,hkey⟩:=hk y (Array.mem_toList_iff.mp hy);simp[DictEntry.refKey,hkey]
  have a':¬ es.toList.any (·.refKey)=true:=by rw[a];exact zqj
  rw[if_neg a'];exact congrArg some e
theorem ObjM.look(I:ObjM h x dx C mA):∃ od,PySem.W.InstAt h x (PySem.W.instObj C dx) C (some od)/\∀ name,PySem.W.lookIn name od=some (mA name) :=
 let ⟨od,ho,hl⟩:=C0 I.ns
 ⟨od,⟨I.obj,rfl,rfl,ho⟩,hl⟩
section
variable{prog:Program}{w:World}{A:Around}{E:Value->Shared->Prop}{s:Shared}{K:Frag}{x dx C f:Addr}{mA:Str->Option Value}{name:Str}{v:Value}
theorem zbs(X:K.In s.heap)(I:ObjM s.heap x dx C mA)(hg:PySem.W.plainGet K C name=true)(hh:PySem.W.hasDictIn K C=true)
  (ha:PySem.W.findIn K (.ref C) name=some none) (hv:mA name=some v) (hv':PySem.W.handedIn v=true) (h:Q v { s with toks:=s.toks+1 }) :
  wpAny (model prog w) A (getAttr (.ref x) name expr) Q E s:=by
 obtain⟨od,J,hl⟩:=I.look;exact PySem.W.get_value X J (PySem.W.plainGet_of hg).1 (PySem.W.findObj_own hh ha rfl (by rw[hl,hv])) hv' h
theorem Am(X:K.In s.heap)(I:ObjM s.heap x dx C mA)(hg:PySem.W.plainGet K C name=true)
  (hf:PySem.W.findIn K (.ref C) name=some (some (.ref f))) (ht:PySem.W.isFn K (.ref f)=true) (hv:mA name=none) (h:Q (.ref f,[.ref x]) s) :
  wpAny (model prog w) A (getMethod (.ref x) name pl) Q E s:=by
 obtain⟨od,J,hl⟩:=I.look;exact PySem.W.method_fn X J (PySem.W.plainGet_of hg).1 (PySem.W.plainGet_of hg).2 hf (beq_iff_eq.mp ht) (by show (PySem.W.lookIn name od).map (·.isSome)=some false;rw[hl,hv];rfl) h
theorem zbt(X:K.In s.heap)(I:ObjM s.heap x dx C mA)
  (hs:PySem.W.findIn K (.ref C) "__setattr__"=some (some (.builtin "object.__setattr__"))) (hp:PySem.W.plainOver K C=true) (ht:PySem.W.takerIn K C name=some none) (hh:PySem.W.hasDictIn K C=true)
  (hw:PySem.Within mA ns) (hsz:ns.length<=sizeLine)
  (h:∀ h',ObjM h' x dx C (fun y=>if y=name then some v else mA y)->Heap.SameBut dx s.heap h'->Q () { s with heap:=h',toks:=s.toks+2 }) :
  wpAny (model prog w) A (setAttr (.ref x) name v) Q E s:=by
 obtain⟨od,J,hl⟩:=I.look;refine PySem.W.set_plain X J hs (PySem.W.osa_open (s:={ s with toks:=s.toks+1 }) (r:=none) X J hp ht fun b=>?_);obtain⟨cd,hc,hd'⟩:=PySem.W.any_some hh;have hx:s.heap.get? x=some ⟨.ref C,some dx,.plain,#[]⟩:=I.obj;refine wpAny_bind (wpAny_pure (wpAny_bind (wpAny_bind (wpAny_loadPart hx (wpAny_bind (PySem.W.Looks.here (s:={ s with toks:=s.toks+1 }) (PySem.W.looks_clsIn X hc) ?_))))));rw[hd'];refine wpAny_pure (a:=some dx) (wpAny_bind (wpAny_pure (wpAny_bind ?_)));refine wpAny_nsSet1 (s:={ s with toks:=s.toks+1 }) I.ns fun h' hn2 hs2=>?_;obtain⟨oD,esD,epD,hoD,hdD,hcD⟩:=hn2.count (PySem.Within.cons name v hw);refine wpAny_bind (wpAny_lookBehind hoD (by rw[hdD];exact pastItsLine_dict (zqr hcD (by rw[zqs];omega))) ?_);exact wpAny_pure (h _ ⟨(hs2.2 _ (Ne.symm I.ne)).trans I.obj,hn2,I.ne⟩ hs2)
theorem An(X:K.In s.heap)(hm:PySem.W.makesIn K C=true)
  (hi:PySem.W.findIn K (.ref C) "__init__"=some (some (.ref f))) (hf:PySem.W.typeIn K (.ref f)=some (.type "function"))
  (h:codeAny (model prog w) (A.under (.builtin "type.__call__" ⟨.ref C :: vs,kw⟩)) (.call (.ref f) ⟨.ref (s.heap.objs.size+1) :: vs,kw⟩) (PySem.W.InitBack (s.heap.objs.size+1) R)
   { s with heap:=(s.heap.push PySem.W.emptyDict).push (PySem.W.instObj C s.heap.objs.size) }) :
  codeAny (model prog w) A (.call (.ref C) ⟨vs,kw⟩) R s:=by
 obtain⟨hh,g,d,t,os⟩:=s;exact PySem.W.make_core (PySem.W.makes_of X hm) (PySem.W.looks_findIn X hi) (fun self=>PySem.W.bind_fn X self hf) (.inl rfl) h
end
def putF(f:Str)(v:V):List (Str×V)->List (Str×V)
 | []=>[(f,v)]
 | (g,x) :: r=>if g=f then (g,v) :: r else (g,x) :: putF f v r
theorem O6(f g:Str)(v:V):∀ fs:List (Str×V),(putF f v fs).lookup g=if g=f then some v else fs.lookup g
 | []=>by
   show List.lookup g [(f,v)]=_;by_cases h:g=f
   ·have hb:(g == f)=true:=beq_iff_eq.mpr h;simp only[List.lookup,hb,if_pos h]
   ·have hb:(g == f)=false:=zqn.mpr h;simp only[List.lookup,hb,if_neg h]
 | (k,x) :: r=>by
   have ih:=O6 f g v r;rw[show putF f v ((k,x) :: r)=(if k=f then (k,v) :: r else (k,x) :: putF f v r) from rfl];by_cases hk:k=f
   ·rw[if_pos hk];by_cases h:g=k
    ·have hb:(g == k)=true:=beq_iff_eq.mpr h;simp only[List.lookup,hb,if_pos (h.trans hk)]
    ·have hb:(g == k)=false:=zqn.mpr h;simp only[List.lookup,hb,if_neg (fun e:g=f=>h (e.trans hk.symm))]
   ·rw[if_neg hk];by_cases h:g=k
    ·have hb:(g == k)=true:=beq_iff_eq.mpr h;simp only[List.lookup,hb,if_neg (fun e:g=f=>hk (h.symm.trans e))]
    ·have hb:(g == k)=false:=zqn.mpr h;simp only[List.lookup,hb];exact ih
theorem P8(f:Str)(v:V):∀ fs:List (Str×V),f∈(putF f v fs).map (·.1)/\∀ g,g∈fs.map (·.1)->g∈(putF f v fs).map (·.1)
 | []=>⟨by simp[putF],fun g h=>by simp at h⟩
 | (k,x) :: r=>by
   obtain⟨i1,i2⟩:=P8 f v r;rw[show putF f v ((k,x) :: r)=(if k=f then (k,v) :: r else (k,x) :: putF f v r) from rfl];by_cases hk:k=f
   ·rw[if_pos hk];subst hk;exact⟨by simp,fun g h=>by simpa using h⟩
   ·rw[if_neg hk];refine⟨?_,fun g h=>?_⟩
    ·rw[zqc];exact zql _ i1
    ·rw[zqc] at h ⊢;rcases zp7.mp h with e|e
     ·exact zp7.mpr (.inl e)
     ·exact zql _ (i2 g e)
theorem O7(f:Str)(v:V):∀ fs:List (Str×V),(putF f v fs).length<=fs.length+1
 | []=>by simp[putF]
 | (k,x) :: r=>by
   have ih:=O7 f v r;rw[show putF f v ((k,x) :: r)=(if k=f then (k,v) :: r else (k,x) :: putF f v r) from rfl];by_cases hk:k=f
   ·rw[if_pos hk,zqs,zqs];omega
   ·rw[if_neg hk,zqs,zqs];omega
theorem RelO.some_of(r:RelO (some v) o):∃ u,o=some u/\RelV v u:=by
 cases o with
 | none=>exact(show False from r).elim
 | some u=>exact⟨u,rfl,r⟩
theorem RelO.none_of(r:RelO none o):o=none:=by
 cases o with
 | none=>rfl
 | some u=>exact(show False from r).elim
theorem C2(r:RelV v u):PySem.W.handedIn u=true:=by
 cases v with
 | non=>cases (show u=Value.none from r);rfl
 | bl b=>cases (show u=Value.bool b from r);rfl
 | int i=>obtain⟨t,e⟩:=(show ∃ t,u=Value.int i t from r);cases e;rfl
 | str x=>obtain⟨t,e⟩:=(show ∃ t,u=Value.str x t from r);cases e;rfl
 | byt b=>obtain⟨t,e⟩:=(show ∃ t,u=Value.bytes b t from r);cases e;rfl
 | flt b=>obtain⟨t,e⟩:=(show ∃ t,u=Value.float b t from r);cases e;rfl
 | ref a=>cases (show u=Value.ref a from r);rfl
 | ty n=>cases (show u=Value.type n from r);rfl
section
variable{P:Program}{w:World}{H H':Hp}{h h':Heap}{a C dx:Addr}{fs fs':List (Str×V)}
theorem Ma(hok:HOk P w H h)(e:H a=some (.ins C dx fs)):∃ mA,ObjM h a dx C mA/\(∀ f,RelO (fs.lookup f) (mA f))/\PySem.Within mA (fs.map (·.1))/\fs.length<=1000/\H dx=some (.own a):=by
 obtain⟨d,z,ne,ob,mA,n,r,q⟩:=(show Yh P w H h a (.ins C dx fs) from hok a _ e);exact⟨mA,⟨ob,n,ne⟩,r,q,z,d⟩
end
structure Cls(K:Frag)(C:Addr):Prop where
 pg:PySem.W.plainGet K C Str.empty=true
 hd:PySem.W.hasDictIn K C=true
 po:PySem.W.plainOver K C=true
 sa:PySem.W.findIn K (.ref C) "__setattr__"=some (some (.builtin "object.__setattr__"))
theorem Cls.get{K:Frag}{C:Addr}(c:Cls K C)(f:Str):PySem.W.plainGet K C f=true:=c.pg
def Xc(K:Frag)(C:Addr)(f:Str):Prop:=PySem.W.findIn K (.ref C) f=some none
theorem Xc.taker{K:Frag}{C:Addr}{f:Str}(n:Xc K C f):PySem.W.takerIn K C f=some none:=by
 unfold PySem.W.takerIn;rw[show PySem.W.findIn K (.ref C) f=some none from n];rfl
structure Con(K:Frag)(C:Addr)(f:Str)(v:V)(u:Value):Prop where
 at_:PySem.W.findIn K (.ref C) f=some (some u)
 rel:RelV v u
 get:PySem.W.specialIn K u "__get__"=some none
 cp:PySem.W.copiedNames.contains f=false
structure Ao(K:Frag)(C:Addr)(m:Str)(f:Addr):Prop where
 at_:PySem.W.findIn K (.ref C) m=some (some (.ref f))
 fn:PySem.W.isFn K (.ref f)=true
 kp:PySem.W.keepIn K (.ref f)=true
section
variable{X:Cx}{pins:List (Addr×Obj)}{σ:St}{H:Hp}{s:Shared}{a C dx:Addr}{fs:List (Str×V)}{f:Str}{v:V}{A:Around}{E:Value->Shared->Prop}
theorem Eg(I:Inv X pins σ H s)(e:H a=some (.ins C dx fs))(c:Cls X.K C)(n:Xc X.K C f)(l:fs.lookup f=some v)
  (h:∀ u s',Inv X pins σ H s'->RelV v u->Q u s'):wpAny (model X.prog X.w) A (getAttr (.ref a) f b) Q E s:=by
 obtain⟨mA,O,r,_,_,_⟩:=Ma I.hok e;obtain⟨u,hu,ru⟩:=RelO.some_of (v:=v) (o:=mA f) (by rw[<- l];exact r f);exact zbs I.kIn O (c.get f) c.hd n hu (C2 ru) (h u _ (I.tok _) ru)
theorem Mp(I:Inv X pins σ H s)(e:H a=some (.ins C dx fs))(c:Cls X.K C)(k:Ao X.K C m g)(l:fs.lookup m=none)
  (h:Q (.ref g,[.ref a]) s):wpAny (model X.prog X.w) A (getMethod (.ref a) m pl) Q E s:=by
 obtain⟨mA,O,r,_,_,_⟩:=Ma I.hok e;have hn:mA m=none:=RelO.none_of (by rw[<- l];exact r m);exact Am I.kIn O (c.get m) k.at_ k.fn hn h
theorem Eh(I:Inv X pins σ H s)(e:H a=some (.ins C dx fs))(c:Cls X.K C)(n:Xc X.K C f)(hl:fs.length<1000)(ry:RelV y u)
  (h:∀ s',Inv X pins σ (upd H a (.ins C dx (putF f y fs))) s'->Q () s'):wpAny (model X.prog X.w) A (setAttr (.ref a) f u) Q E s:=by
 obtain⟨mA,O,r,wi,_,ho⟩:=Ma I.hok e;have hz:(fs.map (·.1)).length<=sizeLine:=by rw[zp3,sizeLine_eq];omega
 refine zbt I.kIn O c.sa c.po n.taker c.hd wi hz fun h' O' sb=>h _ ?_;have hd:∃ o,h'.get? dx=some o:=let ⟨o,_,_,e',_⟩:=O'.ns;⟨o,e'⟩;refine I.write (x:=a) (e:=dx) (by rw[e];exact True.intro) (.inr ho) (fun b q hb z=>(sb.2 b hb).trans z) hd ?_;refine⟨by rw[Zh O.ne];exact ho,?_,O.ne,O'.obj,_,O'.ns,fun g=>?_,fun g hg=>?_⟩
 ·have:=O7 f y fs;omega
 ·show RelO ((putF f y fs).lookup g) (if g=f then some u else mA g);rw[O6];by_cases q:g=f
  ·rw[if_pos q,if_pos q];exact ry
  ·rw[if_neg q,if_neg q];exact r g
 ·by_cases q:g=f
  ·rw[q];exact(P8 f y fs).1
  ·refine(P8 f y fs).2 g (wi g fun z=>hg ?_);show (if g=f then some u else mA g)=none;rw[if_neg q];exact z
theorem Inv.made(I:Inv X pins σ H s):Inv X pins σ (upd (upd H s.heap.objs.size (.own (s.heap.objs.size+1))) (s.heap.objs.size+1) (.ins C s.heap.objs.size []))
  { s with heap:=(s.heap.push PySem.W.emptyDict).push (PySem.W.instObj C s.heap.objs.size) }:=by
 have e1:(s.heap.push PySem.W.emptyDict).get? s.heap.objs.size=some PySem.W.emptyDict:=Heap.get?_push_size s.heap rfl;have e2:((s.heap.push PySem.W.emptyDict).push (PySem.W.instObj C s.heap.objs.size)).get? (s.heap.objs.size+1)=some (PySem.W.instObj C s.heap.objs.size):=by
  have:=Heap.get?_push_size (s.heap.push PySem.W.emptyDict) (o:=PySem.W.instObj C s.heap.objs.size) rfl
  rwa [Heap.size_push] at this
 have e3:(s.heap.push PySem.W.emptyDict).Ns s.heap.objs.size (fun _=>none):=⟨PySem.W.emptyDict,#[],_,e1,rfl,(fun e he=>absurd he (by simp)),fun _=>rfl⟩;have I1:=I.laid (a:=s.heap.objs.size) (o:=.own (s.heap.objs.size+1)) (h':=s.heap.push PySem.W.emptyDict) (t':=s.toks) (fun b u q=>Heap.get?_push_of_some _ q) (zqa _) ⟨_,e1⟩;refine I1.laid (a:=s.heap.objs.size+1) (o:=.ins C s.heap.objs.size []) (t':=s.toks) (fun b u q=>Heap.get?_push_of_some _ q) (Nat.le_of_eq (Heap.size_push _ _)) ?_;have ne:s.heap.objs.size≠s.heap.objs.size+1:=zqu (Nat.lt_succ_self _);refine⟨by rw[Zh ne,Zb],zqo _,ne,e2,fun _=>none,(Heap.Ns1.of_empty e3).at fun o q=>Heap.get?_push_of_some _ q,fun _=>True.intro,fun y hy=>absurd rfl hy⟩
theorem zbu(hb:attributeBase e f env (eval e env)=eval e env)
  (h:wpAny (model prog w) A (eval e env) (fun o s₁=>wpAny (model prog w) A (getAttr o f true) Q E s₁) E s):wpAny (model prog w) A (eval (.Attribute e f pos) env) Q E s :=
 Attribute_any_ h (by rw[arm_eval_Attribute,hb])
end
inductive zfk(K:Frag)(f:Str)(Q:VK)(x:V)(H1:Hp):Prop where
 | mk(a)(C)(dx)(fs)(v)(_:x=.ref a)(_:H1 a=some (.ins C dx fs))(_:Cls K C)(_:Xc K C f)(_:fs.lookup f=some v)(_:Q v H1)
def zfl(K:Frag)(ta:TE)(f:Str):TE:=fun σ H Q=>ta σ H fun x H1=>zfk K f Q x H1
inductive zfm(K:Frag)(f:Str)(D:Qf)(σ:L2.St)(y:V)(x:V)(H2:Hp):Prop where
 | mk(a)(C)(dx)(fs)(_:x=.ref a)(_:H2 a=some (.ins C dx fs))(_:Cls K C)(_:Xc K C f)(_:fs.length<1000)(_:D.nx σ (upd H2 a (.ins C dx (putF f y fs))))
def zfn(K:Frag)(ta tv:TE)(f:Str):TS:=fun D σ H=>tv σ H fun y H1=>ta σ H1 fun x H2=>zfm K f D σ y x H2
section
variable{X:Cx}{o e value:Expr}{f:Str}{pos pos' tpos:Pos}{ta tv:TE}
theorem zdw(he:PE X e ta)(hb:attributeBase e f X.env (eval e X.env)=eval e X.env):PE X (.Attribute e f pos) (zfl X.K ta f):=by
 intro pins s σ H Q I h;refine zbu hb (thn (he pins s σ H _ I h) fun u s1 ⟨x,H1,I1,rx,a,C,dx,fs,v,ex,ea,c,n,l,q⟩=>?_);subst ex;obtain rfl:u=Value.ref a:=rx;exact Eg I1 ea c n l fun u' s2 I2 ru=>⟨v,H1,I2,ru,q⟩
theorem zdx(ha:PE X o ta)(hv:PE X value tv)(hs:swapsWith value (some (.Attribute o f pos')) pos.line X.env=pure false):PS X (.Assign [.Attribute o f pos'] value pos) (zfn X.K ta tv f):=by
 intro pins s σ H D I h;refine plainObj_wpAny_Assign_Attribute (thn (hv pins s σ H _ I h) fun u s1 ⟨y,H1,I1,ry,q⟩=>thn (ha pins s1 σ H1 _ I1 q) fun ov s2 ⟨x,H2,I2,rx,a,C,dx,fs,ex,ea,c,n,l,q2⟩=>?_) hs;subst ex;obtain rfl:ov=Value.ref a:=rx;exact Eh I2 ea c n l ry fun s3 I3=>⟨σ,_,I3,q2⟩
end
section
variable{X:Cx}{pins:List (Addr×Obj)}{σ:St}{H:Hp}{s:Shared}{A:Around}{E:Value->Shared->Prop}{Q:Value->Shared->Prop}{c:Value}{b:Bool}
inductive P9(K:Frag)(H:Hp):V->Value->Prop where
 | non:P9 K H .non (.type "NoneType")
 | bl (x:Bool):P9 K H (.bl x) (.type "bool")
 | int (i:Int):P9 K H (.int i) (.type "int")
 | str (x:Str):P9 K H (.str x) (.type "str")
 | flt (x:UInt64):P9 K H (.flt x) (.type "float")
 | lst {a:Addr} {xs:List V} (e:H a=some (.lst xs)):P9 K H (.ref a) (.type "list")
 | frz {a:Addr} {o:Obj} {xs:List V} (e:H a=some (.frz o (.lst xs))):P9 K H (.ref a) (.type "list")
 | tup {a:Addr} {xs:List V} (e:H a=some (.tup xs)):P9 K H (.ref a) (.type "tuple")
 | dK {a:Addr} {kvs:List (Key×V)} (e:H a=some (.dK kvs)):P9 K H (.ref a) (.type "dict")
 | dT {a:Addr} {kvs:List (List Key×V)} (e:H a=some (.dT kvs)):P9 K H (.ref a) (.type "dict")
 | ins {a C dx:Addr} {fs:List (Str×V)} (e:H a=some (.ins C dx fs)) (cl:Cls K C) (ha:PySem.W.findIn K (.ref C) "__class__"=some (some (.builtin "object.__class__")))
   (hn:PySem.W.specialIn K (.builtin "object.__class__") "__get__"=some (some (.builtin "getset_descriptor.__get__"))) (htk:PySem.W.takesIn K (.builtin "object.__class__")=some true)
   (hm:PySem.W.mroIn K C (.type "object")=some true):P9 K H (.ref a) (.ref C)
theorem C3(I:Inv X pins σ H s)(rx:RelV x u)(ty:P9 X.K H x t)(e:PySem.W.kitOne X.K t c=some b)(h:∀ tk,Q (.bool b) { s with toks:=tk }) :
  wpAny (model X.prog X.w) A (call (.builtin "isinstance") [u,c]) Q E s:=by
 cases ty with
 | non=>cases (show u=Value.none from rx);exact PySem.W.kia_one PySem.W.kitx_none I.kIn True.intro e (fun z=>nomatch z) h
 | bl y=>cases (show u=Value.bool y from rx);exact PySem.W.kia_one PySem.W.kitx_bool I.kIn True.intro e (fun z=>nomatch z) h
 | int i=>obtain⟨t,q⟩:=(show ∃ t,u=Value.int i t from rx);cases q;exact PySem.W.kia_one PySem.W.kitx_int I.kIn True.intro e (fun z=>nomatch z) h
 | str y=>obtain⟨t,q⟩:=(show ∃ t,u=Value.str y t from rx);cases q;exact PySem.W.kia_one PySem.W.kitx_str I.kIn True.intro e (fun z=>nomatch z) h
 | flt y=>obtain⟨t,q⟩:=(show ∃ t,u=Value.float y t from rx);cases q;exact PySem.W.kia_one PySem.W.kitx_float I.kIn True.intro e (fun z=>nomatch z) h
 | @lst a xs ea =>
   cases (show u=Value.ref a from rx);obtain⟨_,_,n,_,h1⟩:=(show Yh X.prog X.w H s.heap a (.lst xs) from I.hok a _ ea);exact PySem.W.kia_one PySem.W.kitx_list I.kIn ⟨_,h1,rfl⟩ e (fun z=>nomatch z) h
 | @frz a ob xs ea =>
   cases (show u=Value.ref a from rx);obtain⟨_,_,_,n,_,h1⟩:=(show Yh X.prog X.w H s.heap a (.frz ob (.lst xs)) from I.hok a _ ea);exact PySem.W.kia_one PySem.W.kitx_list I.kIn ⟨_,h1,rfl⟩ e (fun z=>nomatch z) h
 | @tup a xs ea =>
   cases (show u=Value.ref a from rx);obtain⟨_,_,_,p⟩:=(show Yh X.prog X.w H s.heap a (.tup xs) from I.hok a _ ea);obtain⟨o,h1,h2,_⟩:=p;exact PySem.W.kia_one PySem.W.kitx_tuple I.kIn ⟨o,h1,h2⟩ e (fun z=>nomatch z) h
 | @dK a kvs ea =>
   cases (show u=Value.ref a from rx);obtain⟨_,_,vs,_,p⟩:=(show Yh X.prog X.w H s.heap a (.dK kvs) from I.hok a _ ea);obtain⟨o,es,ep,h1,h2,_⟩:=p;exact PySem.W.kia_one PySem.W.kitx_dict I.kIn ⟨o,h1,h2.1⟩ e (fun z=>nomatch z) h
 | @dT a kvs ea =>
   cases (show u=Value.ref a from rx);obtain⟨_,_,xs,_,o,es,ep,h1,h2,_⟩:=(show Yh X.prog X.w H s.heap a (.dT kvs) from I.hok a _ ea);exact PySem.W.kia_one PySem.W.kitx_dict I.kIn ⟨o,h1,h2.1⟩ e (fun z=>nomatch z) h
 | @ins a C dx fs ea cl ha hn htk hm =>
   cases (show u=Value.ref a from rx);obtain⟨mA,O,_⟩:=Ma I.hok ea;obtain⟨od,J,_⟩:=O.look;exact PySem.W.kia_one (PySem.W.kitx_own (cl.get _) cl.hd ha hn htk hm) I.kIn J e (fun z=>nomatch z) h
end
structure Wd(k:Nat)(A:Around):Prop where
 hd:A.handled=none
 dp:A.depth+3*k+5<recursionLimit
 un:A.units+16*k+200<cLine
theorem Wd.mono(r:Wd k A)(h:j<=k):Wd j A:=⟨r.hd,by have:=r.dp;omega,by have:=r.un;omega⟩
theorem Wd.deeper(r:Wd (k+1) A)(env:Env):Wd k (A.deeper env) :=
 ⟨r.hd,by have:=r.dp;show A.depth+1+3*k+5<_;omega,by have:=r.un;show A.units+3+16*k+200<_;omega⟩
theorem Ei{A:Around}{C:Addr}{us:List Value}{kw:List (Str×Value)}:(A.under (.builtin "type.__call__" ⟨.ref C :: us,kw⟩)).depth=A.depth+1:=by
 first|rfl|simp[Around.under,Code.weight,Code.isCreation,Code.isGuard,Code.isCaller,Code.frames,Code.isFrame,guardIds]
theorem Ej{A:Around}{C:Addr}{us:List Value}{kw:List (Str×Value)}:(A.under (.builtin "type.__call__" ⟨.ref C :: us,kw⟩)).units=A.units+1:=by
 first|rfl|simp[Around.under,Code.cUnits,Code.frames,Code.isFrame]
theorem Wd.make(r:Wd (k+1) A)(C:Addr)(us:List Value)(kw:List (Str×Value)):Wd k (A.under (.builtin "type.__call__" ⟨.ref C :: us,kw⟩)) :=
 ⟨r.hd,by have:=r.dp;rw[Ei];omega,by have:=r.un;rw[Ej];omega⟩
theorem Wd.depth(r:Wd k A):A.depth<recursionLimit:=by have:=r.dp;omega
theorem Wd.units(r:Wd k A):A.units+64<cLine:=by have:=r.un;omega
def tNil:TA:=fun _ H Q=>Q [] H
def U0(ta:TE)(tr:TA):TA:=fun σ H Q=>ta σ H fun x H1=>tr σ H1 fun xs H2=>Q (x :: xs) H2
section
variable{X:Cx}{e:Expr}{es:List Expr}{te:TE}{t:TA}{pos:Pos}
theorem Zd:PA X [] tNil:=fun _ _ _ _ H Q I h=>Calls.spliced_nil ⟨[],H,I,.nil,h⟩
theorem Za(ha:PE X e te)(hr:PA X es t)(hs:starEach (e :: es) X.env=(false,eval e X.env) :: starEach es X.env:=by rfl):PA X (e :: es) (U0 te t):=by
 intro pos pins s σ H Q I h;rw[hs];show wpAny _ _ (spliced ((false,eval e X.env) :: backTo pos (starEach es X.env))) _ _ s;refine Calls.spliced_cons (thn (ha pins s σ H _ I h) fun u s1 ⟨x,H1,I1,r1,q1⟩=>?_);exact thn (hr pos pins s1 σ H1 _ I1 q1) fun us s2 ⟨xs,H2,I2,r2,q2⟩=>⟨x :: xs,H2,I2,.cons r1 r2,q2⟩
inductive zfo(Q:VK)(xs:List V)(H1:Hp):Prop where
 | mk(_:xs.length<=sizeLine)(_:∀ p,H1 p=none->Q (.ref p) (upd H1 p (.tup xs)))
def zgx(t:TA):TE:=fun σ H Q=>t σ H fun xs H1=>zfo Q xs H1
inductive zfp(Q:VK)(xs:List V)(H1:Hp):Prop where
 | mk(_:xs.length<=sizeLine)(_:∀ p,H1 p=none->Q (.ref p) (upd H1 p (.lst xs)))
def tLst(t:TA):TE:=fun σ H Q=>t σ H fun xs H1=>zfp Q xs H1
theorem Yd{x1}(h:PA X es t):PE X (.Tuple es x1 pos) (zgx t):=by
 intro pins s σ H Q I hq;refine wpAny_Tuple_spliced (thn (h pos pins s σ H _ I hq) fun us s1 ⟨xs,H1,I1,r,z,q⟩=>⟨by rw[<- r.length];exact z,?_⟩);have hf:H1 s1.heap.objs.size=none:=I1.hok.fresh (zqa _);refine⟨.ref s1.heap.objs.size,upd H1 s1.heap.objs.size (.tup xs),I1.laid (t':=s1.toks) (fun b u e=>Heap.get?_push_of_some _ e) (zqa _) ?_,rfl,q _ hf⟩;exact⟨z,us,r,⟨_,Heap.get?_push_size _ rfl,rfl,_,rfl⟩⟩
theorem Z4(h:PA X es t):PE X (.List es pos) (tLst t):=by
 intro pins s σ H Q I hq;refine wpAny_List_spliced (thn (h pos pins s σ H _ I hq) fun us s1 ⟨xs,H1,I1,r,z,q⟩=>⟨by rw[<- r.length];exact z,?_⟩);have hf:H1 s1.heap.objs.size=none:=I1.hok.fresh (zqa _);refine⟨.ref s1.heap.objs.size,upd H1 s1.heap.objs.size (.lst xs),I1.laid (t':=s1.toks) (fun b u e=>Heap.get?_push_of_some _ e) (zqa _) ?_,rfl,q _ hf⟩;exact⟨z,us,0,r,Heap.get?_push_size _ rfl⟩
end
abbrev Sp:=List V->Hp->VK->XK->Prop
abbrev CXT:=List Env->Hp->Shared->XK->Value->Shared->Prop
structure Nk(P:Program)(w:World)(K:Frag)(mg:Str->Option Value)(base:Heap)(A:Around)(outer:List Env)(s:Shared)(H:Hp):Prop where
 frames:A.frames=some outer
 mod:Mod K mg base
 bs:∀ b o,base.get? b=some o->s.heap.get? b=some o/\H b=none
 bsz:base.objs.size<=s.heap.objs.size
 funs:s.heap.FunFrames base outer
 frf:∀ b∈frs outer,H b=none
 hok:HOk P w H s.heap
 bare:AllBare s.gens
def CE(outer:List Env)(P:Program)(w:World)(H:Hp)(s:Shared)(Q:VK)(u:Value)(s':Shared):Prop :=
 ∃ v H',s'.os=s.os/\AllBare s'.gens/\Un (frs outer) [] H H' s.heap s'.heap/\HOk P w H' s'.heap/\RelV v u/\Q v H'
def CR(CX:CXT)(outer:List Env)(P:Program)(w:World)(H:Hp)(s:Shared)(Q:VK)(E:XK)(r:Result)(s':Shared):Prop :=
 match r with
 | .ok (.ret u)=>CE outer P w H s Q u s'
 | .ok _=>False
 | .error e=>CX outer H s E e s'
structure FnOk(P:Program)(w:World)(K:Frag)(mg:Str->Option Value)(base:Heap)(CX:CXT)(k:Nat)(f:Addr)(fd:FuncData)(ps:List Str)(sp:Sp):Prop where
 len:∀ vs H Q E,sp vs H Q E->vs.length=ps.length
 run:∀ (A:Around) (outer:List Env) (s:Shared) (H:Hp) (args:Args) (us:List Value) (vs:List V) (Q:VK) (E:XK),Wd k A->Nk P w K mg base A outer s H->BindsTo s fd args (ps.zip us)->Vals vs us->sp vs H Q E ->
  codeAny (model P w) A (.call (.ref f) args) (CR CX outer P w H s Q E) s
theorem Nk.make{P:Program}{w:World}{K:Frag}{mg:Str->Option Value}{base:Heap}{A:Around}{outer:List Env}{s:Shared}{H:Hp}(e:Nk P w K mg base A outer s H)(C:Addr)(us:List Value)(kw:List (Str×Value)) :
  Nk P w K mg base (A.under (.builtin "type.__call__" ⟨.ref C :: us,kw⟩)) outer s H:=⟨by first|exact e.frames|(simpa [Around.under,Code.envs,Code.isFrame,pushEnvs] using e.frames),e.mod,e.bs,e.bsz,e.funs,e.frf,e.hok,e.bare⟩
section
variable{X:Cx}{pins:List (Addr×Obj)}{σ:St}{H:Hp}{s s':Shared}
theorem Inv.env0(I:Inv X pins σ H s):Nk X.prog X.w X.K X.mg X.base X.A X.stack s H :=
 ⟨I.ok.frames,I.ok.mod,I.bs,zqr I.ok.bsz I.sz,I.stack,I.stkFree,I.hok,I.bare⟩
theorem Inv.after(I:Inv X pins σ H s)(h:CE X.stack X.prog X.w H s Q u s'):EP X pins σ Q u s':=by
 obtain⟨v,H',os,bare,un,hok,r,q⟩:=h;obtain⟨hh,g,d,t,os'⟩:=s';obtain rfl:os'=s.os:=os;exact⟨v,H',I.call (h':=hh) (g':=g) (d':=d) (t':=t) (ch:=[]) un hok bare (fun b z=>absurd z (by simp)),r,q⟩
end
def Ap(sp:Sp)(dvs:List V)(E:XK)(t:TA):TE:=fun σ H Q=>t σ H fun vs H1=>sp (vs++dvs) H1 Q E
inductive zdy(C:Addr)(m:Str)(sp:Sp)(dvs:List V)(E:XK)(t:TA)(σ:L2.St)(Q:VK)(x:V)(H1:Hp):Prop where
 | mk(a)(dx)(fs)(_:x=.ref a)(_:H1 a=some (.ins C dx fs))(_:fs.lookup m=none)(_:t σ H1 fun vs H2=>sp (x :: (vs++dvs)) H2 Q E)
def Dr(C:Addr)(m:Str)(sp:Sp)(dvs:List V)(E:XK)(ta:TE)(t:TA):TE:=fun σ H Q=>ta σ H fun x H1=>zdy C m sp dvs E t σ Q x H1
def Du(C:Addr)(sp:Sp)(dvs:List V)(E:XK)(t:TA):TE:=fun σ H Q=>t σ H fun vs H1=>∀ x dx,H1 x=none->H1 dx=none->dx≠x ->
 sp (.ref x :: (vs++dvs)) (upd (upd H1 dx (.own x)) x (.ins C dx [])) (fun v H2=>v=.non/\Q (.ref x) H2) E
def To(K:Frag)(fd:FuncData)(ps:List Str)(ds:List Value):Prop :=
 ∀ (s:Shared) (us:List Value),K.In s.heap->(us++ds).length=ps.length->BindsTo s fd ⟨us,[]⟩ (ps.zip (us++ds))
theorem To.all{K:Frag}{fd:FuncData}{ps:List Str}(h:∀ us:List Value,us.length=ps.length->bindArgs fd ⟨us,[]⟩=pure (ps.zip us)):To K fd ps []:=fun s us _ hl=>by
 rw[List.append_nil] at hl ⊢;exact .of_eq (h us hl)
def X0(CX:CXT)(X:Cx)(E:XK):Prop:=∀ (pins:List (Addr×Obj)) (σ:St) (H:Hp) (s:Shared) (e:Value) (s':Shared),Inv X pins σ H s->CX X.stack H s E e s'->X.xe e s'
section
variable{X:Cx}{CX:CXT}{k:Nat}{f C:Addr}{fd:FuncData}{ps:List Str}{sp:Sp}{dvs:List V}{ds:List Value}{E:XK}{x m:Str}{p pos apos:Pos}{e o:Expr}{es:List Expr}{ta:TE}{t:TA}
theorem Ek(F:FnOk X.prog X.w X.K X.mg X.base CX k f fd ps sp)(hr:Wd k X.A)(hb:To X.K fd ps ds)(hd:Vals dvs ds)(hx:X0 CX X E)
  (I:Inv X pins σ H s) (r:Vals vs us) (h:sp (vs++dvs) H Q E):wpAny (model X.prog X.w) X.A (call (.ref f) us) (EP X pins σ Q) X.xe s:=by
 have r2:Vals (vs++dvs) (us++ds):=r.append hd;have hl:(us++ds).length=ps.length:=by rw[<- r2.length];exact F.len _ _ _ _ h
 refine wpAny_call (codeAny_mono (F.run X.A X.stack s H ⟨us,[]⟩ (us++ds) (vs++dvs) Q E hr I.env0 (hb s us I.kIn hl) r2 h) fun r s' hq=>?_);cases r with
 | error e=>exact hx pins σ H s e s' I hq
 | ok fl =>
   cases fl with
   | ret u=>exact I.after hq
   | next=>exact False.elim hq
   | brk=>exact False.elim hq
   | cont=>exact False.elim hq
theorem zbv(F:FnOk X.prog X.w X.K X.mg X.base CX k f fd ps sp)(hr:Wd k X.A)(hg:Gl X x)(hm:X.mg x=some (.ref f))(hk:PySem.W.keepIn X.K (.ref f)=true)(hb:To X.K fd ps ds)(hd:Vals dvs ds)(hx:X0 CX X E)
  (ha:PA X (e :: es) t) (hdb:(x == ("__debug__":Str))=false:=by decide) (he:starEach (e :: es) X.env=(false,eval e X.env) :: starEach es X.env:=by rfl) (hpl:(backTo pos (starEach es X.env)).any (·.1)=false:=by rfl) :
  PE X (.Call (.Name x p) (e :: es) [] pos) (Ap sp dvs E t):=by
 intro pins s σ H Q I h;refine wpAny_Call_Name_kw (V0 I hg hm ?_ hdb);refine PySem.W.callWith_K (h₀:=X.base) I.ok.mod.kin hk (thn (ha pos pins s σ H _ I h) fun us s1 ⟨vs,H1,I1,r,q⟩=>⟨I1.kIn,?_⟩) he hpl;exact Ek F hr hb hd hx I1 r q
theorem zbw(he:PE X o ta)(c:Cls X.K C)(hm:Ao X.K C m f)(F:FnOk X.prog X.w X.K X.mg X.base CX k f fd ps sp)(hr:Wd k X.A)(hb:To X.K fd ps ds)(hd:Vals dvs ds)(hx:X0 CX X E)(ha:PA X (e :: es) t)
  (hst:starEach (e :: es) X.env=(false,eval e X.env) :: starEach es X.env:=by rfl) (hpl:(backTo pos (starEach es X.env)).any (·.1)=false:=by rfl)
  (ht:eval (.Call (.Attribute o m apos) (e :: es) [] pos) X.env=(do
   let ov <- eval o X.env
   standAt apos.atName
   let (f,first) <- holding [ov] (getMethod ov m pl)
   callWith pos f first (backTo pos (starEach (e :: es) X.env)) (backToKw pos (keywordEach [] X.env))):=by rfl) :
  PE X (.Call (.Attribute o m apos) (e :: es) [] pos) (Dr C m sp dvs E ta t):=by
 intro pins s σ H Q I h;refine PySem.W.methodCall_KW (pl:=pl) (thn (he pins s σ H _ I h) fun u s1 ⟨x,H1,I1,rx,a,dx,fs,ex,ea,l,q⟩=>?_) ht;subst ex;obtain rfl:u=Value.ref a:=rx;refine Mp I1 ea c hm l ?_;refine PySem.W.callWith_K (first:=[.ref a]) (h₀:=X.base) I.ok.mod.kin hm.kp (thn (ha pos pins s1 σ H1 _ I1 q) fun us s2 ⟨vs,H2,I2,r,q2⟩=>⟨I2.kIn,?_⟩) hst hpl;exact Ek (us:=.ref a :: us) (vs:=.ref a :: vs) F hr hb hd hx I2 (.cons rfl r) q2
theorem Aq(he:PE X o ta)(c:Cls X.K C)(hm:Ao X.K C m f)(F:FnOk X.prog X.w X.K X.mg X.base CX k f fd ps sp)(hr:Wd k X.A)(hb:To X.K fd ps ds)(hd:Vals dvs ds)(hx:X0 CX X E)
  (ht:eval (.Call (.Attribute o m apos) [] [] pos) X.env=(do
   let ov <- eval o X.env
   standAt apos.atName
   let (f,first) <- holding [ov] (getMethod ov m pl)
   callWith pos f first (backTo pos (starEach [] X.env)) (backToKw pos (keywordEach [] X.env))):=by rfl) :
  PE X (.Call (.Attribute o m apos) [] [] pos) (Dr C m sp dvs E ta tNil):=by
 intro pins s σ H Q I h;refine PySem.W.methodCall_KW (pl:=pl) (thn (he pins s σ H _ I h) fun u s1 ⟨x,H1,I1,rx,a,dx,fs,ex,ea,l,q⟩=>?_) ht;subst ex;obtain rfl:u=Value.ref a:=rx;refine Mp I1 ea c hm l ?_;exact PySem.W.callWith_K0 (first:=[.ref a]) I1.kIn hm.kp (Ek (us:=[.ref a]) (vs:=[.ref a]) F hr hb hd hx I1 (.cons rfl .nil) q)
structure Mk(K:Frag)(C f:Addr):Prop where
 makes:PySem.W.makesIn K C=true
 init:PySem.W.findIn K (.ref C) "__init__"=some (some (.ref f))
 fn:PySem.W.isFn K (.ref f)=true
 kp:PySem.W.keepIn K (.ref C)=true
theorem Gn(M:Mk X.K C f)(F:FnOk X.prog X.w X.K X.mg X.base CX k f fd ps sp)(hr:Wd (k+1) X.A)(hb:To X.K fd ps ds)(hd:Vals dvs ds)
  (hx:X0 CX X E) (I:Inv X pins σ H s) (r:Vals vs us)
  (h:∀ x dx,H x=none->H dx=none->dx≠x->sp (.ref x :: (vs++dvs)) (upd (upd H dx (.own x)) x (.ins C dx [])) (fun v H2=>v=.non/\Q (.ref x) H2) E) :
  wpAny (model X.prog X.w) X.A (call (.ref C) us) (EP X pins σ Q) X.xe s:=by
 have hq:=h (s.heap.objs.size+1) s.heap.objs.size (I.hok.fresh (zrn _)) (I.hok.fresh (zqa _)) (zqu (Nat.lt_succ_self _));have I2:=Inv.made (C:=C) I;have r2:Vals (V.ref (s.heap.objs.size+1) :: (vs++dvs)) (Value.ref (s.heap.objs.size+1) :: (us++ds)):=.cons rfl (r.append hd);have hl:(Value.ref (s.heap.objs.size+1) :: us++ds).length=ps.length:=by
  have e:=r2.length;rw[F.len _ _ _ _ hq] at e;exact e.symm
 refine wpAny_call (An (f:=f) I.kIn M.makes M.init (beq_iff_eq.mp M.fn) (codeAny_mono (F.run _ X.stack _ _ ⟨Value.ref (s.heap.objs.size+1) :: us,[]⟩ (Value.ref (s.heap.objs.size+1) :: (us++ds)) _ _ E (hr.make C us [])
  (I2.env0.make C us []) (hb _ (Value.ref (s.heap.objs.size+1) :: us) I2.kIn hl) r2 hq) fun r s' hq'=>?_))
 cases r with
 | error e=>exact hx pins σ _ _ e s' I2 hq'
 | ok fl =>
   cases fl with
   | ret u =>
     obtain⟨v,H',I3,rv,ev,q3⟩:=I2.after hq';subst ev;exact⟨rv,⟨V.ref (s.heap.objs.size+1),H',I3,rfl,q3⟩⟩
   | next=>exact False.elim hq'
   | brk=>exact False.elim hq'
   | cont=>exact False.elim hq'
theorem zbx(M:Mk X.K C f)(F:FnOk X.prog X.w X.K X.mg X.base CX k f fd ps sp)(hr:Wd (k+1) X.A)(hg:Gl X x)(hm:X.mg x=some (.ref C))(hb:To X.K fd ps ds)(hd:Vals dvs ds)(hx:X0 CX X E)
  (ha:PA X (e :: es) t) (hdb:(x == ("__debug__":Str))=false:=by decide) (he:starEach (e :: es) X.env=(false,eval e X.env) :: starEach es X.env:=by rfl) (hpl:(backTo pos (starEach es X.env)).any (·.1)=false:=by rfl) :
  PE X (.Call (.Name x p) (e :: es) [] pos) (Du C sp dvs E t):=by
 intro pins s σ H Q I h;refine wpAny_Call_Name_kw (V0 I hg hm ?_ hdb);refine PySem.W.callWith_K (h₀:=X.base) I.ok.mod.kin M.kp (thn (ha pos pins s σ H _ I h) fun us s1 ⟨vs,H1,I1,r,q⟩=>⟨I1.kIn,?_⟩) he hpl;exact Gn M F hr hb hd hx I1 r q
theorem Ar(M:Mk X.K C f)(F:FnOk X.prog X.w X.K X.mg X.base CX k f fd ps sp)(hr:Wd (k+1) X.A)(hg:Gl X x)(hm:X.mg x=some (.ref C))(hb:To X.K fd ps ds)(hd:Vals dvs ds)(hx:X0 CX X E)
  (hdb:(x == ("__debug__":Str))=false:=by decide):PE X (.Call (.Name x p) [] [] pos) (Du C sp dvs E tNil):=by
 intro pins s σ H Q I h;refine wpAny_Call_Name_kw (V0 I hg hm ?_ hdb);exact PySem.W.callWith_K0 I.kIn M.kp (Gn (us:=[]) M F hr hb hd hx I .nil h)
end
section
variable{X:Cx}{CX:CXT}{k:Nat}{f C:Addr}{fd:FuncData}{ps ks:List Str}{sp:Sp}{E:XK}{x m:Str}{p pos apos kpos:Pos}{e o:Expr}{es:List Expr}{kws:List Keyword}{te ta:TE}{t tk:TA}{nm:Option Str}
structure zgy(K:Frag)(fd:FuncData)(ps ks:List Str)(g:List Value->List Value->List Value)(gV:List V->List V->List V):Prop where
 to:∀ (s:Shared) (us ws:List Value),K.In s.heap->(g us ws).length=ps.length->BindsTo s fd ⟨us,ks.zip ws⟩ (ps.zip (g us ws))
 rel:∀ {vs:List V} {us:List Value} {zs:List V} {ws:List Value},Vals vs us->Vals zs ws->Vals (gV vs zs) (g us ws)
variable{g:List Value->List Value->List Value}{gV:List V->List V->List V}
end
structure Zm(N P:List Str)(sc:Scope):Prop where
 kind:sc.kind=.function
 co:sc.isCoroutine=false
 gen:sc.isGenerator=false
 nd:N.Nodup
 pre:N.take P.length=P
 par:∀ x∈P,sc.names.lookup x=some .local\/sc.names.lookup x=some .cell
 nofree:∀ y∈sc.names,y.2≠.free
theorem K8{kindOf:Str->Option NameKind}{x:Str}:∀ {binds:List (Str×Value)} {m:Str->Option Value},(∀ v,(x,v)∉binds)->bindL kindOf binds m x=m x
 | [],_,_=>rfl
 | (n,v) :: r,m,h=>by
   unfold bindL;rw[K8 fun w hw=>h w (zql _ hw)];split
   ·have:x≠n:=by rintro rfl;exact h v zqp
    simp[this]
   ·rfl
theorem K9{kindOf:Str->Option NameKind}{x:Str}:∀ {binds:List (Str×Value)} {m:Str->Option Value},(∀ v,(x,v)∉binds)->bindC kindOf binds m x=m x
 | [],_,_=>rfl
 | (n,v) :: r,m,h=>by
   unfold bindC;rw[K9 fun w hw=>h w (zql _ hw)];split
   ·rfl
   ·have:x≠n:=by rintro rfl;exact h v zqp
    simp[this]
theorem Ja{kindOf:Str->Option NameKind}{x:Str}{v:Value}:∀ {P:List Str} {vs:List Value} {i:Nat} {m:Str->Option Value},P.Nodup->P[i]?=some x->vs[i]?=some v->kindOf x=some .local ->
  bindL kindOf (P.zip vs) m x=some v
 | [],_,_,_,_,h,_,_=>by simp at h
 | _ :: _,[],_,_,_,_,h,_=>by simp at h
 | p :: P,w :: vs,0,m,nd,h1,h2,hk=>by
   simp at h1 h2;subst h1;subst h2;show bindL kindOf ((p,w) :: P.zip vs) m p=_;unfold bindL;rw[K8 fun v hv=>(zqt.mp nd).1 (List.of_mem_zip hv).1,if_pos hk];simp
 | p :: P,w :: vs,i+1,m,nd,h1,h2,hk=>by
   show bindL kindOf ((p,w) :: P.zip vs) m x=_;unfold bindL;exact Ja (i:=i) (zqt.mp nd).2 (by simpa using h1) (by simpa using h2) hk
theorem Jb{kindOf:Str->Option NameKind}{x:Str}{v:Value}:∀ {P:List Str} {vs:List Value} {i:Nat} {m:Str->Option Value},P.Nodup->P[i]?=some x->vs[i]?=some v->kindOf x≠some .local ->
  bindC kindOf (P.zip vs) m x=some v
 | [],_,_,_,_,h,_,_=>by simp at h
 | _ :: _,[],_,_,_,_,h,_=>by simp at h
 | p :: P,w :: vs,0,m,nd,h1,h2,hk=>by
   simp at h1 h2;subst h1;subst h2;show bindC kindOf ((p,w) :: P.zip vs) m p=_;unfold bindC;rw[K9 fun v hv=>(zqt.mp nd).1 (List.of_mem_zip hv).1,if_neg hk];simp
 | p :: P,w :: vs,i+1,m,nd,h1,h2,hk=>by
   show bindC kindOf ((p,w) :: P.zip vs) m x=_;unfold bindC;exact Jb (i:=i) (zqt.mp nd).2 (by simpa using h1) (by simpa using h2) hk
def O8(N:List Str)(vs:List V):St:=vs.map some++List.replicate (N.length-vs.length) none
def cxOf(CX:CXT)(P:Program)(w:World)(K:Frag)(mg:Str->Option Value)(base:Heap)(N:List Str)(qual:Str)(scope:Scope)(f:Addr)(cd:Value)(A:Around)(outer:List Env)(s:Shared)(H:Hp)(E:XK):Cx where
 prog:=P
 w:=w
 K:=K
 mg:=mg
 base:=base
 A:=A.deeper (envOfC qual scope s.heap.objs.size f cd)
 N:=N
 s₀:=s
 H₀:=H
 env:=envOfC qual scope s.heap.objs.size f cd
 outer:=outer
 stack:=envOfC qual scope s.heap.objs.size f cd :: outer
 ex:=[]
 calm:=true
 fn:=fun _=>true
 pn:=[]
 xe:=fun e s'=>wpAny (model P w) (A.deeper (envOfC qual scope s.heap.objs.size f cd)) (leaving (envOfC qual scope s.heap.objs.size f cd) e) (fun _ s''=>CX outer H s E e s'') (fun e' s''=>CX outer H s E e' s'') s'
theorem Gp{sc:Scope}{n:Nat}{x:Str}(h:sc.names.lookup x=some .cell):∃ c,(cellsFrom n sc.names []).lookup x=some c:=by
 have q:=PySem.W.cellsFrom_some sc.names n [] (.inl h);exact zrc.mp q
theorem C4{CX:CXT}{P:Program}{w:World}{K:Frag}{mg:Str->Option Value}{base:Heap}{N ps:List Str}{qual:Str}{scope:Scope}{f:Addr}{cd:Value}{A:Around}{outer:List Env}{s s1:Shared}{H:Hp}{E:XK}{us:List Value}{vs:List V}
  (S:Zm N ps scope) (hd:A.handled=none) (e0:Nk P w K mg base A outer s H) (hl:vs.length=ps.length) (r:Vals vs us)
  (x:InCallC s s.heap.objs.size (bindL (envOfC qual scope s.heap.objs.size f cd).kindOf (ps.zip us) fun _=>none) (cellsFrom (s.heap.objs.size+1) scope.names []) (bindC (envOfC qual scope s.heap.objs.size f cd).kindOf (ps.zip us) fun _=>none) s1) :
  Inv (cxOf CX P w K mg base N qual scope f cd A outer s H E) [] (O8 N vs) H s1:=by
 have hpl:ps.length<=N.length:=by have:=congrArg List.length S.pre;rw[List.length_take] at this;omega
 obtain⟨h1,tk,rfl,hk⟩:=x.done;have noA:∀ b:Addr,b∉(cxOf CX P w K mg base N qual scope f cd A outer s H E).ex:=fun b z=>absurd (show b∈([]:List Addr) from z) (by simp);refine⟨⟨e0.mod,S.kind,rfl,rfl,zqa _,fun y z c h1 h2=>?_,fun y hy=>?_,fun y c _ h=>?_,fun _=>hd,Around.frames_deeper e0.frames,.inr ⟨rfl,rfl⟩,fun b z=>absurd z (noA b),e0.bs,e0.bsz,fun b _ _=>noA b,fun b z=>absurd z (noA b),e0.funs,e0.frf⟩,
  rfl,e0.bare,Un.kept hk,⟨_,x.toInCall.ns,fun i y v h1 h2 h3=>?_⟩,fun y c h=>⟨_,x.cell y c h⟩,e0.hok.fresh (zqa _),fun y c h=>?_,fun p hp=>absurd (show p∈([]:List (Addr×Obj)) from hp) (by simp),e0.hok.kept hk,?_⟩
 ·exact name_of_addr x.apart (PySem.mem_of_lookup h1) (PySem.mem_of_lookup h2)
 ·have hy:scope.names.lookup y=some .cell\/scope.names.lookup y=some .free:=hy;rcases hy with hy|hy
  ·exact Gp hy
  ·exact absurd rfl (S.nofree _ (PySem.mem_of_lookup hy))
 ·exact Nat.le_of_lt (x.above y c (PySem.mem_of_lookup h))
 ·have h2:=h2.resolve_right (Xn _);have hi:i<vs.length:=by
   unfold O8 at h2;by_cases hi:i<vs.length
   ·exact hi
   ·rw[zqy (by simpa using hi)] at h2;rw[List.getElem?_replicate] at h2;split at h2<;>cases h2
  have ha:vs[i]?=some v:=by
   unfold O8 at h2;rw[zqw (by simpa using hi),zqb] at h2;cases e:vs[i]? with
   | none=>rw[e] at h2;cases h2
   | some a=>rw[e] at h2;cases h2;rfl
  obtain⟨u,hu,rv⟩:=r.get ha;have hp:ps[i]?=some y:=by
   rw[<- S.pre,List.getElem?_take_of_lt ⋯];exact h1
  have ndP:ps.Nodup:=by rw[<- S.pre];exact S.nd.sublist (List.take_sublist _ _)
  refine⟨u,rv,?_⟩;rcases S.par y (zqf hp) with k|k
  ·exact .inl ⟨k,Ja ndP hp hu k⟩
  ·obtain⟨c,e⟩:=Gp (n:=s.heap.objs.size+1) k;refine .inr ⟨.inl k,c,e,?_⟩;have q:=x.cell y c e;rw[Jb ndP hp hu (by show scope.names.lookup y≠_;rw[k];decide)] at q;exact q
 ·exact e0.hok.fresh (Nat.le_of_lt (x.above y c (PySem.mem_of_lookup h)))
 ·unfold O8;show _=N.length;rw[zp6,zp3,List.length_replicate];omega
theorem zfq{CX:CXT}{P:Program}{w:World}{K:Frag}{mg:Str->Option Value}{base:Heap}{k:Nat}{f:Addr}{name qual:Str}{params:Arguments}{body:List Stmt}{scope:Scope}{dV kV doc pm cdv ct oc:Value}{an od:Option Addr}
  {osl:Array (Option Value)} {N ps:List Str} {sp:Sp} (lk:K.lookup f=some ⟨oc,od,.func (PySem.W.fnOf name qual params body scope dV kV doc pm an cdv ct),osl⟩) (hcd:PySem.W.codeIn K cdv qual=true) (S:Zm N ps scope)
  (len:∀ vs H Q E,sp vs H Q E->vs.length=ps.length)
  (hbody:∀ (A:Around) (outer:List Env) (s:Shared) (H:Hp) (vs:List V) (Q:VK) (E:XK),Wd k (A.deeper (envOfC qual scope s.heap.objs.size f cdv))->sp vs H Q E ->
   ∃ t,PSs (cxOf CX P w K mg base N qual scope f cdv A outer s H E) body t/\t { nx:=fun _ H'=>Q .non H',rt:=Q } (O8 N vs) H) :
  FnOk P w K mg base CX (k+1) f (PySem.W.fnOf name qual params body scope dV kV doc pm an cdv ct) ps sp:=by
 refine⟨len,fun A outer s H args us vs Q E hr e0 hb r hsp=>?_⟩;have hl:=len _ _ _ _ hsp;have KX:K.In s.heap:=e0.mod.kin.keeps fun b o e=>(e0.bs b o e).1;have lim:s.heap.NoLimit:=e0.mod.nolimit.keeps fun b o e=>(e0.bs b o e).1;have hkind:∀ y∈ps.zip us,scope.names.lookup y.1=some .local\/(scope.names.lookup y.1=some .cell/\((cellsFrom (s.heap.objs.size+1) scope.names []).lookup y.1).isSome=true):=fun ⟨n,v⟩ hy=>by
  rcases S.par n (List.of_mem_zip hy).1 with q|q
  ·exact .inl q
  ·exact .inr ⟨q,PySem.W.cellsFrom_some _ _ _ (.inl q)⟩
 refine codeAny_call_function hr.depth (KX _ _ lk) rfl S.co S.gen rfl (PySem.W.codeRec_of KX hcd) (hb _ _ _ _ ?_);refine wpAny_newFunctionEnv_cells S.kind hkind fun env he s1 x=>?_;subst he;refine⟨lim.keeps x.toInCall.keep,codeAny_func ?_⟩;obtain⟨t,ht,hq⟩:=hbody A outer s H vs Q E (hr.deeper _) hsp;have I:Inv (cxOf CX P w K mg base N qual scope f cdv A outer s H E) [] (O8 N vs) H s1:=C4 S hr.hd e0 hl r x;refine wpAny_mono (ht [] s1 (O8 N vs) H _ I hq) (fun fl s' hs=>?_) fun e s' hs=>hs;have fin:∀ {σ':St} {H':Hp} {v:V} {u:Value},Inv (cxOf CX P w K mg base N qual scope f cdv A outer s H E) [] σ' H' s'->RelV v u->Q v H'->CE outer P w H s Q u s' :=
  fun {σ' H' v u} J rv q=>⟨v,H',J.os,J.bare,J.base,J.hok,rv,q⟩
 cases fl with
 | ret u =>
   obtain⟨v,σ',H',J,rv,q⟩:=hs;exact fin J rv q
 | next =>
   obtain⟨σ',H',J,q⟩:=hs;exact fin (v:=V.non) (u:=Value.none) J rfl q
 | brk =>
   obtain⟨_,_,_,q⟩:=hs;exact False.elim q
 | cont =>
   obtain⟨_,_,_,q⟩:=hs;exact False.elim q
section
variable{X:Cx}{x:Str}{p pos:Pos}{e:Expr}{es:List Expr}{t:TA}{id T:String}{r:List V->Hp->VK->Prop}
def tCB(r:List V->Hp->VK->Prop)(t:TA):TE:=fun σ H Q=>t σ H fun vs H1=>r vs H1 Q
theorem Zs(hc:Wv X (.builtin id) r)(hg:Gl X x)(hm:X.mg x=none)(hv:bootBuiltins x=some (.builtin id))(ha:PA X (e :: es) t)(hn:x≠"__name__":=by decide)(hdb:(x == ("__debug__":Str))=false:=by decide)
  (he:starEach (e :: es) X.env=(false,eval e X.env) :: starEach es X.env:=by rfl) (hpl:(backTo pos (starEach es X.env)).any (·.1)=false:=by rfl):PE X (.Call (.Name x p) (e :: es) [] pos) (tCB r t):=by
 intro pins s σ H Q I h;refine wpAny_Call_Name_kw (Qg I hg hm hv ?_ hn hdb);exact PyProof.Rows.callWith_builtin1 (thn (ha pos pins s σ H _ I h) fun us s1 ⟨vs,H1,I1,r1,q1⟩=>hc pins s1 σ H1 vs us Q I1 r1 q1) he hpl
theorem Yt(hc:Wv X (.type T) r)(hg:Gl X x)(hm:X.mg x=none)(hv:bootBuiltins x=some (.type T))(ha:PA X (e :: es) t)(hn:x≠"__name__":=by decide)(hdb:(x == ("__debug__":Str))=false:=by decide)
  (he:starEach (e :: es) X.env=(false,eval e X.env) :: starEach es X.env:=by rfl) (hpl:(backTo pos (starEach es X.env)).any (·.1)=false:=by rfl):PE X (.Call (.Name x p) (e :: es) [] pos) (tCB r t):=by
 intro pins s σ H Q I h;refine wpAny_Call_Name_kw (Qg I hg hm hv ?_ hn hdb);exact PyProof.Rows.callWith_type1 (thn (ha pos pins s σ H _ I h) fun us s1 ⟨vs,H1,I1,r1,q1⟩=>hc pins s1 σ H1 vs us Q I1 r1 q1) he hpl
end
section
variable{κ:Type}[DecidableEq κ]
def valV(kvs:List (κ×V))(k:κ):Option V:=(kvs.find? fun kv=>decide (kv.1=k)).map (·.2)
def putK(kvs:List (κ×V))(k:κ)(v:V):List (κ×V) :=
 if (kvs.any fun kv=>decide (kv.1=k))=true then kvs.map (fun kv=>if kv.1=k then (kv.1,v) else kv) else kvs++[(k,v)]
def Xh(kvs:List (κ×V))(k:κ):List (κ×V):=kvs.filter fun kv=>decide (kv.1≠k)
theorem zfr:valV ([]:List (κ×V)) k=none:=rfl
theorem Yu{p:κ×V}{r:List (κ×V)}{k:κ}(e:p.1=k):valV (p :: r) k=some p.2:=by simp[valV,zro,e]
theorem Ys{p:κ×V}{r:List (κ×V)}{k:κ}(e:¬ p.1=k):valV (p :: r) k=valV r k:=by simp[valV,zro,e]
theorem Tp(k:κ):∀ kvs:List (κ×V),(kvs.any fun kv=>decide (kv.1=k))=(valV kvs k).isSome
 | []=>rfl
 | p :: r=>by
   rw[zrk];by_cases e:p.1=k
   ·simp only[Yu e,zp8 e,Bool.true_or,Option.isSome_some]
   ·rw[Ys e,zqd e,Bool.false_or];exact Tp k r
theorem Gq(k j:κ)(y:V):∀ kvs:List (κ×V),valV (kvs.map fun kv=>if kv.1=k then (kv.1,y) else kv) j=(valV kvs j).map fun x=>if j=k then y else x
 | []=>rfl
 | p :: r=>by
   have ih:=Gq k j y r;rw[zqc];by_cases h:p.1=k
   ·rw[if_pos h];by_cases e:p.1=j
    ·rw[Yu (p:=(p.1,y)) e,Yu e,zq6,if_pos (e.symm.trans h)]
    ·rw[Ys (p:=(p.1,y)) e,Ys e,ih]
   ·rw[if_neg h];by_cases e:p.1=j
    ·rw[Yu (p:=p) e,Yu e,zq6,if_neg (fun z=>h (e.trans z))]
    ·rw[Ys (p:=p) e,Ys e,ih]
theorem Jc(k j:κ)(y:V):∀ kvs:List (κ×V),valV kvs k=none->valV (kvs++[(k,y)]) j=if j=k then some y else valV kvs j
 | [],_=>by
   by_cases e:k=j
   ·rw[if_pos e.symm];exact Yu (p:=(k,y)) e
   ·rw[if_neg (fun z=>e z.symm)];exact Ys (p:=(k,y)) e
 | p :: r,hn=>by
   rw[List.cons_append];have hk:¬ p.1=k:=fun z=>by rw[Yu z] at hn;cases hn
   rw[Ys hk] at hn;have ih:=Jc k j y r hn;by_cases e:p.1=j
   ·rw[Yu e,Yu e,if_neg (fun z=>hk (e.trans z))]
   ·rw[Ys e,Ys e,ih]
theorem Tq(kvs:List (κ×V))(k j:κ)(y:V):valV (putK kvs k y) j=if j=k then some y else valV kvs j:=by
 unfold putK;by_cases a:(kvs.any fun kv=>decide (kv.1=k))=true
 ·rw[if_pos a,Gq];rw[Tp] at a;by_cases e:j=k
  ·obtain⟨x,hx⟩:=zrc.mp a;rw[if_pos e,e,hx,zq6,if_pos rfl]
  ·rw[if_neg e];cases valV kvs j with
   | none=>rfl
   | some x=>rw[zq6,if_neg e]
 ·rw[if_neg a];refine Jc k j y kvs ?_;rw[Tp] at a;cases q:valV kvs k with
  | none=>rfl
  | some x=>rw[q] at a;exact(a rfl).elim
theorem X1(kvs:List (κ×V))(k:κ)(v:V):(putK kvs k v).length<=kvs.length+1:=by
 unfold putK;split
 ·rw[zp3];omega
 ·rw[zp6,zqs,List.length_nil];omega
theorem As{kvs:List (κ×V)}{k:κ}(v:V)(h:valV kvs k=none):putK kvs k v=kvs++[(k,v)]:=by
 unfold putK;rw[Tp,h];exact if_neg ⋯
theorem RelO.isSome_eq(r:RelO o u):o.isSome=u.isSome:=by
 cases o with
 | none=>cases u with
   | none=>rfl
   | some _=>exact(show False from r).elim
 | some _=>cases u with
   | none=>exact(show False from r).elim
   | some _=>rfl
theorem RelO.getD(r:RelO o u)(rd:RelV d d'):RelV (o.getD d) (u.getD d'):=by
 cases o with
 | none=>cases u with
   | none=>exact rd
   | some _=>exact(show False from r).elim
 | some _=>cases u with
   | none=>exact(show False from r).elim
   | some _=>exact r
theorem KV.val{kvs:List (κ×V)}{vs:List (κ×Value)}(r:KV kvs vs)(k:κ):RelO (valV kvs k) (valueAt vs k):=by
 unfold KV at r
 induction r with
 | nil=>exact True.intro
 | @cons p q ps qs h t ih =>
   obtain⟨h1,h2⟩:=h;by_cases e:p.1=k
   ·have e':q.1=k:=h1.symm.trans e;have b:valueAt (q :: qs) k=some q.2:=by simp[valueAt,zro,e']
    rw[Yu e,b];exact h2
   ·have e':¬ q.1=k:=fun z=>e (h1.trans z);have b:valueAt (q :: qs) k=valueAt qs k:=by simp[valueAt,zro,e']
    rw[Ys e,b];exact ih
theorem KV.any(r:KV kvs vs)(k:κ):(kvs.any fun kv=>decide (kv.1=k))=vs.any fun kv=>decide (kv.1=k):=by
 unfold KV at r
 induction r with
 | nil=>rfl
 | cons h t ih=>rw[zrk,zrk,ih,h.1]
theorem KV.repl(r:KV kvs vs)(k:κ)(ry:RelV y u) :
  KV (kvs.map fun kv=>if kv.1=k then (kv.1,y) else kv) (vs.map fun kv=>if kv.1=k then (kv.1,u) else kv):=by
 unfold KV at r ⊢
 induction r with
 | nil=>exact .nil
 | @cons p q ps qs h t ih =>
   rw[zqc,zqc];refine .cons ?_ ih;obtain⟨h1,h2⟩:=h;by_cases e:p.1=k
   ·rw[if_pos e,if_pos (h1.symm.trans e)];exact⟨h1,ry⟩
   ·rw[if_neg e,if_neg (fun z=>e (h1.trans z))];exact⟨h1,h2⟩
theorem KV.put(r:KV kvs vs)(k:κ)(ry:RelV y u):KV (putK kvs k y) (stored vs k u):=by
 unfold putK stored;rw[r.any k];by_cases e:(vs.any fun kv=>decide (kv.1=k))=true
 ·rw[if_pos e,if_pos e];exact r.repl k ry
 ·rw[if_neg e,if_neg e];exact Paired.snoc r ⟨rfl,ry⟩
theorem KV.drop(r:KV kvs vs)(k:κ):KV (Xh kvs k) (without vs k):=by
 unfold KV at r ⊢;unfold Xh without
 induction r with
 | nil=>exact .nil
 | @cons p q ps qs h t ih =>
   obtain⟨h1,h2⟩:=h;rw[zrd,zrd];by_cases e:p.1=k
   ·have a:¬ decide (p.1≠k)=true:=by simp[e]
    have b:¬ decide (q.1≠k)=true:=by simp[h1.symm.trans e]
    rw[if_neg a,if_neg b];exact ih
   ·have e':¬ q.1=k:=fun z=>e (h1.trans z);have a:decide (p.1≠k)=true:=by simp[e]
    have b:decide (q.1≠k)=true:=by simp[e']
    rw[if_pos a,if_pos b];exact .cons ⟨h1,h2⟩ ih
theorem KV.keys{kvs:List (κ×V)}{vs:List (κ×Value)}(r:KV kvs vs):kvs.map (·.1)=vs.map (·.1):=by
 unfold KV at r
 induction r with
 | nil=>rfl
 | cons h t ih=>rw[zqc,zqc,ih,h.1]
theorem KV.length(r:KV kvs vs):kvs.length=vs.length:=Paired.length r
theorem Gs(kvs:List (κ×V))(k:κ):(Xh kvs k).length<=kvs.length:=zrp _ _
end
theorem O9(r:RelV (kV k) u):(Yg P w).is k u=true:=by
 cases k with
 | inl i=>obtain⟨t,e⟩:=(show ∃ t,u=Value.int i t from r);subst e;exact Gg P w i t
 | inr x=>obtain⟨t,e⟩:=(show ∃ t,u=Value.str x t from r);subst e;exact Gh P w x t
theorem Jd:∀ {ks:List Key} {us:List Value},Vals (ks.map kV) us->ItemsAre (Yg P w) ks us
 | [],_,r=>by rw[List.map_nil] at r;cases r;exact .nil
 | k :: ks,_,r=>by
   rw[zqc] at r;cases r with
   | cons h t=>exact .cons (O9 h) (Jd t)
abbrev KT(H:Hp):List (List Key×V)->List (List Key×Addr×Value)->Prop:=Paired fun p q=>p.1=q.1/\H q.2.1=some (.tup (p.1.map kV))/\RelV p.2 q.2.2
theorem KT.val{H:Hp}{kvs:List (List Key×V)}{xs:List (List Key×Addr×Value)}(r:KT H kvs xs)(k:List Key):RelO (valV kvs k) ((atKey xs k).map (·.2)):=by
 induction r with
 | nil=>exact True.intro
 | @cons p q ps qs h t ih =>
   obtain⟨h1,_,h2⟩:=h;by_cases e:p.1=k
   ·have e':q.1=k:=h1.symm.trans e;have b:atKey (q :: qs) k=some q.2:=by simp[atKey,zro,e']
    rw[Yu e,b];exact h2
   ·have e':¬ q.1=k:=fun z=>e (h1.trans z);have b:atKey (q :: qs) k=atKey qs k:=by simp[atKey,zro,e']
    rw[Ys e,b];exact ih
theorem KT.repl(r:KT H kvs xs)(k:List Key)(ry:RelV y u) :
  KT H (kvs.map fun kv=>if kv.1=k then (kv.1,y) else kv) (xs.map (putAt k u)):=by
 induction r with
 | nil=>exact .nil
 | @cons p q ps qs h t ih =>
   rw[zqc,zqc];refine .cons ?_ ih;obtain⟨h1,h2,h3⟩:=h;unfold putAt;by_cases e:p.1=k
   ·rw[if_pos e,if_pos (h1.symm.trans e)];exact⟨h1,h2,ry⟩
   ·rw[if_neg e,if_neg (fun z=>e (h1.trans z))];exact⟨h1,h2,h3⟩
theorem KT.put(r:KT H kvs xs)(k:List Key)(hb:H b=some (.tup (k.map kV)))(ry:RelV y u) :
  KT H (putK kvs k y) (storedH xs k b u):=by
 have e:(kvs.any fun kv=>decide (kv.1=k))=(atKey xs k).isSome:=by
  rw[Tp,(r.val k).isSome_eq,Option.isSome_map]
 unfold putK storedH;rw[e];by_cases q:(atKey xs k).isSome=true
 ·rw[if_pos q,if_pos q];exact r.repl k ry
 ·rw[if_neg q,if_neg q];exact Paired.snoc r ⟨rfl,hb,ry⟩
theorem KT.keeps(r:KT H kvs xs)(ht:∀ b ys,H b=some (.tup ys)->H' b=some (.tup ys)):KT H' kvs xs :=
 Paired.mapP r fun _ _ z=>⟨z.1,ht _ _ z.2.1,z.2.2⟩
section
variable{P:Program}{w:World}{H:Hp}{h:Heap}{a:Addr}
theorem zc3(ok:HOk P w H h)(e:Rd H a u):Yh P w H h a u:=e.ok ok
theorem R9(ok:HOk P w H h)(e:Rd H a (.dK kvs)):kvs.length<=sizeLine/\(a == sysModules)=false/\∃ vs,KV kvs vs/\h.DictOf (Yg P w) a vs :=
 show Yh P w H h a (.dK kvs) from zc3 ok e
theorem Au(ok:HOk P w H h)(e:H a=some (.dK kvs)):kvs.length<=sizeLine/\(a == sysModules)=false/\∃ vs,KV kvs vs/\h.DictOf (Yg P w) a vs:=R9 ok (.inl e)
theorem Qk(ok:HOk P w H h)(e:H a=some (.tup (ks.map kV))):(tupleKind (Yg P w)).is h ks a:=by
 obtain⟨_,its,r,o,h1,h2,n,h3⟩:=(show Yh P w H h a (.tup (ks.map kV)) from ok a _ e);exact⟨o,its.toArray,n,h1,h2,h3,by simpa using Jd r⟩
theorem Mq(ok:HOk P w H h)(e:Rd H a (.dT kvs)):kvs.length<=sizeLine/\(a == sysModules)=false /\
  ∃ xs,KT H kvs xs/\h.DictOfH (tupleKind (Yg P w)) a xs:=by
 obtain⟨z,y,xs,r,o,es,ep,h1,h2,h3,h4,h5⟩:=(show Yh P w H h a (.dT kvs) from zc3 ok e);refine⟨z,y,xs,r,o,es,ep,h1,h2,h3,h4,fun x hx=>?_,h5⟩;have all:∀ {l:List (List Key×V)} {m:List (List Key×Addr×Value)},KT H l m->∀ x∈m,(tupleKind (Yg P w)).is h x.1 x.2.1:=by
  intro l m q
  induction q with
  | nil=>intro x hx;exact nomatch hx
  | @cons p q ps qs hq t ih =>
    intro x hx;rcases zp7.mp hx with e|hx
    ·subst e;exact Qk ok (by rw[<- hq.1];exact hq.2.1)
    ·exact ih x hx
 exact all r x hx
theorem zc4(ok:HOk P w H h)(e:H a=some (.dT kvs)):kvs.length<=sizeLine/\(a == sysModules)=false /\
  ∃ xs,KT H kvs xs/\h.DictOfH (tupleKind (Yg P w)) a xs:=Mq ok (.inl e)
end
def DGet(H:Hp)(a:Addr)(y:V)(r:Option V):Prop :=
 (∃ kvs k,Rd H a (.dK kvs)/\y=kV k/\r=valV kvs k)\/∃ kvs k b,Rd H a (.dT kvs)/\y=.ref b/\H b=some (.tup (k.map kV))/\r=valV kvs k
def DPut(H:Hp)(a:Addr)(y v:V)(H':Hp):Prop :=
 (∃ kvs k,H a=some (.dK kvs)/\y=kV k/\kvs.length<sizeLine/\H'=upd H a (.dK (putK kvs k v))) \/
 ∃ kvs k b,H a=some (.dT kvs)/\y=.ref b/\H b=some (.tup (k.map kV))/\kvs.length<sizeLine/\H'=upd H a (.dT (putK kvs k v))
theorem DGet.k{H:Hp}{a:Addr}{kvs:List (Key×V)}{k:Key}(e:H a=some (.dK kvs)):DGet H a (kV k) (valV kvs k):=.inl ⟨kvs,k,.inl e,rfl,rfl⟩
theorem DGet.t{H:Hp}{a b:Addr}{kvs:List (List Key×V)}{k:List Key}(e:H a=some (.dT kvs))(eb:H b=some (.tup (k.map kV))):DGet H a (.ref b) (valV kvs k):=.inr ⟨kvs,k,b,.inl e,rfl,eb,rfl⟩
theorem DPut.k{H:Hp}{a:Addr}{kvs:List (Key×V)}{k:Key}{v:V}(e:H a=some (.dK kvs))(hl:kvs.length<sizeLine):DPut H a (kV k) v (upd H a (.dK (putK kvs k v))):=.inl ⟨kvs,k,e,rfl,hl,rfl⟩
theorem DPut.t{H:Hp}{a b:Addr}{kvs:List (List Key×V)}{k:List Key}{v:V}(e:H a=some (.dT kvs))(eb:H b=some (.tup (k.map kV)))(hl:kvs.length<sizeLine) :
  DPut H a (.ref b) v (upd H a (.dT (putK kvs k v))):=.inr ⟨kvs,k,b,e,rfl,eb,hl,rfl⟩
section
variable{X:Cx}{pins:List (Addr×Obj)}{σ:St}{H:Hp}{s:Shared}{a:Addr}{y v:V}{u r:Value}{o:Option V}{A:Around}{E:Value->Shared->Prop}
theorem Inv.big(I:Inv X pins σ H s):sysModules<s.heap.objs.size:=by
 have h:mainGlobals<s.heap.objs.size:=(I.mod.glob.keeps I.bk).lt;exact Nat.lt_trans ⋯ h
theorem C5(hu:A.units+1<cLine)(I:Inv X pins σ H s)(g:DGet H a y (some v))(ry:RelV y u)(h:∀ w' s',Inv X pins σ H s'->RelV v w'->Q w' s') :
  wpAny (model X.prog X.w) A (getItem (.ref a) u) Q E s:=by
 rcases g with ⟨kvs,k,e,ey,l⟩|⟨kvs,k,b,e,ey,eb,l⟩
 ·subst ey;obtain⟨z,hd,vs,rel,dd⟩:=R9 I.hok e;obtain⟨w',hw,rw'⟩:=RelO.some_of (v:=v) (o:=valueAt vs k) (by rw[l];exact rel.val k);exact wpAny_getItem_of (O9 ry) dd.mapOf hw (h w' _ (I.tok _) rw')
 ·subst ey;cases (show u=Value.ref b from ry);obtain⟨z,hd,xs,rel,dd⟩:=Mq I.hok e;obtain⟨w',hw,rw'⟩:=RelO.some_of (v:=v) (o:=(atKey xs k).map (·.2)) (by rw[l];exact rel.val k);obtain⟨p,hp,hp2⟩:=Option.map_eq_some_iff.mp hw;refine wpAny_getItem_heap (tupleKind_room_in1 hu) (Qk I.hok eb) dd hp ?_;rw[hp2];exact h w' _ (I.tok _) rw'
theorem zgz(hu:A.units+1<cLine)(I:Inv X pins σ H s)(g:DGet H a y o)(ry:RelV y u)(h:∀ s',Inv X pins σ H s'->Q (.bool o.isSome) s') :
  wpAny (model X.prog X.w) A (compareOp .In u (.ref a)) Q E s:=by
 rcases g with ⟨kvs,k,e,ey,l⟩|⟨kvs,k,b,e,ey,eb,l⟩
 ·subst ey;obtain⟨z,hd,vs,rel,dd⟩:=R9 I.hok e;refine wpAny_in_of (O9 ry) hd dd.mapOf ?_;rw[<- (rel.val k).isSome_eq,<- l];exact h _ (I.tok _)
 ·subst ey;cases (show u=Value.ref b from ry);obtain⟨z,hd,xs,rel,dd⟩:=Mq I.hok e;refine wpAny_in_heap (tupleKind_room_in1 hu) (Qk I.hok eb) hd dd ?_;have q:=(rel.val k).isSome_eq;rw[Option.isSome_map] at q;rw[<- q,<- l];exact h _ (I.tok _)
theorem zby(hu:A.units+1<cLine)(I:Inv X pins σ H s)(g:DGet H a y o)(ry:RelV y u)(h:∀ s',Inv X pins σ H s'->Q (.bool (!o.isSome)) s') :
  wpAny (model X.prog X.w) A (compareOp .NotIn u (.ref a)) Q E s:=by
 rcases g with ⟨kvs,k,e,ey,l⟩|⟨kvs,k,b,e,ey,eb,l⟩
 ·subst ey;obtain⟨z,hd,vs,rel,dd⟩:=R9 I.hok e;refine wpAny_notIn_of (O9 ry) hd dd.mapOf ?_;rw[<- (rel.val k).isSome_eq,<- l];exact h _ (I.tok _)
 ·subst ey;cases (show u=Value.ref b from ry);obtain⟨z,hd,xs,rel,dd⟩:=Mq I.hok e;refine wpAny_notIn_heap (tupleKind_room_in1 hu) (Qk I.hok eb) hd dd ?_;have q:=(rel.val k).isSome_eq;rw[Option.isSome_map] at q;rw[<- q,<- l];exact h _ (I.tok _)
theorem Pe(I:Inv X pins σ H s)(mu:Mut (H a))(hs:Heap.SameBut a s.heap h')(he:∃ q,h'.get? a=some q)(new:Yh X.prog X.w (upd H a ob) h' a ob) :
  Inv X pins σ (upd H a ob) { s with heap:=h',toks:=t' } :=
 I.write (x:=a) (e:=a) mu (.inl rfl) (fun b q hb z=>(hs.2 b hb).trans z) he new
theorem El(z:kvs.length<=sizeLine)(hd:(a == sysModules)=false)(rel:KV kvs vs)(dd:h'.DictOf (Yg P w) a vs) :
  Yh P w H' h' a (.dK kvs):=⟨z,hd,vs,rel,dd⟩
theorem C6(hu:A.units+1<cLine)(I:Inv X pins σ H s)(g:DPut H a y v H')(ry:RelV y u)(rv:RelV v r)(h:∀ s',Inv X pins σ H' s'->Q () s') :
  wpAny (model X.prog X.w) A (setItem (.ref a) u r) Q E s:=by
 rcases g with ⟨kvs,k,e,ey,l,eH⟩|⟨kvs,k,b,e,ey,eb,l,eH⟩
 ·subst ey eH;obtain⟨z,hd,vs,rel,dd⟩:=Au I.hok e;have hz:vs.length<=sizeLine:=by rw[<- rel.length];exact z
  have hl:(putK kvs k v).length<=sizeLine:=by have:=X1 kvs k v;omega
  refine wpAny_setItem_pairs (hsz:=hz) (O9 ry) dd fun h' dd' hs=>h _ ?_;have he:∃ q,h'.get? a=some q:=let ⟨q,_,_,hq,_⟩:=dd';⟨q,hq⟩;exact Pe I (by rw[e];exact True.intro) hs he (El hl hd (rel.put k rv) dd')
 ·subst ey eH;cases (show u=Value.ref b from ry);obtain⟨z,hd,xs,rel,dd⟩:=zc4 I.hok e;have hz:xs.length<=sizeLine:=by rw[<- Paired.length rel];exact z
  have hl:(putK kvs k v).length<=sizeLine:=by have:=X1 kvs k v;omega
  refine wpAny_setItem_heap (hsz:=hz) (tupleKind_room_in1 hu) (Qk I.hok eb) dd fun h' dd' hs=>h _ ?_;obtain⟨q,es,ep,hq,h2,h3,h4,_,h5⟩:=dd';refine Pe I (by rw[e];exact True.intro) hs ⟨q,hq⟩ ⟨hl,hd,_,(rel.put k eb rv).keeps fun c ys ec=>?_,q,es,ep,hq,h2,h3,h4,h5⟩;rw[Zh (Z9 ec e (fun z=>nomatch z))];exact ec
end
section
variable{X:Cx}{pins:List (Addr×Obj)}{σ:St}{H:Hp}{s:Shared}{a:Addr}{kvs:List (Key×V)}{k:Key}{u:Value}{A:Around}{E:Value->Shared->Prop}
theorem zfs(I:Inv X pins σ H s)(e:H a=some (.dK kvs))(ry:RelV (kV k) u)(l:valV kvs k=some v)(hm:more=[]\/∃ x,more=[x])
  (h:∀ w' s',Inv X pins σ (upd H a (.dK (Xh kvs k))) s'->RelV v w'->Q w' s'):wpAny (model X.prog X.w) A (call (.builtin "dict.pop") (.ref a :: u :: more)) Q E s:=by
 obtain⟨z,hd,vs,rel,dd⟩:=Au I.hok e;obtain⟨w',hw,rw'⟩:=RelO.some_of (v:=v) (o:=valueAt vs k) (by rw[<- l];exact rel.val k);have hp:(keyPart u).isSome=true:=by
  cases k with
  | inl i=>obtain⟨t,q⟩:=(show ∃ t,u=Value.int i t from ry);subst q;rfl
  | inr x=>obtain⟨t,q⟩:=(show ∃ t,u=Value.str x t from ry);subst q;rfl
 have ha:argsOk "dict.pop" ⟨.ref a :: u :: more,[]⟩:=by
  rcases hm with q|⟨x,q⟩
  ·subst q;exact PySem.F.args_dict_pop_2 _ _
  ·subst q;exact PySem.F.args_dict_pop_3 _ _ _
 refine call_meetsIn PySem.F.slot_dict_pop dd.typeIs PySem.F.entry_dict_pop ha (meets_dict_pop_there (Yg X.prog X.w) a (O9 ry) more hm hp)
  ⟨vs,w',dd,by rw[<- rel.length];exact z,hw,fun h' dd' hs=>h w' _ ?_ rw'⟩
 have he:∃ q,h'.get? a=some q:=let ⟨q,_,_,hq,_⟩:=dd';⟨q,hq⟩;exact Pe I (by rw[e];exact True.intro) hs he (El (zqr (Gs kvs k) z) hd (rel.drop k) dd')
theorem zft(I:Inv X pins σ H s)(e:Rd H a (.dK kvs))(h:∀ t s',Inv X pins σ H s'->Q (.int kvs.length t) s'):wpAny (model X.prog X.w) A (call (.builtin "len") [.ref a]) Q E s:=by
 obtain⟨z,hd,vs,rel,dd⟩:=R9 I.hok e;refine call_len_dict hd dd (by rw[<- rel.length];rw[sizeLine_eq] at z;omega) ?_;rw[<- rel.length];exact h _ _ (I.tok _)
end
def zdz(i:Expr):Prop:=∀ ov iv,subscripted i false ov iv=operate [ov,iv] (getItem ov iv)
theorem zbz{prog:Program}{w:World}{A:Around}{E:Value->Shared->Prop}{s:Shared}{env:Env}{value slice:Expr}{pos:Pos}{T id:String}{Q:Value->Shared->Prop}
  (hl:typeLookup (.type T) "__getitem__"=pure (some (.builtin id))) (hs:zdz slice)
  (h:wpAny (model prog w) A (eval value env) (fun o s₁=>wpAny (model prog w) A (eval slice env) (fun i s₂=>s₂.TypeIs o T/\wpAny (model prog w) A (getItem o i) Q E s₂) E s₁) E s) :
  wpAny (model prog w) A (eval (.Subscript value slice pos) env) Q E s:=by
 refine Subscript_ (wpAny_mono h (fun o s₁ h₁=>wpAny_mono h₁ (fun i s₂ h₂=>?_) fun _ _ x=>x) fun _ _ x=>x);obtain⟨hT,h₂⟩:=h₂;unfold subscriptTail;refine wpAny_bind ?_;rw[getitemInPython_of_ne hT.not_modules];refine wpAny_bind (wpAny_specialOf hT hl ?_);have fin:wpAny (model prog w) A (subscripted slice false o i) (fun r s₃=>wpAny (model prog w) A (letTemporaryGo value o r >>= fun _=>pure r) Q E s₃) E s₂:=by
  rw[hs o i];exact wpAny_operating (wpAny_mono h₂ (fun r s₃ h₃=>wpAny_bind (wpAny_letTemporaryGo (wpAny_pure h₃))) fun _ _ x=>x)
 first
  | exact wpAny_pure (wpAny_bind fin)
  | exact wpAny_bind (wpAny_pure (wpAny_bind fin))
  | exact wpAny_bind fin
theorem Gu(I:Inv X pins σ H s)(g:DGet H a y o):s.TypeIs (.ref a) "dict":=by
 rcases g with ⟨kvs,k,e,_,_⟩|⟨kvs,k,b,e,_,_,_⟩
 ·obtain⟨_,_,vs,_,dd⟩:=R9 I.hok e;exact dd.typeIs
 ·obtain⟨_,_,xs,_,dd⟩:=Mq I.hok e;exact dd.typeIs
inductive zd0(Q:VK)(x:V)(y:V)(H2:Hp):Prop where
 | mk(a)(v)(_:x=.ref a)(_:DGet H2 a y (some v))(_:Q v H2)
def zc5(td ty:TE):TE:=fun σ H Q=>td σ H fun x H1=>ty σ H1 fun y H2=>zd0 Q x y H2
inductive zfu(Q:VK)(y:V)(x:V)(H2:Hp):Prop where
 | mk(a)(o)(_:x=.ref a)(_:DGet H2 a y o)(_:Q (.bl o.isSome) H2)
def zg0(ty td:TE):TE:=fun σ H Q=>ty σ H fun y H1=>td σ H1 fun x H2=>zfu Q y x H2
inductive Av(Q:VK)(y:V)(x:V)(H2:Hp):Prop where
 | mk(a)(o)(_:x=.ref a)(_:DGet H2 a y o)(_:Q (.bl (!o.isSome)) H2)
def zb0(ty td:TE):TE:=fun σ H Q=>ty σ H fun y H1=>td σ H1 fun x H2=>Av Q y x H2
inductive zd1(D:Qf)(σ:L2.St)(v:V)(x:V)(y:V)(H3:Hp):Prop where
 | mk(a)(H4)(_:x=.ref a)(_:DPut H3 a y v H4)(_:D.nx σ H4)
def zfv(td ty tv:TE):TS:=fun D σ H=>tv σ H fun v H1=>td σ H1 fun x H2=>ty σ H2 fun y H3=>zd1 D σ v x y H3
section
variable{X:Cx}{o i e value:Expr}{pos pos' tpos:Pos}{td ty tv:TE}
theorem zb1(hu:X.A.units+1<cLine)(ho:PE X o td)(hi:PE X i ty)(hs:zdz i):PE X (.Subscript o i pos) (zc5 td ty):=by
 intro pins s σ H Q I h;refine zbz PySem.F.slot_dict_getitem.lookup hs (thn (ho pins s σ H _ I h) fun u s1 ⟨x,H1,I1,rx,q1⟩=>thn (hi pins s1 σ H1 _ I1 q1) fun iv s2 ⟨y,H2,I2,ry,a,v,ex,g,q2⟩=>?_);subst ex;obtain rfl:u=Value.ref a:=rx;exact⟨Gu I2 g,C5 hu I2 g ry fun w' s3 I3 rw'=>⟨v,H2,I3,rw',q2⟩⟩
theorem Mr(hu:X.A.units+1<cLine)(hi:PE X i ty)(ho:PE X o td):PC X .In i o (zg0 ty td):=by
 intro pins s σ H Q I h;refine thn (hi pins s σ H _ I h) fun iv s1 ⟨y,H1,I1,ry,q1⟩=>thn (ho pins s1 σ H1 _ I1 q1) fun u s2 ⟨x,H2,I2,rx,a,ov,ex,g,q2⟩=>?_;subst ex;obtain rfl:u=Value.ref a:=rx;exact zgz hu I2 g ry fun s3 I3=>⟨.bl ov.isSome,H2,I3,rfl,q2⟩
theorem Oa(hu:X.A.units+1<cLine)(hi:PE X i ty)(ho:PE X o td):PC X .NotIn i o (zb0 ty td):=by
 intro pins s σ H Q I h;refine thn (hi pins s σ H _ I h) fun iv s1 ⟨y,H1,I1,ry,q1⟩=>thn (ho pins s1 σ H1 _ I1 q1) fun u s2 ⟨x,H2,I2,rx,a,ov,ex,g,q2⟩=>?_;subst ex;obtain rfl:u=Value.ref a:=rx;exact zby hu I2 g ry fun s3 I3=>⟨.bl (!ov.isSome),H2,I3,rfl,q2⟩
theorem Wf(hu:X.A.units+1<cLine)(ho:PE X o td)(hi:PE X i ty)(hv:PE X value tv)(hs:swapsWith value (some (.Subscript o i pos')) pos.line X.env=pure false) :
  PS X (.Assign [.Subscript o i pos'] value pos) (zfv td ty tv):=by
 intro pins s σ H D I h;refine wpAny_Assign_Subscript (thn (hv pins s σ H _ I h) fun r s1 ⟨v,H1,I1,rv,q1⟩=>thn (ho pins s1 σ H1 _ I1 q1) fun u s2 ⟨x,H2,I2,rx,q2⟩=>thn (hi pins s2 σ H2 _ I2 q2) fun iv s3 ⟨y,H3,I3,ry,a,H4,ex,g,q3⟩=>?_) hs;subst ex;obtain rfl:u=Value.ref a:=rx;exact C6 hu I3 g ry rv fun s4 I4=>⟨σ,H4,I4,q3⟩
end
theorem Gv(h:Heap)(hb:sysModules<h.objs.size):Yh P w H (h.push { cls:=.type "dict",data:=.dict #[] }) h.objs.size (.dK []) :=
 ⟨zqo _,zqn.mpr (Ne.symm (zqu hb)),[],.nil,Heap.DictOf.new h⟩
theorem Aw(h:Heap)(hb:sysModules<h.objs.size):Yh P w H (h.push { cls:=.type "dict",data:=.dict #[] }) h.objs.size (.dT []) :=
 ⟨zqo _,zqn.mpr (Ne.symm (zqu hb)),[],.nil,_,#[],0,Heap.get?_push_size _ rfl,⟨rfl,rfl,rfl⟩,rfl,rfl,List.nodup_nil⟩
def zd2:TE:=fun _ H Q=>∀ p,H p=none->Q (.ref p) (upd H p (.dK []))
def zd3:TE:=fun _ H Q=>∀ p,H p=none->Q (.ref p) (upd H p (.dT []))
section
variable{X:Cx}{pos:Pos}
theorem Gw:PE X (.Dict [] [] pos) zd2:=fun pins s σ H Q I h =>
 wpAny_Dict_empty ⟨.ref s.heap.objs.size,_,I.laid (a:=s.heap.objs.size) (o:=.dK []) (t':=s.toks) (fun _ _ q=>Heap.get?_push_of_some _ q) (zqa _) (Gv s.heap I.big),rfl,h _ (I.hok.fresh (zqa _))⟩
theorem Gx:PE X (.Dict [] [] pos) zd3:=fun pins s σ H Q I h =>
 wpAny_Dict_empty ⟨.ref s.heap.objs.size,_,I.laid (a:=s.heap.objs.size) (o:=.dT []) (t':=s.toks) (fun _ _ q=>Heap.get?_push_of_some _ q) (zqa _) (Aw s.heap I.big),rfl,h _ (I.hok.fresh (zqa _))⟩
end
def Em:List (TE×TE)->St->Hp->(List (V×V)->Hp->Prop)->Prop
 | [],_,H,Q=>Q [] H
 | (tk,tv) :: r,σ,H,Q=>tk σ H fun x H1=>tv σ H1 fun y H2=>Em r σ H2 fun ps H3=>Q ((x,y) :: ps) H3
abbrev VV:List (V×V)->List (Value×Value)->Prop:=Paired fun p q=>RelV p.1 q.1/\RelV p.2 q.2
def PPs(X:Cx)(pos:Pos)(keys:List (Option Expr))(values:List Expr)(trs:List (TE×TE)):Prop :=
 ∀ (pins:List (Addr×Obj)) (s:Shared) (σ:St) (H:Hp) (Q:List (V×V)->Hp->Prop),Inv X pins σ H s->Em trs σ H Q ->
   wpAny (model X.prog X.w) X.A (evalPairs (pairTrees keys values X.env pos)) (fun vs s'=>∃ ps H',Inv X pins σ H' s'/\VV ps vs/\Q ps H') X.xe s
theorem Dv:PPs X pos [] [] []:=fun pins s σ H Q I h=>pairTrees_nil_walk ⟨[],H,I,.nil,h⟩
theorem Tr(hk:PE X k tk)(hv:PE X v tv)(hr:PPs X pos ks vs trs) :
  PPs X pos (some k :: ks) (v :: vs) ((tk,tv) :: trs):=fun pins s σ H Q I h =>
 pairTrees_cons_walk (thn (hk pins s σ H _ I h) fun u s1 ⟨x,H1,I1,rx,q1⟩=>thn (hv pins s1 σ H1 _ I1 q1) fun w2 s2 ⟨y,H2,I2,ry,q2⟩ =>
  thn (hr pins s2 σ H2 _ I2 q2) fun ws s3 ⟨ps,H3,I3,rel,q3⟩=>⟨(x,y) :: ps,H3,I3,.cons ⟨rx,ry⟩ rel,q3⟩)
def T8(kvs more:List (Key×V)):List (Key×V):=more.foldl (fun acc kv=>putK acc kv.1 kv.2) kvs
theorem KV.merge:∀ {more:List (Key×V)} {rs:List (Key×Value)} {kvs:List (Key×V)} {vs:List (Key×Value)},KV more rs->KV kvs vs->KV (T8 kvs more) (merged vs rs):=by
 intro more rs kvs vs r;unfold KV at r
 induction r generalizing kvs vs with
 | nil=>intro q;exact q
 | @cons p q ps qs h t ih =>
   intro r0;have e:KV (putK kvs p.1 p.2) (stored vs q.1 q.2):=by
    have:=r0.put p.1 h.2;rw[<- h.1];exact this
   exact ih e
theorem Qa:∀ (more kvs:List (Key×V)),(T8 kvs more).length<=kvs.length+more.length
 | [],kvs=>by show kvs.length<=kvs.length+0;omega
 | p :: r,kvs=>by
   have h1:=Qa r (putK kvs p.1 p.2);have h2:=X1 kvs p.1 p.2;show (T8 (putK kvs p.1 p.2) r).length<=_;rw[zqs];omega
theorem Mt:∀ {kvs:List (Key×V)} {ws:List (Value×Value)},VV (kvs.map fun kv=>(kV kv.1,kv.2)) ws->∃ rs,Carries (Yg P w) ws rs/\KV kvs rs
 | [],_,r=>by rw[List.map_nil] at r;cases r;exact⟨[],True.intro,.nil⟩
 | p :: kvs,_,r=>by
   rw[zqc] at r;cases r with
   | @cons a b as bs h t =>
     obtain⟨rs,c,q⟩:=Mt (P:=P) (w:=w) t;obtain⟨b1,b2⟩:=b;exact⟨(p.1,b2) :: rs,⟨O9 h.1,rfl,c⟩,.cons ⟨rfl,h.2⟩ q⟩
def zfw(trs:List (TE×TE)):TE:=fun σ H Q=>∀ p,H p=none->Em trs σ (upd H p (.dK [])) fun ps H2=>H2 p=some (.dK [])/\∃ kvs:List (Key×V),ps=kvs.map (fun kv=>(kV kv.1,kv.2))/\kvs.length<=15/\Q (.ref p) (upd H2 p (.dK (T8 [] kvs)))
theorem Dw(h:PPs X pos keys values trs)(hall:keys.all (·.isSome)=true)(hl:keys.length=values.length)(h0:keys≠[])
  (h15:keys.length<=15):PE X (.Dict keys values pos) (zfw trs):=by
 intro pins s σ H Q I q;have hn:=I.hok.fresh (zqa s.heap.objs.size);have I1:=I.laid (a:=s.heap.objs.size) (o:=.dK []) (h':=s.heap.push { cls:=.type "dict",data:=.dict #[] }) (t':=s.toks) (fun _ _ q=>Heap.get?_push_of_some _ q) (zqa _) (Gv s.heap I.big);refine wpAny_Dict_walk (knd:=Yg X.prog X.w) hall hl h0 h15 (thn (h pins _ σ _ _ I1 (q _ hn)) fun ws s2 ⟨ps,H2,I2,rel,e,kvs,ep,lk,q2⟩=>?_);subst ep;obtain⟨rs,c,rk⟩:=Mt (P:=X.prog) (w:=X.w) rel;obtain⟨z,hd,vs0,r0,dd⟩:=Au I2.hok e;cases r0;refine⟨rs,c,dd,fun h' dd' hs=>⟨.ref s.heap.objs.size,_,?_,rfl,q2⟩⟩;have hz:(T8 [] kvs).length<=sizeLine:=by
  have h1:=Qa kvs [];rw[List.length_nil] at h1;rw[sizeLine_eq];omega
 have he:∃ q,h'.get? s.heap.objs.size=some q:=let ⟨q,_,_,hq,_⟩:=dd';⟨q,hq⟩;exact Pe I2 (by rw[e];exact True.intro) hs he (El hz hd (rk.merge .nil) dd')
structure M1(X:Cx)(o:Expr)(m:Str)(apos:Pos)(e:Expr)(cpos:Pos):Prop where
 base:attributeBase o m X.env (eval o X.env)=eval o X.env
 few:((backTo cpos (starEach [e] X.env)).all (fun x=>!x.1)&&(backToKw cpos (keywordEach [] X.env)).all (fun x=>x.1.isSome)
  && decide (([e]:List Expr).length+([]:List Keyword).length+(if ([]:List Keyword).isEmpty then 0 else 1)<30))=true
 line:(apos.endLine == cpos.line)=true
 trees:backTo cpos (starEach [e] X.env)=[(false,eval e X.env)]
structure M2(X:Cx)(o:Expr)(m:Str)(apos:Pos)(e f:Expr)(cpos:Pos):Prop where
 base:attributeBase o m X.env (eval o X.env)=eval o X.env
 few:((backTo cpos (starEach [e,f] X.env)).all (fun x=>!x.1)&&(backToKw cpos (keywordEach [] X.env)).all (fun x=>x.1.isSome)
  && decide (([e,f]:List Expr).length+([]:List Keyword).length+(if ([]:List Keyword).isEmpty then 0 else 1)<30))=true
 line:(apos.endLine == cpos.line)=true
 trees:backTo cpos (starEach [e,f] X.env)=[(false,eval e X.env),(false,eval f X.env)]
def IsD(H:Hp)(a:Addr):Prop:=(∃ kvs,Rd H a (.dK kvs))\/∃ kvs,Rd H a (.dT kvs)
theorem En(I:Inv X pins σ H s)(d:IsD H a) :
  s.TypeIs (.ref a) "dict"/\(∀ b,Value.ref a=.ref b->∃ ob,s.heap.get? b=some ob/\ob.dict=none)/\(a == sysModules)=false:=by
 rcases d with ⟨kvs,e⟩|⟨kvs,e⟩
 ·obtain⟨_,hd,vs,_,dd⟩:=R9 I.hok e;refine⟨dd.typeIs,fun b q=>?_,hd⟩;cases q;obtain⟨ob,_,_,h1,h2,_⟩:=dd;exact⟨ob,h1,h2.2.1⟩
 ·obtain⟨_,hd,xs,_,dd⟩:=Mq I.hok e;refine⟨dd.typeIs,fun b q=>?_,hd⟩;cases q;obtain⟨ob,_,_,h1,h2,_⟩:=dd;exact⟨ob,h1,h2.2.1⟩
section
variable{X:Cx}{pins:List (Addr×Obj)}{σ:St}{H:Hp}{s:Shared}{a:Addr}{y d:V}{u r:Value}{o:Option V}{A:Around}{E:Value->Shared->Prop}
theorem zd4(hu:A.units+1<cLine)(I:Inv X pins σ H s)(g:DGet H a y o)(ry:RelV y u)(rd:RelV d r)(h:∀ w' s',Inv X pins σ H s'->RelV (o.getD d) w'->Q w' s') :
  wpAny (model X.prog X.w) A (call (.builtin "dict.get") [.ref a,u,r]) Q E s:=by
 rcases g with ⟨kvs,k,e,ey,l⟩|⟨kvs,k,b,e,ey,eb,l⟩
 ·subst ey;obtain⟨z,hd,vs,rel,dd⟩:=R9 I.hok e;refine call_meetsIn PySem.F.slot_dict_get dd.typeIs PySem.F.entry_dict_get (PySem.F.args_dict_get_3 _ _ _) (meets_dict_get_default (Yg X.prog X.w) a (O9 ry) hd r) ⟨_,dd.mapOf,h _ _ (I.tok _) ?_⟩;rw[l];exact(rel.val k).getD rd
 ·subst ey;cases (show u=Value.ref b from ry);obtain⟨z,hd,xs,rel,dd⟩:=Mq I.hok e;refine call_meetsIn PySem.F.slot_dict_get dd.typeIs PySem.F.entry_dict_get (PySem.F.args_dict_get_3 _ _ _) (meetsH_dict_get_default (tupleKind (Yg X.prog X.w)) a b hd r) ⟨tupleKind_room_in1 hu,k,xs,Qk I.hok eb,dd,h _ _ (I.tok _) ?_⟩;rw[l];exact(rel.val k).getD rd
end
inductive zb2(ty:TE)(tx:TE)(σ:L2.St)(Q:VK)(x:V)(H1:Hp):Prop where
 | mk(a)(_:x=.ref a)(_:IsD H1 a)(_:ty σ H1 fun y H2=>tx σ H2 fun z H3=>∃ o,DGet H3 a y o/\Q (o.getD z) H3)
def zd5(td ty tx:TE):TE:=fun σ H Q=>td σ H fun x H1=>zb2 ty tx σ Q x H1
inductive zb3(ty:TE)(σ:L2.St)(Q:VK)(x:V)(H1:Hp):Prop where
 | mk(a)(_:x=.ref a)(_:IsD H1 a)(_:ty σ H1 fun y H2=>∃ kvs k v,H2 a=some (.dK kvs)/\y=kV k/\valV kvs k=some v/\Q v (upd H2 a (.dK (Xh kvs k))))
def zd6(td ty:TE):TE:=fun σ H Q=>td σ H fun x H1=>zb3 ty σ Q x H1
section
variable{X:Cx}{o e f:Expr}{apos cpos:Pos}{td ty tx:TE}
theorem Ax(hu:X.A.units+1<cLine)(ho:PE X o td)(he:PE X e ty)(hf:PE X f tx)(m:M2 X o "get" apos e f cpos):PE X (.Call (.Attribute o "get" apos) [e,f] [] cpos) (zd5 td ty tx):=by
 intro pins s σ H Q I h;refine wpAny_Call_method m.base m.few m.line PySem.F.plainAttrs_dict PySem.F.slot_dict_get PySem.F.type_dict_get (thn (ho pins s σ H _ I h) fun u s1 ⟨x,H1,I1,rx,a,ex,d,q1⟩=>?_);subst ex;obtain rfl:u=Value.ref a:=rx;obtain⟨t1,t2,_⟩:=En I1 d;refine⟨t1,t2,?_⟩;rw[m.trees];refine Calls.callWith_builtin rfl (Calls.evalArgs_plain (Calls.spliced_cons (thn (he pins s1 σ H1 _ I1 q1) fun iv s2 ⟨y,H2,I2,ry,q2⟩ =>
  Calls.spliced_cons (thn (hf pins s2 σ H2 _ I2 q2) fun fv s3 ⟨z,H3,I3,rz,ov,g,q3⟩=>Calls.spliced_nil ?_))))
 exact zd4 hu I3 g ry rz fun w' s4 I4 rw'=>⟨_,H3,I4,rw',q3⟩
theorem Ay(ho:PE X o td)(he:PE X e ty)(m:M1 X o "pop" apos e cpos):PE X (.Call (.Attribute o "pop" apos) [e] [] cpos) (zd6 td ty):=by
 intro pins s σ H Q I h;refine wpAny_Call_method m.base m.few m.line PySem.F.plainAttrs_dict PySem.F.slot_dict_pop PySem.F.type_dict_pop (thn (ho pins s σ H _ I h) fun u s1 ⟨x,H1,I1,rx,a,ex,d,q1⟩=>?_);subst ex;obtain rfl:u=Value.ref a:=rx;obtain⟨t1,t2,_⟩:=En I1 d;refine⟨t1,t2,?_⟩;rw[m.trees];refine Calls.callWith_builtin rfl (Calls.evalArgs_plain (Calls.spliced_cons (thn (he pins s1 σ H1 _ I1 q1) fun iv s2 ⟨y,H2,I2,ry,kvs,k,v,ea,ey,l,q2⟩=>Calls.spliced_nil ?_)));subst ey;exact zfs I2 ea ry l (.inl rfl) fun w' s3 I3 rw'=>⟨v,_,I3,rw',q2⟩
end
end L2
namespace HT
open PySem PyProof.Rows
section
open PySem.SeqAt
open PySem.AutoSeq1 (wpAny_loadPart')
open PySem.MeetsSeq PySem.MeetsSeq2 PySem.MeetsSeq3
end
section
variable{prog:Program}{w:World}{A:Around}{E:Value->Shared->Prop}{s:Shared}
theorem cat_tup(ht:IsTup s.heap t vs.toArray)(hb:IsTup s.heap b ws.toArray)(hv:vs≠[])
  (h1:ws=[]->Q (.ref t) s) (h2:ws≠[]->Q (.ref s.heap.objs.size) { s with heap:=s.heap.push { cls:=.type "tuple",data:=.seq (vs++ws).toArray } })
  (hsz:vs.length+ws.length<=sizeLine):wpAny (model prog w) A (binaryOp .Add (.ref t) (.ref b)) Q E s:=by
 obtain⟨⟨cls,dd,data,sl⟩,ho,hc,n,hd⟩:=id ht;obtain⟨⟨cls2,dd2,data2,sl2⟩,ho2,hc2,n2,hd2⟩:=id hb;simp only at hc hd hc2 hd2;subst hc hd hc2 hd2;have e:vs.toArray++ws.toArray=(vs++ws).toArray:=by simp
 by_cases hw:ws=[]
 ·exact concat_meets ⟨_,ho,rfl⟩ ⟨_,ho2,rfl⟩ noFill_tuple_add seq_tuple_add PySem.F.slot_tuple_add PySem.F.entry_tuple_add (PySem.F.args_tuple_add_2 _ _)
   (tuple_addW1 t b vs.toArray ws.toArray n n2 dd dd2 sl sl2 (by simpa using hv) (by simp[hw])) ⟨ho,ho2,h1 hw⟩
 ·refine concat_meets ⟨_,ho,rfl⟩ ⟨_,ho2,rfl⟩ noFill_tuple_add seq_tuple_add PySem.F.slot_tuple_add PySem.F.entry_tuple_add (PySem.F.args_tuple_add_2 _ _)
   (tuple_addW2 t b vs.toArray ws.toArray n n2 dd dd2 sl sl2 (by simpa using hv) (by simpa using hw) (by rw[zqe,zqe];exact hsz)) ⟨ho,ho2,?_⟩
  rw[e];exact h2 hw
end
end HT
namespace L2
open PySem PySem.Spec PyProof.Rows
section
variable{X:Cx}{e:Expr}{te:TE}{lo hi:Option Expr}{tl th:TO}{pos p2:Pos}
inductive zc6(K:Frag)(x:V)(y:V)(H:Hp)(Q:VK):Prop where
 | mk(a)(b)(xs)(ys)(_:x=.ref a)(_:y=.ref b)(_:SqT K H a xs)(_:SqT K H b ys)(_:xs≠[])(_:xs.length+ys.length<=sizeLine)(_:(ys=[]->Q (.ref a) H))(_:(ys≠[]->∀ p,H p=none->Q (.ref p) (upd H p (.tup (xs++ys)))))
theorem Vals.nil_iff(r:Vals xs us):us=[]↔xs=[]:=by
 cases r with
 | nil=>simp
 | cons _ _=>simp
theorem zb4:OpR X (binaryOp .Add) (zc6 X.K):=by
 intro pins s σ H x y v u Q I rx ry h;obtain⟨a,b,xs,ys,rfl,rfl,ha,hb,hx,hz,q1,q2⟩:=h;cases rx;cases ry;obtain⟨its,r1,p1,_⟩:=I.tuple ha;obtain⟨its2,r2,p2,_⟩:=I.tuple hb;refine HT.cat_tup p1 p2 (fun z=>hx (r1.nil_iff.mp z)) (fun z=>⟨.ref a,H,I,rfl,q1 (r2.nil_iff.mp z)⟩) (fun z=>?_) (by rw[<- r1.length,<- r2.length];exact hz);refine⟨.ref s.heap.objs.size,_,I.laid (t':=s.toks) (o:=.tup (xs++ys)) (fun b ob q=>Heap.get?_push_of_some _ q) (zqa _) ?_,rfl,q2 (fun w=>z (r2.nil_iff.mpr w)) _ (I.hok.fresh (zqa _))⟩;exact⟨by rw[zp6];exact hz,_,r1.append r2,IsTup.new _ _⟩
end
def ixN(n:Nat)(i:Int):Option Nat:=if 0<=i then (if i<n then some i.toNat else none) else if -(n:Int)<=i then some (i+n).toNat else none
def atI{α:Type}(xs:List α)(i:Int):Option α:=(ixN xs.length i).bind fun j=>xs[j]?
theorem Dx(h:ixN n i=some j):seqIndex? i n=some j/\j<n/\-(n:Int)<=i/\i<n:=by
 unfold ixN at h;by_cases h0:0<=i
 ·rw[if_pos h0] at h;by_cases h1:i<n
  ·rw[if_pos h1] at h;have e:i.toNat=j:=Option.some.inj h;exact⟨by rw[seqIndex_of h0 h1,e],by omega,by omega,h1⟩
  ·rw[if_neg h1] at h;cases h
 ·rw[if_neg h0] at h;by_cases h1:-(n:Int)<=i
  ·rw[if_pos h1] at h;have e:(i+n).toNat=j:=Option.some.inj h;exact⟨by rw[seqIndex_neg ⋯ h1,e],by omega,h1,by omega⟩
  ·rw[if_neg h1] at h;cases h
theorem Dy(h:atI xs i=some v):∃ j,seqIndex? i xs.length=some j/\xs[j]?=some v/\j<xs.length/\-(xs.length:Int)<=i/\i<xs.length:=by
 unfold atI at h;cases e:ixN xs.length i with
 | none=>rw[e] at h;cases h
 | some j =>
   rw[e] at h;obtain⟨h1,h2,h3,h4⟩:=Dx e;exact⟨j,h1,h,h2,h3,h4⟩
theorem Yw{α:Type}{xs:List α}{j:Nat}{v:α}(h:xs[j]?=some v):atI xs (j:Int)=some v:=by
 have hj:j<xs.length:=(zp4.mp h).1;have e:ixN xs.length (j:Int)=some j:=by
  unfold ixN;rw[if_pos ⋯,if_pos ⋯];simp
 unfold atI;rw[e];exact h
def Dz(b:Expr):Prop:=∀ o i,subscripted b false o i=operate [o,i] (getItem o i)
def IxR(X:Cx)(r:R2):Prop :=
 ∀ (value slice:Expr) (pins:List (Addr×Obj)) (s:Shared) (σ:St) (H:Hp) (x y:V) (v u:Value) (Q:VK),Inv X pins σ H s->RelV x v->RelV y u->r x y H Q ->
   subscripted slice false v u=operate [v,u] (getItem v u)->wpAny (model X.prog X.w) X.A (subscriptTail value slice v u) (EP X pins σ Q) X.xe s
def MtR(X:Cx)(id:String)(r:V->List V->Hp->VK->Prop):Prop :=
 ∀ (pins:List (Addr×Obj)) (s:Shared) (σ:St) (H:Hp) (x:V) (xs:List V) (v:Value) (us:List Value) (Q:VK),Inv X pins σ H s->RelV x v->Vals xs us->r x xs H Q ->
   wpAny (model X.prog X.w) X.A (call (.builtin id) (v :: us)) (EP X pins σ Q) X.xe s
section
variable{X:Cx}{a b:Expr}{ta tb:TE}{pos:Pos}
theorem zfx(hr:IxR X r)(ha:PE X a ta)(hb:PE X b tb)(hs:Dz b):PE X (.Subscript a b pos) (tOp r ta tb):=by
 intro pins s σ H Q I h;exact Subscript_ (binT ha hb I h fun v u s2 x y H2 I2 rx ry q=>hr a b pins s2 σ H2 x y v u Q I2 rx ry q (hs _ _))
inductive zd7(K:Frag)(x:V)(y:V)(H:Hp)(Q:VK):Prop where
 | mk(p)(xs)(i)(v)(_:x=.ref p)(_:y=.int i)(_:SqL K H p xs)(_:atI xs i=some v)(_:Q v H)
inductive zd8(K:Frag)(x:V)(y:V)(H:Hp)(Q:VK):Prop where
 | mk(p)(xs)(i)(v)(_:x=.ref p)(_:y=.int i)(_:SqT K H p xs)(_:atI xs i=some v)(_:Q v H)
theorem zb5:IxR X (zd7 X.K):=by
 intro value slice pins s σ H x y v u Q I rx ry h hs;obtain⟨p,xs,i,z,rfl,rfl,hq,he,q⟩:=h;cases rx;obtain⟨t,rfl⟩:=ry;obtain⟨its,r,pl,hz⟩:=I.list hq;obtain⟨j,h1,h2,h3,h4,h5⟩:=Dy he;obtain⟨w,ew,rw'⟩:=r.get h2;have hl:=r.length;have hn:=Qj;have fin:EP X pins σ Q w s:=⟨z,H,I,rw',q⟩;by_cases h0:0<=i
 ·have hj:i.toNat=j:=by
   rw[seqIndex_of h0 h5] at h1;exact Option.some.inj h1
  exact item_listR pl.isList h0 ⋯ (by rw[hj];simpa using ew) fin hs
 ·have hj:(i+(its.toArray.size:Int)).toNat=j:=by
   rw[seqIndex_neg ⋯ h4] at h1;rw[zqe,<- hl];exact Option.some.inj h1
  exact subscriptTail_builtinR (x:=w) pl.isList.typeIs slot_list_getitem.lookup
   (wpAny_getItem_list_neg (Q:=fun r s'=>r=w/\EP X pins σ Q r s') pl.isList ⋯ (by rw[zqe]<;>omega) ⋯ (by rw[hj];simpa using ew) ⟨rfl,fin⟩) hs
theorem zd9:IxR X (zd8 X.K):=by
 intro value slice pins s σ H x y v u Q I rx ry h hs;obtain⟨p,xs,i,z,rfl,rfl,hq,he,q⟩:=h;cases rx;obtain⟨t,rfl⟩:=ry;obtain⟨its,r,pl,hz⟩:=I.tuple hq;obtain⟨j,h1,h2,h3,h4,h5⟩:=Dy he;obtain⟨w,ew,rw'⟩:=r.get h2;have hl:=r.length;have hn:=Qj;have fin:EP X pins σ Q w s:=⟨z,H,I,rw',q⟩;exact subscriptTail_builtinR (x:=w) pl.typeIs slot_tuple_getitem.lookup
  (getItem_tuple (j:=j) (Q:=fun r s'=>r=w/\EP X pins σ Q r s') pl ⋯ ⋯ (by rw[zqe,<- hl];exact h1) (by simpa using ew) ⟨rfl,fin⟩) hs
theorem Eo(its:List Value)(n j:Nat)(u:Value):Obj.mapSeq (·.setIfInBounds j u) { cls:=.type "list",data:=.seq its.toArray n }={ cls:=.type "list",data:=.seq (its.set j u).toArray n }:=by
 simp[Obj.mapSeq]
theorem Inv.lst(I:Inv X pins σ H s)(h:H p=some (.lst xs)) :
  ∃ (its:List Value) (n:Nat),Vals xs its/\s.heap.get? p=some { cls:=.type "list",data:=.seq its.toArray n }/\xs.length<=sizeLine:=by
 obtain⟨z,its,n,r,e⟩:=I.hok p _ h;exact⟨its,n,r,e,z⟩
theorem Inv.lstUpd{pins:List (Addr×Obj)}{σ:St}{H:Hp}{s:Shared}{p:Addr}{xs ys:List V}{its its':List Value}{n n':Nat}{f:Obj->Obj}(I:Inv X pins σ H s)(h:H p=some (.lst xs))
  (ho:s.heap.get? p=some { cls:=.type "list",data:=.seq its.toArray n }) (hf:f { cls:=.type "list",data:=.seq its.toArray n }={ cls:=.type "list",data:=.seq its'.toArray n' }) (r:Vals ys its') (hz:ys.length<=sizeLine) (t:Nat) :
  Inv X pins σ (upd H p (.lst ys)) { s with heap:=s.heap.update p f,toks:=t }:=by
 have e:(s.heap.update p f).get? p=some { cls:=.type "list",data:=.seq its'.toArray n' }:=by
  rw[Heap.get?_update_self f ho (by rw[hf]<;>rfl),hf]
 refine I.write (x:=p) (e:=p) (by rw[h];trivial) (.inl rfl) (fun b u hb q=>(Heap.get?_update_other _ _ (Ne.symm hb)).trans q) ⟨_,e⟩ ?_;exact⟨hz,its',n',r,e⟩
def zfy:V->V->V->Hp->(Hp->Prop)->Prop:=fun o i v H Q=>∃ p xs k j,o=.ref p/\i=.int k/\H p=some (.lst xs)/\ixN xs.length k=some j/\Q (upd H p (.lst (xs.set j v)))
theorem Az:zfc X zfy:=by
 intro pins s σ H o i v ov iv u Q I ro ri rv h;obtain⟨p,xs,k,j,rfl,rfl,hp,hj,q⟩:=h;cases ro;obtain⟨t,rfl⟩:=ri;obtain⟨its,n,r,ho,hz⟩:=I.lst hp;obtain⟨h1,h2,h3,h4⟩:=Dx hj;have hl:=r.length;have hn:=Qj;have I':Inv X pins σ (upd H p (.lst (xs.set j v))) { s with heap:=s.heap.update p (Obj.mapSeq (·.setIfInBounds j u)) } :=
  I.lstUpd hp ho (Eo its n j u) (r.set rv j) (by rw[zrf];exact hz) s.toks
 by_cases h0:0<=k
 ·have hk:k.toNat=j:=by
   rw[seqIndex_of h0 h4] at h1;exact Option.some.inj h1
  exact PySem.W.ki_setAt ho h0 ⋯ (by rw[zqe,<- hl];exact h4) (by rw[hk];exact⟨_,I',q⟩)
 ·have hk:(k+(its.toArray.size:Int)).toNat=j:=by
   rw[seqIndex_neg ⋯ h3] at h1;rw[zqe,<- hl];exact Option.some.inj h1
  exact PySem.W.ki_setBack ho ⋯ (by rw[zqe,<- hl];exact h3) ⋯ (by rw[hk];exact⟨_,I',q⟩)
def Ts:V->Bool
 | .non=>true
 | .bl _=>true
 | .int _=>true
 | .str _=>true
 | _=>false
def eqV:V->V->Bool
 | .non,.non=>true
 | .bl a,.bl b=>a == b
 | .bl a,.int b=>(if a then 1 else 0) == b
 | .int a,.bl b=>a == (if b then 1 else 0)
 | .int a,.int b=>a == b
 | .str a,.str b=>a == b
 | _,_=>false
theorem zea(ry:RelV y u)(rx:RelV x v)(fy:Ts y=true)(fx:Ts x=true):SeqAt.EqAt A s u v (eqV y x):=by
 cases y with
 | non =>
   cases ry;cases x with
   | non=>cases rx;exact SeqAt.EqAt.same _
   | bl b=>cases rx;exact SeqAt.EqAt.none_bool b
   | int b=>obtain⟨t,rfl⟩:=rx;exact SeqAt.EqAt.none_int b t
   | str b=>obtain⟨t,rfl⟩:=rx;exact SeqAt.EqAt.none_str b t
   | _=>exact absurd (show false=true from fx) zqj
 | bl a =>
   cases ry;cases x with
   | non=>cases rx;exact SeqAt.EqAt.bool_none a
   | bl b=>cases rx;exact SeqAt.EqAt.bool_bool a b
   | int b=>obtain⟨t,rfl⟩:=rx;exact SeqAt.EqAt.bool_int a b t
   | str b=>obtain⟨t,rfl⟩:=rx;exact SeqAt.EqAt.bool_str a b t
   | _=>exact absurd (show false=true from fx) zqj
 | int a =>
   obtain⟨t',rfl⟩:=ry;cases x with
   | non=>cases rx;exact SeqAt.EqAt.int_none a t'
   | bl b=>cases rx;exact SeqAt.EqAt.int_bool a t' b
   | int b=>obtain⟨t,rfl⟩:=rx;exact SeqAt.EqAt.int_int a t' b t
   | str b=>obtain⟨t,rfl⟩:=rx;exact SeqAt.EqAt.int_str a t' b t
   | _=>exact absurd (show false=true from fx) zqj
 | str a =>
   obtain⟨t',rfl⟩:=ry;cases x with
   | non=>cases rx;exact SeqAt.EqAt.str_none a t'
   | bl b=>cases rx;exact SeqAt.EqAt.str_bool a t' b
   | int b=>obtain⟨t,rfl⟩:=rx;exact SeqAt.EqAt.str_int a t' b t
   | str b=>obtain⟨t,rfl⟩:=rx;exact SeqAt.EqAt.str_str a t' b t
   | _=>exact absurd (show false=true from fx) zqj
 | _=>exact absurd (show false=true from fy) zqj
def eqU(x:V)(u:Value):Bool:=match u with
 | .none=>eqV .non x
 | .bool b=>eqV (.bl b) x
 | .int i _=>eqV (.int i) x
 | .str z _=>eqV (.str z) x
 | _=>false
theorem Ep(r:RelV y u)(f:Ts y=true):eqU x u=eqV y x:=by
 cases y with
 | non=>cases r;rfl
 | bl b=>cases r;rfl
 | int i=>obtain⟨t,rfl⟩:=r;rfl
 | str z=>obtain⟨t,rfl⟩:=r;rfl
 | _=>exact absurd (show false=true from f) zqj
theorem Pf:∀ {xs:List V} {us:List Value},Vals xs us->xs.all Ts=true->us.any (eqU x)=xs.any fun y=>eqV y x
 | _,_,.nil,_=>rfl
 | y :: xs,u :: us,.cons r t,f=>by
   rw[List.all_cons,zrm] at f;rw[zrk,zrk,Ep r f.1,Pf t f.2]
theorem Tt(rx:RelV x v)(fx:Ts x=true):∀ {xs:List V} {us:List Value},Vals xs us->xs.all Ts=true->∀ u∈us,SeqAt.EqAt A s u v (eqU x u)
 | _,_,.nil,_=>fun u hu=>by cases hu
 | y :: xs,u :: us,.cons r t,f=>fun u' hu=>by
   rw[List.all_cons,zrm] at f;rcases zp7.mp hu with rfl|hu
   ·rw[Ep r f.1];exact zea r rx f.1 fx
   ·exact Tt rx fx t f.2 u' hu
def inV(x:V)(xs:List V):Bool:=xs.any fun y=>eqV y x
inductive rIn(K:Frag)(neg:Bool)(x:V)(y:V)(H:Hp)(Q:VK):Prop where
 | mk(p)(xs)(_:y=.ref p)(_:(SqL K H p xs\/SqT K H p xs))(_:Ts x=true)(_:xs.all Ts=true)(_:Q (.bl (if neg then !inV x xs else inV x xs)) H)
theorem C7:OpR X (compareOp .In) (rIn X.K false):=by
 intro pins s σ H x y v u Q I rx ry h;obtain⟨p,xs,rfl,hq,fx,fs,q⟩:=h;cases ry;rcases hq with hq|hq
 ·obtain⟨its,r,pl,hz⟩:=I.list hq;refine SeqAt.in_listAt (eqU x) pl.isList (fun w hw=>Tt rx fx r fs w (by simpa using hw)) ⟨.bl _,H,I,rfl,?_⟩;rw[show its.toArray.any (eqU x)=its.any (eqU x) by simp,Pf r fs];exact q
 ·obtain⟨its,r,pl,hz⟩:=I.tuple hq;refine SeqAt.in_tupleAt (eqU x) pl (fun w hw=>Tt rx fx r fs w (by simpa using hw)) ⟨.bl _,H,I,rfl,?_⟩;rw[show its.toArray.any (eqU x)=its.any (eqU x) by simp,Pf r fs];exact q
theorem Ih:OpR X (compareOp .NotIn) (rIn X.K true):=by
 intro pins s σ H x y v u Q I rx ry h;obtain⟨p,xs,rfl,hq,fx,fs,q⟩:=h;cases ry;rcases hq with hq|hq
 ·obtain⟨its,r,pl,hz⟩:=I.list hq;refine SeqAt.notIn_listAt (eqU x) pl.isList (fun w hw=>Tt rx fx r fs w (by simpa using hw)) ⟨.bl _,H,I,rfl,?_⟩;rw[show its.toArray.any (eqU x)=its.any (eqU x) by simp,Pf r fs];exact q
 ·obtain⟨its,r,pl,hz⟩:=I.tuple hq;refine SeqAt.notIn_tupleAt (eqU x) pl (fun w hw=>Tt rx fx r fs w (by simpa using hw)) ⟨.bl _,H,I,rfl,?_⟩;rw[show its.toArray.any (eqU x)=its.any (eqU x) by simp,Pf r fs];exact q
theorem Ii:Wv X (.builtin "len") (fun xs H Q=>∃ p ys,xs=[.ref p]/\(SqL X.K H p ys\/SqT X.K H p ys)/\Q (.int ys.length) H):=by
 intro pins s σ H xs us Q I r h;obtain⟨p,ys,rfl,hq,q⟩:=h;obtain⟨u,rfl,rx⟩:=Sm r;cases rx;have hn:=Qj;rcases hq with hq|hq
 ·obtain⟨its,r',pl,hz⟩:=I.list hq;have hlen:=r'.length;exact Calls.call_len_list pl.isList (by simp only[zqe]<;>omega) ⟨.int ys.length,H,I.tok _,⟨s.toks+1,by rw[zqe,hlen]⟩,q⟩
 ·obtain⟨its,r',pl,hz⟩:=I.tuple hq;have hlen:=r'.length;exact len_tuple pl (by simp only[zqe]<;>omega) ⟨.int ys.length,H,I.tok _,⟨s.toks+1,by rw[zqe,hlen]⟩,q⟩
theorem Ij:Wv X (.type "list") (fun xs H Q=>∃ p ys,xs=[.ref p]/\(SqL X.K H p ys\/SqT X.K H p ys)/\∀ l,H l=none->Q (.ref l) (upd H l (.lst ys))):=by
 intro pins s σ H xs us Q I r h;obtain⟨p,ys,rfl,hq,q⟩:=h;obtain⟨u,rfl,rx⟩:=Sm r;cases rx;have fin:∀ (its:List Value),Vals ys its->ys.length<=sizeLine->∀ (h':Heap) (c':Nat),(∀ b o',s.heap.get? b=some o'->h'.get? b=some o') ->
   h'.get? s.heap.objs.size=some { cls:=.type "list",dict:=none,data:=.seq its.toArray c',slots:=#[] }->EP X pins σ Q (.ref s.heap.objs.size) { s with heap:=h' }:=fun its r' hz h' c' kp e =>
  ⟨.ref s.heap.objs.size,_,I.laid (t':=s.toks) kp (zqa _) (show Yh X.prog X.w _ h' _ (.lst ys) from⟨hz,its,c',r',e⟩),rfl,q _ (I.hok.fresh (zqa _))⟩
 rcases hq with hq|hq
 ·obtain⟨its,r',pl,hz⟩:=I.list hq;have hlen:=r'.length;obtain⟨o,ho,hc,n,hd⟩:=pl.isList;exact call_list_seq p (.inl rfl) ho hc hd (fun h' c' kp e=>fin its r' hz h' c' kp e) (by simp only[zqe]<;>omega)
 ·obtain⟨its,r',pl,hz⟩:=I.tuple hq;have hlen:=r'.length;obtain⟨o,ho,hc,n,hd⟩:=pl;exact call_list_seq p (.inr rfl) ho hc hd (fun h' c' kp e=>fin its r' hz h' c' kp e) (by simp only[zqe]<;>omega)
theorem Kk:Wv X (.type "tuple") (fun xs H Q=>∃ p ys,xs=[.ref p]/\((SqL X.K H p ys/\∀ l,H l=none->Q (.ref l) (upd H l (.tup ys)))\/(SqT X.K H p ys/\Q (.ref p) H))):=by
 intro pins s σ H xs us Q I r h;obtain⟨p,ys,rfl,h⟩:=h;obtain⟨u,rfl,rx⟩:=Sm r;cases rx;rcases h with ⟨hq,q⟩|⟨hq,q⟩
 ·obtain⟨its,r',pl,hz⟩:=I.list hq;have hlen:=r'.length;refine call_tuple_list pl.isList (fun h' kp=>?_) (by simp only[zqe]<;>omega);have I1:Inv X pins σ H { s with heap:=h' }:=I.kept (t':=s.toks) kp;have I2:Inv X pins σ (upd H h'.objs.size (.tup ys)) { s with heap:=h'.push { cls:=.type "tuple",data:=.seq its.toArray } } :=
   I1.laid (t':=s.toks) (fun b o e=>Heap.get?_push_of_some _ e) (zqa _) (show Yh X.prog X.w _ _ _ (.tup ys) from⟨hz,its,r',IsTup.new _ _⟩)
  exact⟨.ref h'.objs.size,_,I2,rfl,q _ (I1.hok.fresh (zqa _))⟩
 ·obtain⟨its,r',pl,hz⟩:=I.tuple hq;exact call_tuple_same pl ⟨.ref p,H,I,rfl,q⟩
def tyV(K:Frag)(T:String)(x:V)(H:Hp):Prop:=match x with
 | .str _=>T="str"
 | .int _=>T="int"
 | .ref p=>(T="list"/\∃ xs,SqL K H p xs)\/(T="tuple"/\∃ o,K.lookup p=some o/\o.cls=.type "tuple"/\o.dict=none) \/
   (T="dict"/\((∃ kvs,H p=some (.dK kvs))\/∃ kvs,H p=some (.dT kvs)))\/(T="set"/\∃ S n,H p=some (.set S n))
 | _=>False
theorem Er(I:Inv X pins σ H s)(r:RelV x v)(ty:tyV X.K T x H) :
  s.TypeIs v T/\∀ a,v=.ref a->∃ ob,s.heap.get? a=some ob/\ob.dict=none:=by
 cases x with
 | str z =>
   obtain⟨t,rfl⟩:=r;cases (show T="str" from ty);exact⟨typeIs_str s z t,fun _ e=>nomatch e⟩
 | int i =>
   obtain⟨t,rfl⟩:=r;cases (show T="int" from ty);exact⟨typeIs_int s i t,fun _ e=>nomatch e⟩
 | ref p =>
   cases r;rcases ty with ⟨rfl,xs,hq⟩|⟨rfl,o,hk,hc,hd⟩|⟨rfl,hk⟩|⟨rfl,S,n,hk⟩
   ·obtain⟨its,_,pl,_⟩:=I.list hq;refine⟨pl.isList.typeIs,fun a e=>?_⟩;cases e;obtain⟨o,n,e,c,hd,_⟩:=pl;exact⟨o,e,hd⟩
   ·refine⟨⟨o,I.kIn p o hk,hc⟩,fun a e=>?_⟩;cases e;exact⟨o,I.kIn _ o hk,hd⟩
   ·have z:∃ o,s.heap.get? p=some o/\o.ExactDict:=by
     rcases hk with ⟨kvs,hk⟩|⟨kvs,hk⟩
     ·obtain⟨_,_,_,_,o,_,_,e,ex,_⟩:=I.hok p _ hk;exact⟨o,e,ex⟩
     ·obtain⟨_,_,_,_,o,_,_,e,ex,_⟩:=I.hok p _ hk;exact⟨o,e,ex⟩
    obtain⟨o,e,ex⟩:=z;refine⟨⟨o,e,ex.1⟩,fun a e2=>?_⟩;cases e2;exact⟨o,e,ex.2.1⟩
   ·obtain⟨o,_,_,_,e,ex,_⟩:=I.hok p _ hk;refine⟨⟨o,e,ex.1⟩,fun a e2=>?_⟩;cases e2;exact⟨o,e,ex.2.1⟩
 | _=>exact False.elim ty
inductive zfz(K:Frag)(T:String)(r:V->List V->Hp->VK->Prop)(Q:VK)(x:V)(H1:Hp):Prop where
 | mk(_:tyV K T x H1)(_:r x [] H1 Q)
def zg1(K:Frag)(T:String)(r:V->List V->Hp->VK->Prop)(to:TE):TE:=fun σ H Q=>to σ H fun x H1=>zfz K T r Q x H1
inductive zg2(K:Frag)(T:String)(r:V->List V->Hp->VK->Prop)(t:TA)(σ:L2.St)(Q:VK)(x:V)(H1:Hp):Prop where
 | mk(_:tyV K T x H1)(_:t σ H1 fun xs H2=>r x xs H2 Q)
def tBM(K:Frag)(T:String)(r:V->List V->Hp->VK->Prop)(to:TE)(t:TA):TE:=fun σ H Q=>to σ H fun x H1=>zg2 K T r t σ Q x H1
variable{o e:Expr}{es:List Expr}{to:TE}{t:TA}{name:Str}{apos cpos:Pos}{T id:String}{r:V->List V->Hp->VK->Prop}
theorem Ik(pa:PlainAttrs T)(slot:Slot T name id)(hty:typeOf (.builtin id)=pure (.type "method_descriptor"))(hm:MtR X id r)(ho:PE X o to)
  (hbase:attributeBase o name X.env (eval o X.env)=eval o X.env:=by rfl) (hline:(apos.endLine == cpos.line)=true:=by rfl):PE X (.Call (.Attribute o name apos) [] [] cpos) (zg1 X.K T r to):=by
 intro pins s σ H Q I h;refine wpAny_Call_method0_late hbase hline (thn (ho pins s σ H _ I h) fun v s1 ⟨x,H1,I1,r1,ty,q1⟩=>?_);obtain⟨h1,h2⟩:=Er I1 r1 ty;exact⟨T,id,pa,slot,hty,h1,h2,Calls.callWith_builtin rfl (PySem.evalArgs_none (hm pins s1 σ H1 x [] v [] Q I1 r1 .nil q1))⟩
theorem A0(pa:PlainAttrs T)(slot:Slot T name id)(hty:typeOf (.builtin id)=pure (.type "method_descriptor"))(hm:MtR X id r)(ho:PE X o to)(ha:PA X (e :: es) t)
  (hbase:attributeBase o name X.env (eval o X.env)=eval o X.env:=by rfl)
  (hfew:((backTo cpos (starEach (e :: es) X.env)).all (fun x=>!x.1)&&(backToKw cpos (keywordEach [] X.env)).all (fun x=>x.1.isSome)
   && decide ((e :: es).length+([]:List Keyword).length+(if ([]:List Keyword).isEmpty then 0 else 1)<30))=true:=by rfl)
  (hline:(apos.endLine == cpos.line)=true:=by rfl) (hs:starEach (e :: es) X.env=(false,eval e X.env) :: starEach es X.env:=by rfl) (hplain:(backTo cpos (starEach es X.env)).any (·.1)=false:=by rfl) :
  PE X (.Call (.Attribute o name apos) (e :: es) [] cpos) (tBM X.K T r to t):=by
 intro pins s σ H Q I h;refine wpAny_Call_method_late hbase hfew hline rfl (thn (ho pins s σ H _ I h) fun v s1 ⟨x,H1,I1,r1,ty,q1⟩=>?_);obtain⟨h1,h2⟩:=Er I1 r1 ty;refine⟨T,id,pa,slot,hty,h1,h2,?_⟩;have hA:=ha cpos pins s1 σ H1 _ I1 q1;rw[hs] at hA ⊢;refine Calls.callWith_builtin (by show (false||(backTo cpos (starEach es X.env)).any (·.1))=false;rw[hplain]<;>rfl) (Calls.evalArgs_plain ?_);exact thn hA fun us s2 ⟨vs,H2,I2,r2,q2⟩=>hm pins s2 σ H2 x vs v us Q I2 r1 r2 q2
end
def MtM(X:Cx)(id:String)(r:V->List V->Hp->VK->Prop):Prop :=
 ∀ (pins:List (Addr×Obj)) (s:Shared) (σ:St) (H:Hp) (x:V) (xs:List V) (v:Value) (us:List Value) (Q:VK),Inv X pins σ H s->RelV x v->Vals xs us->r x xs H Q ->
   wpAny (model X.prog X.w) X.A (call (.builtin id) (v :: us)) (EP X pins σ Q) X.xe s
theorem Vals.one:∀ {x:V} {us:List Value},Vals [x] us->∃ u,us=[u]/\RelV x u
 | _,_,.cons r .nil=>⟨_,rfl,r⟩
theorem Vals.zero:∀ {us:List Value},Vals [] us->us=[]
 | _,.nil=>rfl
theorem Vals.dropLast(h:Vals xs us):Vals xs.dropLast us.dropLast:=by
 induction h with
 | nil=>exact .nil
 | cons r t ih =>
   cases t with
   | nil=>exact .nil
   | cons q t'=>exact .cons r ih
theorem Vals.eraseIdx:∀ {xs:List V} {us:List Value} (i:Nat),Vals xs us->Vals (xs.eraseIdx i) (us.eraseIdx i)
 | _,_,_,.nil=>.nil
 | _,_,0,.cons _ t=>t
 | _,_,i+1,.cons r t=>.cons r (Vals.eraseIdx i t)
theorem Vals.reverse(h:Vals xs us):Vals xs.reverse us.reverse:=by
 induction h with
 | nil=>exact .nil
 | cons r t ih=>rw[zrq,zrq];exact Vals.append ih (.cons r .nil)
theorem Vals.rep(h:Vals xs us):∀ k:Nat,Vals (List.replicate k xs).flatten (List.replicate k us).flatten
 | 0=>.nil
 | k+1=>by
   rw[zrl,zrl,List.flatten_cons,List.flatten_cons];exact Vals.append h (Vals.rep h k)
theorem Es(l:List α):l.eraseIdx (l.length-1)=l.dropLast:=by
 induction l with
 | nil=>rfl
 | cons a r ih =>
   cases r with
   | nil=>rfl
   | cons b r =>
     have e:(a :: b :: r).length-1=((b :: r).length-1)+1:=by
      have h1:(a :: b :: r).length=r.length+2:=rfl;have h2:(b :: r).length=r.length+1:=rfl;omega
     rw[e,List.eraseIdx_cons_succ,ih]
     all_goals rfl
theorem Je:∀ (l:List α) (i:Nat),(l.eraseIdx i).length<=l.length
 | [],_=>zqa _
 | _ :: _,0=>zrn _
 | _ :: r,i+1=>Nat.succ_le_succ (Je r i)
theorem Jf(its:List Value):∀ (k:Nat) (acc:List Value),
  List.foldl (fun x1 x2=>x1++x2) acc.toArray (List.replicate k its.toArray)=(acc++(List.replicate k its).flatten).toArray
 | 0,acc=>by simp
 | k+1,acc=>by
   have e:acc.toArray++its.toArray=(acc++its).toArray:=by simp
   have e2:(acc++its)++(List.replicate k its).flatten=acc++(List.replicate (k+1) its).flatten:=by
    rw[zrl,List.flatten_cons,List.append_assoc]
   rw[<- e2,<- Jf its k (acc++its),<- e,zrl,List.foldl_cons]
section
variable{X:Cx}{pins:List (Addr×Obj)}{σ:St}{H:Hp}{s:Shared}{l b:Addr}{xs ys zs:List V}
theorem Inv.lset{its its':List Value}{n:Nat}{f:Array Value->Array Value}{t':Nat}(I:Inv X pins σ H s)(hH:H l=some (.lst xs))
  (e:s.heap.get? l=some { cls:=.type "list",data:=.seq its.toArray n }) (hf:f its.toArray=its'.toArray) (hv:Vals ys its') (hz:ys.length<=sizeLine) :
  Inv X pins σ (upd H l (.lst ys)) { s with heap:=s.heap.update l (Obj.mapSeq f),toks:=t' }:=by
 have q:=PySem.IsL.update e f;rw[hf] at q;refine I.write (x:=l) (e:=l) (by rw[hH];exact trivial) (.inl rfl) (fun b' u hb hu=>(Heap.get?_update_other s.heap (Obj.mapSeq f) (Ne.symm hb)).trans hu) ⟨_,q⟩ ?_;exact⟨hz,its',_,hv,q⟩
theorem Inv.lnew(I:Inv X pins σ H s)(hv:Vals ys its)(hz:ys.length<=sizeLine) :
  Inv X pins σ (upd H s.heap.objs.size (.lst ys)) { s with heap:=s.heap.push { cls:=.type "list",data:=.seq its.toArray },toks:=t' } :=
 I.laid (fun _ _ q=>Heap.get?_push_of_some _ q) (zqa _) ⟨hz,its,0,hv,Heap.get?_push_size _ rfl⟩
theorem Inv.fresh(I:Inv X pins σ H s):H s.heap.objs.size=none:=I.hok.fresh (zqa _)
theorem Inv.lstM(I:Inv X pins σ H s)(hH:H l=some (.lst xs)):xs.length<=sizeLine/\∃ (its:List Value) (n:Nat),Vals xs its/\xs.length=its.length/\s.heap.get? l=some { cls:=.type "list",data:=.seq its.toArray n }:=by
 obtain⟨z,its,n,r,e⟩:=I.hok l _ hH;exact⟨z,its,n,r,r.length,e⟩
theorem A4(h:n<=sizeLine):Builtin.List.listTooLong n=false:=by
 unfold Builtin.List.listTooLong;exact zqd ⋯
end
section
variable{X:Cx}
inductive zb6(x:V)(vs:List V)(H:Hp)(Q:VK):Prop where
 | mk(l)(xs)(y)(_:x=.ref l)(_:vs=[y])(_:H l=some (.lst xs))(_:xs.length<sizeLine)(_:Q .non (upd H l (.lst (xs++[y]))))
theorem C8:MtM X "list.append" zb6:=by
 intro pins s σ H x vs v us Q I rx rv h;obtain⟨l,xs,y,rfl,rfl,hH,hz,q⟩:=h;cases rx;obtain⟨u,rfl,ru⟩:=rv.one;obtain⟨z,its,n,r,hl,e⟩:=I.lstM hH;refine call_meets F.slot_list_append ⟨_,e,rfl⟩ F.entry_list_append (F.args_list_append_2 _ _) (PySem.list_append l its.toArray n u (by rw[zqe];omega)) ⟨e,?_⟩;refine⟨.non,_,I.lset (its':=its++[u]) hH e (by simp) (r.append (.cons ru .nil)) ?_,rfl,q⟩;rw[zp6,List.length_singleton];omega
inductive zg3(x:V)(vs:List V)(H:Hp)(Q:VK):Prop where
 | mk(l)(xs)(y)(_:x=.ref l)(_:vs=[])(_:H l=some (.lst xs))(_:xs[xs.length-1]?=some y)(_:Q y (upd H l (.lst xs.dropLast)))
theorem Et:MtM X "list.pop" zg3:=by
 intro pins s σ H x vs v us Q I rx rv h;obtain⟨l,xs,y,rfl,rfl,hH,hy,q⟩:=h;cases rx;have hus:=rv.zero;subst hus;obtain⟨z,its,n,r,hl,e⟩:=I.lstM hH;obtain⟨u,hu,ru⟩:=r.get hy;have hy':its.toArray[its.toArray.size-1]?=some u:=by
  show its.toArray[its.length-1]?=some u;rw[<- Array.getElem?_toList,<- hl];exact hu
 refine call_meets F.slot_list_pop ⟨_,e,rfl⟩ F.entry_list_pop (F.args_list_pop_1 _) (MeetsSeq.list_pop_last l its.toArray n u hy' (by rw[zqe];omega)) ⟨e,?_⟩;refine⟨y,_,I.lset (its':=its.dropLast) hH e ?_ r.dropLast ?_,ru,q⟩
 ·show its.toArray.eraseIdxIfInBounds (its.toArray.size-1)=its.dropLast.toArray;rw[zqe,List.eraseIdxIfInBounds_toArray,Es]
 ·rw[List.length_dropLast];omega
inductive A5(x:V)(vs:List V)(H:Hp)(Q:VK):Prop where
 | mk(l)(xs)(_:x=.ref l)(_:vs=[])(_:H l=some (.lst xs))(_:Q .non (upd H l (.lst xs.reverse)))
theorem Eu:MtM X "list.reverse" A5:=by
 intro pins s σ H x vs v us Q I rx rv h;obtain⟨l,xs,rfl,rfl,hH,q⟩:=h;cases rx;have hus:=rv.zero;subst hus;obtain⟨z,its,n,r,hl,e⟩:=I.lstM hH;refine call_meets F.slot_list_reverse ⟨_,e,rfl⟩ F.entry_list_reverse (F.args_list_reverse_1 _) (AutoSeq1.list_reverse_list_0 l its.toArray n (by rw[zqe];omega)) ⟨e,?_⟩;refine⟨.non,_,I.lset (its':=its.reverse) hH e (by simp) r.reverse ?_,rfl,q⟩;rw[List.length_reverse];omega
inductive zeb(x:V)(y:V)(H:Hp)(Q:VK):Prop where
 | mk(l)(b)(xs)(zs)(_:x=.ref l)(_:y=.ref b)(_:H l=some (.lst xs))(_:H b=some (.lst zs))(_:xs.length+zs.length<=sizeLine)(_:∀ p,H p=none->Q (.ref p) (upd H p (.lst (xs++zs))))
theorem Ug:OpR X (binaryOp .Add) zeb:=by
 intro pins s σ H x y v u Q I rx ry h;obtain⟨l,b,xs,zs,rfl,rfl,hH,hB,hz,q⟩:=h;cases rx;cases ry;obtain⟨z,its,n,r,hl,e⟩:=I.lstM hH;obtain⟨z2,its2,n2,r2,hl2,e2⟩:=I.lstM hB;refine PySem.P.add_list e e2 ?_ (by rw[zqe,zqe];omega);have ea:its.toArray++its2.toArray=(its++its2).toArray:=by simp
 rw[ea];exact⟨.ref _,_,I.lnew (t':=s.toks) (r.append r2) (by rw[zp6];omega),rfl,q _ I.fresh⟩
inductive zg4(x:V)(y:V)(H:Hp)(Q:VK):Prop where
 | mk(l)(k)(xs)(_:x=.ref l)(_:y=.int k)(_:H l=some (.lst xs))(_:-(2 ^ 63)<=k)(_:k<2 ^ 63)(_:xs.length*k.toNat<=sizeLine)(_:∀ p,H p=none->Q (.ref p) (upd H p (.lst (List.replicate k.toNat xs).flatten)))
theorem zb7(xs:List α)(k:Nat):(List.replicate k xs).flatten.length=k*xs.length:=by
 induction k with
 | zero=>simp
 | succ k ih=>rw[zrl,List.flatten_cons,zp6,ih,Nat.succ_mul,Nat.add_comm]
theorem zec:OpR X (binaryOp .Mult) zg4:=by
 intro pins s σ H x y v u Q I rx ry h;obtain⟨l,k,xs,rfl,rfl,hH,h1,h2,hz,q⟩:=h;cases rx;obtain⟨t,rfl⟩:=ry;obtain⟨z,its,n,r,hl,e⟩:=I.lstM hH;have hlen:its.toArray.size*k.toNat<=sizeLine:=by rw[zqe,<- hl];exact hz
 have hcap:¬ its.toArray.size*k.toNat>(2 ^ 63-1)/8:=by
  have:(sizeLine:Nat)<=(2 ^ 63-1)/8:=by decide
  omega
 have hfit:¬ (!Builtin.List.listFitsIndex k)=true:=by
  rw[fitsIndex_both h1 h2];exact zqj
 have hlong:¬ Builtin.List.listTooLong (its.toArray.size*k.toNat)=true:=by
  rw[A4 hlen];exact zqj
 have hnew:List.foldl (fun x1 x2=>x1++x2) #[] (List.replicate (if its.toArray.isEmpty=true then 0 else k.toNat) its.toArray)=(List.replicate k.toNat its).flatten.toArray:=by
  have f0:∀ m:Nat,List.foldl (fun x1 x2=>x1++x2) #[] (List.replicate m its.toArray)=(List.replicate m its).flatten.toArray:=fun m=>by
   have:=Jf its m [];rw[List.nil_append] at this;exact this
  rw[f0];cases its with
  | nil=>simp
  | cons a r'=>rw[if_neg (by simp)]
 refine wpAny_binaryOp_repeat_ref (T:="list") (U:="int") ⋯ ⟨_,e,rfl⟩ (fun s'=>typeIs_int s' k t) noFill_list_mul F.fills_int_mul F.slot_int_rmul repeat_list F.slot_int_index.lookup
  (call_meets F.slot_int_rmul (typeIs_int s k t) F.entry_int_rmul (F.args_int_rmul_2 _ _) (int___rmul___int_list k t l its.toArray n)
   ⟨e,rfl,⟨_,e,rfl⟩,call_meets F.slot_list_mul ⟨_,e,rfl⟩ F.entry_list_mul (F.args_list_mul_2 _ _) (AutoListH.list___mul___list_int_3 l its.toArray n k t hfit hcap hlong) ⟨e,?_⟩⟩)
 rw[hnew];exact⟨.ref _,_,I.lnew (t':=s.toks) (r.rep k.toNat) (by rw[zb7,Nat.mul_comm];exact hz),rfl,q _ I.fresh⟩
end
end L2
namespace Att
open PySem PySem.W PySem.Calls PyProof.Rows
theorem Nl:∀ (ns:List Int) (vs:List Value),WellAll P h vs (ns.map WData.int)->IntsAre vs ns:=by
 intro ns
 induction ns with
 | nil =>
   intro vs w;rw[List.map_nil] at w;cases w;exact .nil
 | cons n ns ih =>
   intro vs w;rw[zqc] at w;cases w with
   | cons a b =>
     cases a;exact .cons _ _ (ih _ b)
theorem C9{l:OpenLaw}{n:Nat}(hn:l.most=some n){P:Params}{h:Heap}{args:List WData}{vals:List Value}
  (hpre:l.row.toRowW.claim.pre args=true) (hwl:WellAll P h vals args) :
  ∃ a vs ns,vals=[Value.ref a]/\args=[WData.list (ns.map WData.int)]/\h.get? a=some { cls:=.type "list",data:=.seq vs.toArray }/\IntsAre vs ns/\ns.length<=n:=by
 have hsh:WShape.hasAll [] args [.list .int]=true:=(pre_splitW hpre).1;have hc:l.pre.holds [] { args:=args }=true:=(pre_splitW hpre).2;obtain⟨d,r,rfl,h1,h2⟩:=hasAllW_cons hsh;obtain rfl:=hasAllW_nil h2;obtain⟨xs,rfl,h3⟩:=hasW_list h1;obtain⟨ns,rfl⟩:=items_int h3;have hlen:ns.length<=n:=by
  unfold OpenLaw.pre at hc;have h4:(WTm.not (.lt (.lit (.int (n:Int))) (.len (.arg 0)))).holds [] { args:=[.list (ns.map .int)] }=true:=by
   have h4:=(holds_andW hc).1;rw[hn] at h4;exact h4
  have h5:=condW_of h4 (w_not (w_lt w_lit (w_len_list (w_arg rfl))));rw[zp3] at h5;refine Nat.le_of_not_lt fun q=>?_;have q':(n:Int)<((ns.length:Nat):Int):=by omega
  first
   | (rw[zp8 q'] at h5;exact absurd h5 ⋯)
   | (simp at h5;omega)
 cases hwl with
 | cons w1 w2 =>
   cases w2;cases w1 with
   | list ho hall=>exact⟨_,_,ns,rfl,rfl,ho,Nl ns _ hall,hlen⟩
theorem Ba(l:OpenLaw)(args:List WData):l.row.toRowW.claim.post args (.bool true) args=true :=
 postW_of (r:=l.row.toRowW) (X:=(true == true))
  (show WShape.has [] (.bool true) .bool=true by first|rfl|decide|simp[WShape.has,WShape.arms,WShape.armsAll])
  (show (WTm.eq .res (.lit (.bool true))).value [] { args:=args,res:=some (.bool true),after:=args }=some (.bool (true == true)) from w_eq_bool (w_res rfl) w_lit) rfl
theorem attach_call{l:OpenLaw}{n:Nat}{q:Program}{loose:List Str}{XP:(Str->Option Value)->Heap->Prop}{YP:World->Heap->Prop}{d:DefRec}
  (hn:l.most=some n) (hdf:d.params.defaults=[])
  (call:∀ (w:World) (s₀ s₁:Shared) (mg mb:Str->Option Value) (fa:Addr) (o:Obj) (pm cd doc:Value) (a:Addr) (vs:List Value) (ns:List Int),
   Ground q loose [] XP w s₀ mg mb s₁.heap->YP w s₁.heap ->
   s₁.heap.get? fa=some o->o.data=.func (docDef d.name d.params d.body d.scope pm cd doc)->s₁.heap.CodeRec cd d.name->mg d.name=some (.ref fa) ->
   s₁.heap.get? a=some { cls:=.type "list",data:=.seq vs.toArray }->IntsAre vs ns->ns.length<=n->s₁.gens=#[] ->
   codeAny (model l.prog w) callerA (.call (.ref fa) ⟨[.ref a],[]⟩) (fun r s'=>r=.ok (.ret (.bool true))/\OldK s₁.heap s'.heap/\s'.os=s₁.os/\AllBare s'.gens) s₁) :
  WalkO q loose XP YP l.row.toRowW d [] (fun f vs=>PySem.call f vs):=by
 intro w s₀ s₁ mg mb G Y fa o pm cd doc dV kV ho hd hcd hD hmg hg args vals as hpre hlay hrd hwl hlo;obtain rfl:dV=.none:=Dflts.none hD hdf;obtain rfl:kV=.none:=Dflts.noKw hD;obtain⟨a,vs,ns,rfl,rfl,hobj,hints,hlen⟩:=C9 hn hpre hwl;refine enter_call (codeAny_mono (call w s₀ s₁ mg mb fa o pm cd doc a vs ns G Y ho (fd_plain hd) hcd hmg hobj hints hlen hg) fun r s' hq=>?_);obtain⟨rfl,h2,h3,h4⟩:=hq;exact⟨.inl ⟨.bool true,.bool true,[],rfl,fun _=>rfl,.bool true,Ba l _,fun _=>⟨List.Pairwise.nil,fun _ hm=>(nomatch hm)⟩⟩,h2,h3,h4⟩
section
variable{prog:Program}{w:World}{A:Around}{E:Value->Shared->Prop}{s:Shared}{K:Frag}
def noObjs(h:Heap):Heap:={ h with objs:=#[] }
theorem noObjs_get(h:Heap)(b:Addr):(noObjs h).get? b=none:=by
 cases e:(noObjs h).get? b with
 | none=>rfl
 | some o=>exact absurd (Heap.lt_size e) (zrw _)
end
end Att
namespace L2
open PySem PySem.Spec PyProof.Rows
theorem Jg:∀ {vs:List Value} {ns:List Int},IntsAre vs ns->Vals (ns.map V.int) vs
 | _,_,.nil=>.nil
 | _,_,.cons n t h=>.cons ⟨t,rfl⟩ (Jg h)
def zed(H:Hp):Prop:=∀ b,H b=none\/∃ o xs,H b=some (.frz o (.lst xs))
theorem A6{P:Program}{w:World}{K:Frag}{mg mb:Str->Option Value}{CX:CXT}{k:Nat}{fa a:Addr}{fd:FuncData}{x:Str}{sp:Sp}{s₁:Shared}{vs:List Value}{ns:List Int}
  (KX:K.In s₁.heap) (hns:s₁.heap.Ns mainGlobals mg) (hb:s₁.heap.Ns builtinsNs mb) (hbb:∀ x:Str,x≠"__name__"->mb x=bootBuiltins x) (hlim:s₁.heap.NoLimit) (hg:s₁.gens=#[])
  (ha:s₁.heap.get? a=some { cls:=.type "list",data:=.seq vs.toArray }) (hi:IntsAre vs ns) (hl:ns.length<=sizeLine) (hr:Wd k callerA)
  (F:∀ base:Heap,K.In base->base.Ns mainGlobals mg->FnOk P w K mg base CX k fa fd [x] sp) (hbind:∀ (s:Shared) (u:Value),BindsTo s fd ⟨[u],[]⟩ [(x,u)])
  (hsp:∀ H:Hp,zed H->SqL K H a (ns.map V.int)->sp [.ref a] H (fun v _=>v=.bl true) fun _ _ _=>False)
  (hCX:∀ H e s',CX [] H s₁ (fun _ _ _=>False) e s'->False) :
  codeAny (model P w) callerA (.call (.ref fa) ⟨[.ref a],[]⟩) (fun r s'=>r=.ok (.ret (.bool true))/\OldK s₁.heap s'.heap/\s'.os=s₁.os/\AllBare s'.gens) s₁:=by
 have rv:=Jg hi;have lenV:=hi.length;have core:∀ H:Hp,zed H->SqL K H a (ns.map V.int)->HOk P w H s₁.heap->(∀ b,H b≠none->b=a)->(H a≠none->K.lookup a=none) ->
   codeAny (model P w) callerA (.call (.ref fa) ⟨[.ref a],[]⟩) (fun r s'=>r=.ok (.ret (.bool true))/\OldK s₁.heap s'.heap/\s'.os=s₁.os/\AllBare s'.gens) s₁:=by
  intro H hO hS hok hA hK;have base_of:∀ {b:Addr} {o:Obj},s₁.heap.get? b=some o->H b=none->(Ig s₁.heap H).get? b=some o:=fun e n=>B9 e n;have noA:∀ {b:Addr} {o:Obj} {es:Array DictEntry} {ep:Nat},s₁.heap.get? b=some o->o.data=.dict es ep->H b=none:=fun {b o es ep} e d=>by
   cases q:H b with
   | none=>rfl
   | some u =>
     have e':b=a:=hA b (by rw[q];simp);subst e';rw[ha] at e;cases e;have d':Data.seq vs.toArray _=Data.dict es ep:=d;cases d'
  have nsK:∀ {b:Addr} {m:Str->Option Value},s₁.heap.Ns b m->(Ig s₁.heap H).Ns b m:=fun {b m} ⟨o,es,ep,e,d,r⟩=>⟨o,es,ep,base_of e (noA e d),d,r⟩
  have hKb:K.In (Ig s₁.heap H):=fun b o e=>base_of (KX b o e) (by
   cases q:H b with
   | none=>rfl
   | some u =>
     have e':b=a:=hA b (by rw[q];simp);subst e';rw[hK (by rw[q];simp)] at e;cases e)
  have hM:Mod K mg (Ig s₁.heap H):=⟨hKb,nsK hns,⟨mb,nsK hb,hbb⟩,let ⟨mc,h1,h2⟩:=hlim;⟨mc,nsK h1,h2⟩⟩;have e0:Nk P w K mg (Ig s₁.heap H) callerA [] s₁ H:=⟨rfl,hM,fun b o e=>zbp e,Nat.le_of_eq (Cs _ _),trivial,fun b hb=>absurd (show b∈([]:List Addr) from hb) (by simp),hok,.of_eq hg⟩;refine codeAny_mono ((F _ hKb (nsK hns)).run callerA [] s₁ H ⟨[.ref a],[]⟩ [.ref a] [.ref a] _ _ hr e0 (hbind s₁ (.ref a)) (.cons rfl .nil) (hsp H hO hS)) fun r s' h=>?_;cases r with
  | error e=>exact(hCX H e s' h).elim
  | ok fl =>
    cases fl with
    | next=>exact False.elim h
    | brk=>exact False.elim h
    | cont=>exact False.elim h
    | ret u =>
      obtain⟨v,H',os,bare,un,hok',r',q⟩:=h;have q':v=.bl true:=q;subst q';obtain rfl:u=Value.bool true:=r';refine⟨rfl,OldK.of_keep fun b o e=>?_,os,bare⟩;cases q:H b with
      | none=>exact un.keep b o e q (by intro z;exact absurd (show b∈([]:List Addr) from z) (by simp)) (by simp)
      | some u =>
        rcases hO b with z|⟨ob,xs,z⟩
        ·rw[q] at z;cases z
        ·have z2:=un.frzs b ob _ z;obtain⟨e1,_⟩:=hok b _ z;obtain⟨e2,_⟩:=hok' b _ z2;rw[e] at e1;cases e1;exact e2
 cases hk:K.lookup a with
 | some o =>
   have e:=KX a o hk;rw[ha] at e;cases e;refine core (fun _=>none) (fun _=>.inl rfl) (.inr ⟨_,vs.toArray,_,hk,rfl,rfl,rfl,by rw[zqe,lenV];exact hl,by simpa using rv⟩) (fun b u z=>by have z':(none:Option HO)=some u:=z;cases z') (fun b z=>absurd rfl z) fun z=>absurd rfl z
 | none =>
   refine core (fun b=>if b=a then some (.frz { cls:=.type "list",data:=.seq vs.toArray } (.lst (ns.map V.int))) else none) (fun b=>?_) (.inl (.inr ⟨{ cls:=.type "list",data:=.seq vs.toArray },if_pos rfl⟩)) (fun b u z=>?_) (fun b z=>?_) fun _=>hk
   ·by_cases hb:b=a
    ·exact .inr ⟨_,_,if_pos hb⟩
    ·exact .inl (if_neg hb)
   ·by_cases hb:b=a
    ·have z':=(if_pos hb).symm.trans z;cases z';subst hb;exact⟨ha,by rw[zp3];exact hl,vs,_,rv,ha⟩
    ·have z':=(if_neg hb).symm.trans z;cases z'
   ·by_cases hb:b=a
    ·exact hb
    ·exact absurd (if_neg hb) z
theorem zb8{l:PySem.W.OpenLaw}{n k:Nat}{q:Program}{loose:List Str}{XP:(Str->Option Value)->Heap->Prop}{YP:World->Heap->Prop}{d:DefRec}{K:Params->Frag}{CX:World->CXT}{sp:World->Sp}{x:Str}
  (hn:l.most=some n) (hn2:n<=sizeLine) (hdf:d.params.defaults=[]) (hr:Wd k callerA)
  (hY:∀ (w:World) (h:Heap),YP w h->(K w.params).In h)
  (F:∀ (w:World) (mg:Str->Option Value) (fa:Addr) (h:Heap),(K w.params).In h->h.Ns mainGlobals mg->mg d.name=some (.ref fa) ->
   ∃ fd:FuncData,(∀ (s:Shared) (u:Value),BindsTo s fd ⟨[u],[]⟩ [(x,u)]) /\
     ∀ base:Heap,(K w.params).In base->base.Ns mainGlobals mg->FnOk l.prog w (K w.params) mg base (CX w) k fa fd [x] (sp w))
  (hsp:∀ (w:World) (H:Hp) (a:Addr) (ns:List Int),ns.length<=n->zed H->SqL (K w.params) H a (ns.map V.int)->sp w [.ref a] H (fun v _=>v=.bl true) fun _ _ _=>False)
  (hCX:∀ (w:World) (H:Hp) (s:Shared) (e:Value) (s':Shared),CX w [] H s (fun _ _ _=>False) e s'->False) :
  PySem.W.WalkO q loose XP YP l.row.toRowW d [] (fun f vs=>PySem.call f vs):=by
 refine Att.attach_call hn hdf fun w s₀ s₁ mg mb fa o pm cd doc a vs ns G Y ho hd hcd hmg hobj hints hlen hg=>?_;have KX:=hY w _ Y;obtain⟨fd,hb,hF⟩:=F w mg fa _ KX G.T.g hmg;exact A6 KX G.T.g G.T.b G.T.builtins G.T.nolimit hg hobj hints (zqr hlen hn2) hr hF hb (fun H hO hS=>hsp w H a ns hlen hO hS) fun H e s'=>hCX w H s₁ e s'
def Zx(s:Stmt)(j:Nat):Stmt:=match s with
 | .ClassDef _ _ _ body _ _ _ _ _ _ _=>body.getD j (.Pass ⟨0,0,0,0⟩)
 | _=>.Pass ⟨0,0,0,0⟩
def U1(s:Stmt):Arguments:=match s with
 | .FunctionDef _ a _ _ _ _ _ _ _ _=>a
 | _=>{ posonlyargs:=[],args:=[],vararg:=none,kwonlyargs:=[],kw_defaults:=[],kwarg:=none,defaults:=[] }
def Y7(s:Stmt):List Stmt:=match s with
 | .FunctionDef _ _ b _ _ _ _ _ _ _=>b
 | _=>[]
def Zj(s:Stmt):Scope:=match s with
 | .FunctionDef _ _ _ _ _ _ sc _ _ _=>sc
 | _=>{ kind:=.function,names:=[],isGenerator:=false,isCoroutine:=false }
abbrev E0:XK:=fun _ _ _=>False
structure Fun(K:Frag)(x qual:Str)(st:Stmt)(f:Addr)(fd:FuncData):Prop where
 ex:∃ (oc:Value) (od:Option Addr) (kV doc pm:Value) (an:Option Addr) (cdv ct:Value) (osl:Array (Option Value)),
  fd=PySem.W.fnOf x qual (U1 st) (Y7 st) (Zj st) .none kV doc pm an cdv ct/\K.lookup f=some ⟨oc,od,.func fd,osl⟩/\PySem.W.codeIn K cdv qual=true
 kp:PySem.W.keepIn K (.ref f)=true
section
variable{P:Program}{w:World}{K:Frag}{mg:Str->Option Value}{base:Heap}
theorem Fun.binds{x qual:Str}{st:Stmt}{f:Addr}{fd:FuncData}{ps:List Str}(F:Fun K x qual st f fd)
  (h:∀ (kV doc pm:Value) (an:Option Addr) (cdv ct:Value) (us:List Value),us.length=ps.length->bindArgs (PySem.W.fnOf x qual (U1 st) (Y7 st) (Zj st) .none kV doc pm an cdv ct) ⟨us,[]⟩=pure (ps.zip us)):To K fd ps []:=by
 obtain⟨oc,od,kV,doc,pm,an,cdv,ct,osl,rfl,lk,hcd⟩:=F.ex;exact .all (h kV doc pm an cdv ct)
theorem Ql{x qual:Str}{st:Stmt}{f:Addr}{oc:Value}{od an:Option Addr}{osl:Array (Option Value)}{kV doc pm cdv ct:Value}(l:K.lookup f=some ⟨oc,od,.func (PySem.W.fnOf x qual (U1 st) (Y7 st) (Zj st) .none kV doc pm an cdv ct),osl⟩)
  (c:PySem.W.codeIn K cdv qual=true) (k:PySem.W.keepIn K (.ref f)=true):Fun K x qual st f (PySem.W.fnOf x qual (U1 st) (Y7 st) (Zj st) .none kV doc pm an cdv ct):=⟨⟨oc,od,kV,doc,pm,an,cdv,ct,osl,rfl,l,c⟩,k⟩
end
theorem Ws(hr:Wd k A):A.units+1<cLine:=zri (Nat.add_le_add_left (by decide:1<=64) _) hr.units
theorem Rp(h:n<=1000):n<sizeLine:=zri h ⋯
section
variable{X:Cx}
theorem pv(i:Nat)(hN:X.N[i]?=some x:=by rfl)(hv:Vis X.env.scope x:=by first|exact Or.inl rfl|exact Or.inr (Or.inl rfl)|exact Or.inr (Or.inr rfl))(hd:(x == ("__debug__":Str))=false:=by decide)
  (hcd:(x == ("__classdict__":Str))=false:=by decide):PE X (.Name x pos) (tVar i):=zdl hN hv hd hcd
theorem Bb:Wv X (.builtin "len") (fun xs H Q=>∃ a kvs,xs=[V.ref a]/\H a=some (.dK kvs)/\Q (.int kvs.length) H):=by
 intro pins s σ H xs us Q I r h;obtain⟨a,kvs,rfl,ha,q⟩:=h;obtain⟨u,rfl,ru⟩:=Sm r;cases ru;exact zft I (.inl ha) fun t s' I'=>⟨.int kvs.length,H,I',⟨t,rfl⟩,q⟩
end
theorem iteF{A B:Prop}(h:B):if false=true then A else B:=by
 rw[if_neg zqj];exact h
theorem iteT{A B:Prop}(h:A):if true=true then A else B:=by
 rw[if_pos rfl];exact h
theorem Gy{c A B:Prop}[Decidable c](h1:c->A)(h2:¬ c->B):if c then A else B:=by
 by_cases h:c
 ·rw[if_pos h];exact h1 h
 ·rw[if_neg h];exact h2 h
def Same(H H':Hp):Prop:=∀ b o,H b=some o->H' b=some o
theorem Same.refl(H:Hp):Same H H:=fun _ _ h=>h
theorem Same.trans(a:Same H H1)(b:Same H1 H2):Same H H2:=fun c o h=>b c o (a c o h)
theorem Same.free(e:Same H H')(h:H' l=Option.none):H l=Option.none:=by
 cases q:H l with
 | none=>rfl
 | some o =>
   rw[e l o q] at h;cases h
theorem Same.seq{K:Frag}{H H':Hp}{a:Addr}{xs:List V}(e:Same H H')(h:SqL K H a xs):SqL K H' a xs:=by
 rcases h with (h|⟨o,h⟩)|h
 ·exact .inl (.inl (e _ _ h))
 ·exact .inl (.inr ⟨o,e _ _ h⟩)
 ·exact .inr h
section
variable{κ:Type}[DecidableEq κ]
theorem Il:∀ {l:List κ} {k:κ},l.Nodup->¬ k∈l->(l++[k]).Nodup
 | [],k,_,_=>by simp
 | a :: r,k,h,hk=>by
   obtain⟨h1,h2⟩:=zqt.mp h;show (a :: (r++[k])).Nodup;refine zqt.mpr ⟨fun m=>?_,Il h2 fun m=>hk (zp7.mpr (Or.inr m))⟩;rcases zqi.mp m with q|q
   ·exact h1 q
   ·exact hk (zp7.mpr (Or.inl (zp9.mp q).symm))
theorem Bc{p:κ×V}{r:List (κ×V)}{k:κ}(e:p.1=k):Xh (p :: r) k=Xh r k:=by
 unfold Xh;rw[zrd,if_neg (by simp[e])]
theorem Bd{p:κ×V}{r:List (κ×V)}{k:κ}(e:¬ p.1=k):Xh (p :: r) k=p :: Xh r k:=by
 unfold Xh;rw[zrd,if_pos (by simp[e])]
end
section
variable{X:Cx}{pins:List (Addr×Obj)}{σ:List (Option V)}{H H':Hp}{s:Shared}{h':Heap}
theorem Inv.stepN{g':Array GenState}{t':Nat}{d':Drawn}{ch:List Addr}(I:Inv X pins σ H s)
  (hch:∀ b∈ch,(b∈X.ex\/X.s₀.heap.get? b=none)/\b≠X.env.locals/\(∀ x c,X.env.cells.lookup x=some c->c≠b)/\∀ p∈X.pn++pins,p.1≠b)
  (keep:∀ b o,b≠X.env.locals->b∉X.fs->b∉ch->s.heap.get? b=some o->H b=none->h'.get? b=some o)
  (slot:∀ b o,b≠X.env.locals->b∈X.fs->b∉ch->s.heap.get? b=some o->H b=none->∃ sl,h'.get? b=some { o with slots:=sl }) (free:∀ b o,b∉ch->s.heap.get? b=some o->H b=none->H' b=none)
  (there:∀ b o,b∉ch->s.heap.get? b=some o->∃ o',h'.get? b=some o')
  (tups:∀ b xs,H b=some (.tup xs)->H' b=some (.tup xs)) (frzs:∀ b o u,H b=some (.frz o u)->H' b=some (.frz o u)) (tbls:∀ b ps,H b=some (.tbl ps)->∃ more,H' b=some (.tbl (ps++more)))
  (ns:∀ m,s.heap.Ns X.env.locals m->h'.Ns X.env.locals m) (hok:HOk X.prog X.w H' h') (hg:AllBare g') :
  Inv X pins σ H' { s with heap:=h',gens:=g',drawn:=d',toks:=t' }:=by
 have neL:∀ b o,X.s₀.heap.get? b=some o->b≠X.env.locals:=fun b o e=>zqu (zqk (Heap.lt_size e) I.ok.above);have neC:∀ b o,X.s₀.heap.get? b=some o->b∉X.ex->b∉ch:=fun b o e hx hb=>by
  rcases(hch b hb).1 with z|z
  ·exact hx z
  ·rw[z] at e;cases e
 have cellK:∀ x c,X.env.cells.lookup x=some c->∀ v,s.heap.IsCell c v->h'.IsCell c v:=fun x c e v ⟨o,ho,hd⟩=>by
  have nch:c∉ch:=fun z=>(hch c z).2.2.1 x c e rfl;by_cases hc:c∈X.fs
  ·obtain⟨sl,q⟩:=slot c o (I.cne x c e) hc nch ho (I.freeC x c e);exact⟨_,q,hd⟩
  ·exact⟨o,keep c o (I.cne x c e) hc nch ho (I.freeC x c e),hd⟩
 refine⟨I.ok,I.os,hg,⟨fun b o e n hb hx=>?_,fun b o e n hb hx=>?_,fun b o e n hx=>?_,fun b o e hx=>?_,fun b xs e=>tups b xs (I.base.tups b xs e),fun b o xs e=>frzs b o xs (I.base.frzs b o xs e),fun b ps e=>?_⟩,?_,fun x c e=>?_,?_,fun x c e=>?_,fun p hp=>?_,hok,I.len⟩
 ·exact keep b o (neL b o e) hb (neC b o e hx) (I.base.keep b o e n hb hx) (I.base.free b o e n hx)
 ·obtain⟨sl,e1⟩:=I.base.slot b o e n hb hx;obtain⟨sl',e2⟩:=slot b _ (neL b o e) hb (neC b o e hx) e1 (I.base.free b o e n hx);exact⟨sl',e2⟩
 ·obtain⟨o',e1⟩:=I.base.there b o e hx;exact free b o' (neC b o e hx) e1 (I.base.free b o e n hx)
 ·obtain⟨o',e1⟩:=I.base.there b o e hx;exact there b o' (neC b o e hx) e1
 ·obtain⟨m1,e1⟩:=I.base.tbls b ps e;obtain⟨m2,e2⟩:=tbls b _ e1;exact⟨m1++m2,by rw[e2,Array.append_assoc]⟩
 ·obtain⟨m,hn,hl⟩:=I.loc;refine⟨m,ns m hn,fun i x v e1 e2 e3=>?_⟩;obtain⟨u,r,l⟩:=hl i x v e1 e2 e3;refine⟨u,r,?_⟩;rcases l with l|⟨k,c,e,z⟩
  ·exact .inl l
  ·exact .inr ⟨k,c,e,cellK x c e _ z⟩
 ·obtain⟨v,z⟩:=I.cell x c e;exact⟨v,cellK x c e v z⟩
 ·obtain⟨m,⟨o,_,_,ho,_⟩,_⟩:=I.loc;exact free _ o (fun z=>(hch _ z).2.1 rfl) ho I.free
 ·obtain⟨v,o,ho,hd⟩:=I.cell x c e;exact free c o (fun z=>(hch c z).2.2.1 x c e rfl) ho (I.freeC x c e)
 ·obtain⟨e,n,ne,nf,d⟩:=I.pin p hp;have nch:p.1∉ch:=fun z=>(hch p.1 z).2.2.2 p hp rfl;exact⟨keep p.1 p.2 ne nf nch e n,free p.1 p.2 nch e n,ne,nf,d⟩
theorem Inv.callN{g':Array GenState}{t':Nat}{d':Drawn}{ch:List Addr}(I:Inv X pins σ H s)(u:Un (frs X.stack) ch H H' s.heap h')(hok:HOk X.prog X.w H' h')(hg:AllBare g')
  (hch:∀ b∈ch,(b∈X.ex\/X.s₀.heap.get? b=none)/\b≠X.env.locals/\(∀ x c,X.env.cells.lookup x=some c->c≠b)/\∀ p∈X.pn++pins,p.1≠b) :
  Inv X pins σ H' { s with heap:=h',gens:=g',drawn:=d',toks:=t' }:=by
 obtain⟨m,⟨o,es,ep,ho,r⟩,_⟩:=id I.loc;obtain⟨sl,hL⟩:=u.any ho I.free fun z=>(hch _ z).2.1 rfl;exact I.stepN (ch:=ch) hch (fun b o hL hb hc e n=>u.keep b o e n (fun z=>(zp7.mp (I.stkSub b z)).elim hL hb) hc) (fun b o _ _ hc e n=>u.any e n hc) (fun b o hc e n=>u.free b o e n hc) (fun b o hc e=>u.there b o e hc) u.tups u.frzs u.tbls (fun m' hm=>by
  obtain⟨o',es',ep',ho',r'⟩:=hm;rw[ho] at ho';cases ho';exact⟨_,es',ep',hL,r'⟩) hok hg
theorem Inv.callN'(I:Inv X pins σ H s)(ho:s'.os=s.os)(u:Un (frs X.stack) ch H H' s.heap s'.heap)(hok:HOk X.prog X.w H' s'.heap)(hg:AllBare s'.gens)
  (hch:∀ b∈ch,(b∈X.ex\/X.s₀.heap.get? b=none)/\b≠X.env.locals/\(∀ x c,X.env.cells.lookup x=some c->c≠b)/\∀ p∈X.pn++pins,p.1≠b):Inv X pins σ H' s':=by
 obtain⟨h',g',d',t',o'⟩:=s';have e:o'=s.os:=ho;subst e;exact I.callN (g':=g') (t':=t') (d':=d') u hok hg hch
end
section
variable{P:Program}{w:World}{H H':Hp}{h h' g:Heap}{a:Addr}{o:HO}
theorem Yh.there(x:Yh P w H h a o):∃ ob,h.get? a=some ob:=by
 cases o with
 | lst xs=>obtain⟨_,_,_,_,e⟩:=x;exact⟨_,e⟩
 | tup xs=>obtain⟨_,_,_,ob,e,_⟩:=x;exact⟨_,e⟩
 | dK kvs=>obtain⟨_,_,_,_,o,_,_,e,_⟩:=x;exact⟨_,e⟩
 | dT kvs=>obtain⟨_,_,_,_,o,_,_,e,_⟩:=x;exact⟨_,e⟩
 | set S n=>obtain⟨o,_,_,_,e,_⟩:=x;exact⟨_,e⟩
 | ins C dx fs=>obtain⟨_,_,_,e,_⟩:=x;exact⟨_,e⟩
 | own y=>obtain⟨_,e⟩:=x;exact⟨_,e⟩
 | xd fs=>obtain⟨_,⟨_,_,_,e,_⟩,_⟩:=x;exact⟨_,e⟩
 | rng lo hi=>obtain⟨_,_,_,e⟩:=x;exact⟨_,e⟩
 | frz ob u=>obtain⟨e,_⟩:=x;exact⟨_,e⟩
 | tbl ps=>exact⟨_,(show h.get? a=some _ from x)⟩
 | met f y=>exact⟨_,(show h.get? a=some _ from x)⟩
 | ext φ=>obtain⟨_,⟨_,e⟩,_⟩:=x;exact⟨_,e⟩
theorem HOk.none_of(x:HOk P w H h)(e:h.get? a=none):H a=none:=by
 cases q:H a with
 | none=>rfl
 | some u =>
   obtain⟨_,z⟩:=(x a u q).there;rw[e] at z;cases z
theorem Gz(e:(PySem.W.hideAll h as).get? a=none):h.get? a=none\/a∈as:=by
 by_cases m:a∈as
 ·exact .inr m
 ·cases q:h.get? a with
  | none=>exact .inl rfl
  | some o=>rw[PySem.W.hideAll_get as q m] at e;cases e
end
structure Fly(g:Heap)(H:Hp)(h:Heap)(e T:Addr)(cls:Value):Prop where
 ex:∃ oe vs oT ts,h.get? e=some oe/\oe.cls=cls/\oe.data=.fields vs/\vs[1]?=some (.ref T)/\T≠e/\h.get? T=some oT/\oT.data=.fields ts/\ts[3]?=some .none
 newE:g.get? e=none
 newT:g.get? T=none
 freeE:H e=none
 freeT:H T=none
def CX1(P:Program)(w:World):CXT:=fun outer H s E e s'=>∃ a T cls H',e=.ref a/\s'.os=s.os/\AllBare s'.gens/\Un (frs outer) [] H H' s.heap s'.heap/\HOk P w H' s'.heap/\Fly s.heap H' s'.heap a T cls/\E cls none H'
section
variable{X:Cx}{pins:List (Addr×Obj)}{σ:St}{H H':Hp}{s s':Shared}{h':Heap}{e T:Addr}{cls:Value}
structure Uh(X:Cx)(ch:List Addr)(h h':Heap):Prop where
 keep:∀ b o,h.get? b=some o->b∉ch->b∉frs X.stack->h'.get? b=some o
 slot:∀ b o,h.get? b=some o->b∉ch->b∈frs X.stack->∃ sl,h'.get? b=some { o with slots:=sl }
theorem Uh.of(I:Inv X pins σ H s)(st:(PySem.W.hideAll s.heap (as++frs X.stack)).StaysIn h')(up:s.heap.UpToSlots h'):Uh X as s.heap h' where
 keep:=fun b o q n1 n2=>st b o (PySem.W.hideAll_get _ q (by simp[n1,n2]))
 slot:=fun b o q _ m=>by
  obtain⟨_,o',ho,nf⟩:=I.stack.mem m;rw[q] at ho;cases ho;exact up b o q nf
theorem Uh.un(I:Inv X pins σ H s)(t:Uh X ch s.heap h')(hch:∀ b∈ch,H b=none):Un (frs X.stack) ch H H s.heap h' where
 keep:=fun b o q n hf hc=>t.keep b o q hc hf
 slot:=fun b o q n hf hc=>t.slot b o q hc hf
 free:=fun _ _ _ n _=>n
 there:=fun b o q hc=>by
  by_cases m:b∈frs X.stack
  ·obtain⟨_,z⟩:=t.slot b o q hc m;exact⟨_,z⟩
  ·exact⟨o,t.keep b o q hc m⟩
 tups:=fun _ _ q=>q
 frzs:=fun _ _ _ q=>q
 tbls:=fun b ps q=>⟨#[],by rw[q];simp⟩
theorem Uh.hok(I:Inv X pins σ H s)(t:Uh X ch s.heap h')(hch:∀ b∈ch,H b=none):HOk X.prog X.w H h':=fun b u q=>by
 have tr:∀ c v,H c=some v->c∉ch/\c∉frs X.stack:=fun c v z=>⟨(fun m=>by rw[hch c m] at z;cases z),(fun m=>by rw[I.stkFree c m] at z;cases z)⟩
 refine(I.hok b u q).stay (fun c v hc r=>?_) (fun _ z=>z) fun _ _ z=>z;rcases hc with z|z
 ·subst z;exact t.keep c v r (tr c u q).1 (tr c u q).2
 ·exact t.keep c v r (tr c _ z).1 (tr c _ z).2
theorem Inv.newRec(I:Inv X pins σ H s)(hx:X.ex=[])(n:s.heap.get? b=none):(b∈X.ex\/X.s₀.heap.get? b=none)/\b≠X.env.locals/\(∀ x c,X.env.cells.lookup x=some c->c≠b)/\∀ p∈X.pn++pins,p.1≠b:=by
 refine⟨.inr ?_,?_,?_,?_⟩
 ·cases q:X.s₀.heap.get? b with
  | none=>rfl
  | some o =>
    obtain⟨_,z⟩:=I.base.there b o q (by rw[hx];simp);rw[n] at z;cases z
 ·rintro rfl;obtain⟨m,⟨o,_,_,ho,_⟩,_⟩:=I.loc;rw[n] at ho;cases ho
 ·rintro x c hc rfl;obtain⟨v,o,ho,_⟩:=I.cell x c hc;rw[n] at ho;cases ho
 ·rintro p hp rfl;obtain⟨z,_⟩:=I.pin p hp;rw[n] at z;cases z
theorem Inv.raised(I:Inv X pins σ H s)(ho:s'.os=s.os)(hg:AllBare s'.gens)(u:Un (frs X.stack) [] H H' s.heap s'.heap)(hok:HOk X.prog X.w H' s'.heap):Inv X pins σ H' s' :=
 I.call' ho u hok hg (fun _ z=>nomatch z)
theorem Fly.flying(J:Inv X pins σ H s)(hl:s.heap.FunFrames X.base l)(hsub:∀ b∈frs l,b∈frs X.stack)(F:Fly g H s.heap e T cls) :
  ∃ a0,Heap.FlyingW (PySem.W.hideAll s.heap ([e,T]++frs X.stack)) l e cls a0 s.heap:=by
 obtain⟨oe,vs,oT,ts,e1,e2,e3,e4,e5,e6,e7,e8⟩:=F.ex;have sz:0<vs.size:=zri (zqo _) (Array.getElem?_eq_some_iff.mp e4).1;refine⟨vs[0],fun b o q=>PySem.W.of_hideAll _ q,PySem.W.hideAll_none _ (by simp),PySem.W.funFrames_hide hl fun env he a ha=>?_,oe,vs,T,oT,ts,e1,⟨e2,?_⟩,e3,e4,PySem.W.hideAll_none _ (by simp),e5,e6,e7,e8⟩
 ·have:a∈frs l:=zrv.mpr ⟨env,he,ha⟩;simp[hsub a this]
 ·exact Array.getElem?_eq_getElem sz
theorem Fly.again(J:Inv X pins σ H s)(F:Fly g H s.heap e T cls)(hg:∀ b,s.heap.get? b=none->g.get? b=none)
  (up:s.heap.UpToSlots h') (st:(PySem.W.hideAll s.heap ([e,T]++frs X.stack)).StaysIn h') (tr:h'.TracedW (PySem.W.hideAll s.heap ([e,T]++frs X.stack)) e cls a0):∃ T',Fly g H h' e T' cls:=by
 obtain⟨oe,vs,T',oT,ts,f1,⟨f2,_⟩,f3,f4,f5,f6,f7,f8,f9⟩:=tr;refine⟨T',⟨oe,vs,oT,ts,f1,f2,f3,f4,f6,f7,f8,f9⟩,F.newE,?_,F.freeE,?_⟩
 all_goals
  rcases Gz f5 with z|z
  ·first
    | exact hg _ z
    | exact J.hok.none_of z
  ·simp only[zqi,zp7,zq2,or_false] at z;rcases z with (z|z)|z
   ·exact absurd z f6
   ·subst z
    first
     | exact F.newT
     | exact F.freeT
   ·obtain⟨_,o,ho,nf⟩:=J.stack.mem z;obtain⟨sl,q⟩:=up T' o ho nf;rw[f7] at q;cases q;exact absurd f8 (nf _)
end
section
variable{P:Program}{w:World}{K:Frag}{mg:Str->Option Value}{base:Heap}{N:List Str}{qual:Str}{scope:Scope}{f:Addr}{cd:Value}{A:Around}{outer:List Env}{s0:Shared}{H0:Hp}{E:XK}
 {pins:List (Addr×Obj)} {σ:St} {H H':Hp} {s s':Shared} {h':Heap} {e T:Addr} {cls:Value}
theorem G0(hx:X.ex=[])(J:Inv X pins σ H s)(hst:X.stack=X.env :: X.outer)(hf:X.env.frame=some X.env.locals)(t:Uh X ch s.heap h')(hch:∀ b∈ch,X.s₀.heap.get? b=none) :
  Un X.fs [] X.H₀ H X.s₀.heap h':=by
 have nb:∀ b o,X.s₀.heap.get? b=some o->b∉ch:=fun b o q m=>by rw[hch b m] at q;cases q
 have mem:∀ b,b∈frs X.stack↔b=X.env.locals\/b∈X.fs:=fun b=>by
  unfold Cx.fs frs;rw[hst,zrt,hf];exact zp7
 have neL:∀ b o,X.s₀.heap.get? b=some o->b≠X.env.locals:=fun b o q=>zqu (zqk (Heap.lt_size q) J.ok.above);have nx:∀ b:Addr,b∉X.ex:=fun b=>by rw[hx];simp
 refine⟨fun b o q n hb _=>?_,fun b o q n hb _=>?_,fun b o q n _=>J.base.free b o q n (nx b),fun b o q _=>?_,J.base.tups,J.base.frzs,J.base.tbls⟩
 ·refine t.keep b o (J.base.keep b o q n hb (nx b)) (nb b o q) fun m=>?_;exact((mem b).mp m).elim (neL b o q) hb
 ·obtain⟨sl,z⟩:=J.base.slot b o q n hb (nx b);obtain⟨sl',z'⟩:=t.slot b _ z (nb b o q) ((mem b).mpr (.inr hb));exact⟨sl',z'⟩
 ·obtain⟨o',z⟩:=J.base.there b o q (nx b);by_cases m:b∈frs X.stack
  ·obtain⟨_,z'⟩:=t.slot b o' z (nb b o q) m;exact⟨_,z'⟩
  ·exact⟨o',t.keep b o' z (nb b o q) m⟩
theorem Zk:X0 (CX1 P w) (cxOf (CX1 P w) P w K mg base N qual scope f cd A outer s0 H0 E) E:=by
 intro pins σ H s ev s' I h;obtain⟨a,T,cls,H',q0,ho,hg,u,hok,F,hE⟩:=h;subst q0;have J:=I.raised ho hg u hok;obtain⟨a0,hfl⟩:=F.flying J J.stack (fun _ z=>z);refine wpAny_leaves_onW (base:=PySem.W.hideAll s'.heap ([a,T]++frs _)) J.ok.frames rfl hfl fun h2 hfl2 up=>?_;have old:∀ b,s.heap.get? b=none->s0.heap.get? b=none:=fun b n=>by
  cases q:s0.heap.get? b with
  | none=>rfl
  | some o =>
    obtain⟨_,z⟩:=I.base.there b o q (by show b∉([]:List Addr);simp);rw[n] at z;cases z
 have old2:∀ b,s'.heap.get? b=none->s0.heap.get? b=none:=fun b n=>by
  cases q:s0.heap.get? b with
  | none=>rfl
  | some o =>
    obtain⟨_,z⟩:=J.base.there b o q (by show b∉([]:List Addr);simp);rw[n] at z;cases z
 have t:=Uh.of (as:=[a,T]) J hfl2.1 up;have F0:Fly s0.heap H' s'.heap a T cls:=⟨F.ex,old _ F.newE,old _ F.newT,F.freeE,F.freeT⟩;obtain⟨T',F'⟩:=F0.again J old2 up hfl2.1 hfl2.2.2.2;refine⟨a,T',cls,H',rfl,J.os,J.bare,G0 rfl J rfl rfl t ?_,t.hok J ?_,F',hE⟩
 ·intro b hb;rcases zp7.mp hb with rfl|hb
  ·exact F0.newE
  ·rcases zp7.mp hb with rfl|hb
   ·exact F0.newT
   ·cases hb
 ·intro b hb;rcases zp7.mp hb with rfl|hb
  ·exact F.freeE
  ·rcases zp7.mp hb with rfl|hb
   ·exact F.freeT
   ·cases hb
def zc7(X:Cx)(E:XK):Prop:=∀ (pins:List (Addr×Obj)) (σ:St) (H:Hp) (s:Shared) (h':Heap) (e C:Addr) (args:List Value),Inv X pins σ H s->Heap.MadeExcOf s.heap h' e (.ref C) args->E (.ref C) none H->X.xe (.ref e) { s with heap:=h' }
theorem Y0:zc7 (cxOf (CX1 P w) P w K mg base N qual scope f cd A outer s0 H0 E) E:=by
 intro pins σ H s h1 e C args I hm hE;refine wpAny_leaves_madeW (base:=PySem.W.hideAll s.heap ([]++frs _)) (h:=s.heap) I.ok.frames rfl (fun b o q=>PySem.W.of_hideAll _ q)
  (PySem.W.funFrames_hide I.stack fun env he a ha=>by
   have:a∈frs _:=zrv.mpr ⟨env,he,ha⟩
   simpa using this) hm fun h2 t hfl _ _ up=>?_
 have up2:s.heap.UpToSlots h2:=(Heap.UpToSlots.of_keeps hm.keeps).trans up;have tt:=Uh.of (as:=[]) I hfl.1 up2;have old2:∀ b,s.heap.get? b=none->s0.heap.get? b=none:=fun b n=>by
  cases q:s0.heap.get? b with
  | none=>rfl
  | some o =>
    obtain⟨_,z⟩:=I.base.there b o q (by show b∉([]:List Addr);simp);rw[n] at z;cases z
 obtain⟨oe,vs,T',oT,ts,f1,⟨f2,_⟩,f3,f4,f5,f6,f7,f8,f9⟩:=hfl.2.2.2;have nT:s.heap.get? T'=none:=by
  rcases Gz f5 with z|z
  ·exact z
  ·have z':T'∈frs (cxOf (CX1 P w) P w K mg base N qual scope f cd A outer s0 H0 E).stack:=(zqi.mp z).resolve_left (by simp);obtain⟨_,o,ho,nf⟩:=I.stack.mem z';obtain⟨sl,q⟩:=up2 T' o ho nf;rw[f7] at q;cases q;exact absurd f8 (nf _)
 refine⟨e,T',.ref C,H,rfl,I.os,I.bare,G0 rfl I rfl rfl tt (fun _ z=>nomatch z),tt.hok I (fun _ z=>nomatch z),⟨⟨oe,vs,oT,ts,f1,f2,f3,f4,f6,f7,f8,f9⟩,old2 _ hm.new,old2 _ nT,I.hok.none_of hm.new,I.hok.none_of nT⟩,hE⟩
end
structure Sx(K:Frag)(mg:Str->Option Value)(x:Str)(C:Addr):Prop where
 nm:mg x=some (.ref C)
 ex:PySem.W.excIn K C [.type "ValueError",.type "Exception",.type "BaseException",.type "object"] "ValueError.__new__"=true
theorem Sx.own{K:Frag}{mg:Str->Option Value}{x:Str}{C:Addr}{h:Heap}(c:Sx K mg x C)(X:K.In h):OwnCls x C [.type "ValueError",.type "Exception",.type "BaseException",.type "object"] "ValueError.__new__" mg h:=by
 refine⟨c.nm,?_⟩;have q:=c.ex;unfold PySem.W.excIn at q;split at q
 ·rename_i dd cd sl ho;split at q
  ·rename_i C' bm k0 k1 k2 k3 n k5 hm hs;simp only[zrm,beq_iff_eq,Bool.not_eq_true'] at q;obtain⟨⟨⟨⟨⟨rfl,rfl⟩,hdel⟩,ht⟩,hok⟩,hni⟩:=q;obtain⟨nm,bs,mro,ns,qn,hd,sn,sub,ab,col,del⟩:=cd;dsimp only at hm hdel hok hni;subst hm hdel;have hsl:sl=#[k0,k1,k2,k3,some (.builtin "ValueError.__new__"),k5]:=by
    obtain⟨l⟩:=sl;simp only at hs;rw[hs]
   subst hsl;exact⟨bm,ns,nm,qn,bs,hd,sn,sub,ab,col,dd,k0,k1,k2,k3,k5,_,X _ _ ho,.of_isNs (PySem.W.isNs_of_in X hok),PySem.W.nsMap_none_of_in X hok hni,PySem.W.tail_of_in X ht⟩
  ·cases q
 ·cases q
inductive zb9(C:Addr)(E:XK)(vs:List V)(H1:Hp):Prop where
 | mk(_:vs.length<=sizeLine)(_:E (.ref C) none H1)
def zee(C:Addr)(E:XK)(t:TA):TS:=fun _ σ H=>t σ H fun vs H1=>zb9 C E vs H1
theorem Y1{X:Cx}{x:Str}{C:Addr}{E:XK}{e₀:Expr}{rest:List Expr}{t:TA}{np cpos pos:Pos}(hl:zc7 X E)(hc:X.calm=true)(c:Sx X.K X.mg x C)(hg:Gl X x)(ha:PA X (e₀ :: rest) t)
  (he:starEach (e₀ :: rest) X.env=(false,eval e₀ X.env) :: starEach rest X.env:=by rfl) (hplain:(backTo cpos (starEach rest X.env)).any (·.1)=false:=by rfl) (hd:(x == ("__debug__":Str))=false:=by decide) :
  PS X (.Raise (some (.Call (.Name x np) (e₀ :: rest) [] cpos)) none pos) (zee C E t):=by
 intro pins s σ H D I h;have O:=c.own I.mod.kin;obtain⟨tl,N,nm,q,bs,hdct,sn,sub,ab,col,dd,k0,k1,k2,k3,k5,mN,hC,hN,hni,T⟩:=O.obj;refine wpAny_Raise_call_subT (C:=C) (nm:=nm) (q:=q) (N:=N) (bs:=bs) (bm:=tl) (hdct:=hdct) (sn:=sn) (sub:=sub) (ab:=ab) (col:=col) (dd:=dd) (k0:=k0) (k1:=k1) (k2:=k2) (k3:=k3) (k5:=k5)
  PySem.F.excBase_ValueError (mN:=mN) (T.hasType (by rfl)) (I.ok.hd hc) (by rw[he];show (false||(backTo cpos (starEach rest X.env)).any (·.1))=false;rw[hplain];rfl) hni (V0 I hg c.nm ⟨rfl,?_⟩ hd)
 have hp:=ha cpos pins s σ H _ I h;rw[he] at hp ⊢;refine Calls.evalArgs_plain (wpAny_mono hp (fun us s2 h2=>?_) fun _ _ y=>y);obtain⟨vs,H1,I1,r,hlen,hE⟩:=h2;exact⟨rfl,by rw[<- r.length];exact hlen,I1.bk _ _ hC,hN.keeps I1.bk,T.keeps I1.bk,fun h' e hm=>hl _ _ _ _ _ _ _ _ I1 hm hE⟩
structure Mu(K:Frag)(CB:Addr):Prop where
 ty:PySem.W.typeIn K (.ref CB)=some (.type "type")
 cl:(PySem.W.clsIn K CB).isSome=true
 bx:PySem.W.mroIn K CB (.type "BaseException")=some true
theorem U2{K:Frag}{M:Model}{A:Around}{E:Value->Shared->Prop}{s:Shared}{e C CB:Addr}{b:Bool}{oe:Obj}{Q:Bool->Shared->Prop}(X:K.In s.heap)(c:Mu K CB)
  (he:s.heap.get? e=some oe) (hcls:oe.cls=.ref C) (hm:PySem.W.mroIn K C (.ref CB)=some b) (h:Q b s):wpAny M A (excMatches (.ref e) (.ref CB)) Q E s:=by
 obtain⟨hp,g,d,tk,os⟩:=s;have L1:=PySem.W.looks_typeIn (M:=M) X c.ty;have L2:=PySem.W.looks_mroIn (M:=M) X c.bx;have L3:=PySem.W.looks_mroIn (M:=M) X hm;have L0:PySem.W.Looks M hp (typeOf (.ref e)) (.ref C):=hcls▸(PySem.W.Looks.ld he).andThen .now;have L4:PySem.W.Looks M hp (isType (.ref CB)) true:=by
  have z:=c.cl;unfold PySem.W.clsIn at z;split at z
  ·rename_i c' d' cd' sl' ho;intro A' Q' E' s' k q;unfold isType loadHead;exact wpAny_bind (wpAny_loadPart (k _ _ (X _ _ ho)) (wpAny_pure q))
  ·cases z
 unfold excMatches isInstance isExcClass;refine wpAny_bind (wpAny_bind (L1.at (wpAny_of_eq tc_notTuple ?_)));simp only[zra,if_false,List.forIn_cons,List.forIn_nil];refine wpAny_bind (wpAny_pure (wpAny_bind ?_));simp only[List.forIn_cons,List.forIn_nil];refine wpAny_bind (wpAny_bind (wpAny_bind (L4.at ?_)));simp only[if_true];refine L2.at ?_;simp only[Bool.not_true,zra,if_false];refine wpAny_pure (wpAny_pure (wpAny_bind (L0.at (wpAny_bind (wpAny_bind (wpAny_bind (L3.at ?_)))))));cases b with
 | true=>simp only[if_true];exact wpAny_pure (wpAny_pure (wpAny_pure h))
 | false=>simp only[zra,if_false];exact wpAny_pure (wpAny_pure (wpAny_pure h))
end L2
namespace L2
open PySem PySem.Spec PyProof.Rows PySem.W PySem.Calls PySem.Builtin PySem.Builtin.ObjectAttr PySem.Builtin.Getset_descriptor
def excO(a:Addr)(cls:Value):HO:=.ext fun h=>∃ o vs,h.get? a=some o/\o.cls=cls/\o.data=.fields vs
structure Im(K:Frag)(D:Addr):Prop where
 ga:findIn K (.ref D) "__getattribute__"=some (some (.builtin "BaseException.__getattribute__"))
 gk:findIn K (.ref D) "__getattr__"=some none
 cl:(clsIn K D).isSome=true
 at_:findIn K (.ref D) "__class__"=some (some (.builtin "object.__class__"))
 gt:specialIn K (.builtin "object.__class__") "__get__"=some (some (.builtin "getset_descriptor.__get__"))
 tk:takesIn K (.builtin "object.__class__")=some true
 mo:mroIn K D (.type "object")=some true
 mx:mroIn K D (.type "BaseException")=some true
section
variable{prog:Program}{w:World}{A:Around}{E:Value->Shared->Prop}{s:Shared}{K:Frag}{x D:Addr}
theorem A7(X:K.In h)(c:Im K D):Looks M h (find (.ref x) (.ref D) "__class__") (.bind (.builtin "getset_descriptor.__get__") (.builtin "object.__class__")):=by
 have L1:=looks_findIn (M:=M) X c.at_;have L2:Looks M h (getOf (some (.builtin "object.__class__"))) (some (.builtin "getset_descriptor.__get__")):=looks_specialIn X c.gt;have L3:=looks_takesIn (M:=M) X c.tk;exact L1.andThen (L2.andThen ((show Looks M h (dataDescriptor? (some (.builtin "object.__class__")) (some (.builtin "getset_descriptor.__get__"))) (some (.builtin "getset_descriptor.__get__",.builtin "object.__class__")) from L3.andThen .now).andThen (Looks.tag .now)))
theorem Ew(X:K.In s.heap)(hx:s.heap.get? x=some o)(hc:o.cls=.ref D)(c:Im K D)(q:R (.ok (.ret (.ref D))) s) :
  codeAny (model prog w) A (.call (.builtin "getset_descriptor.__get__") ⟨[.builtin "object.__class__",.ref x,.ref D],[]⟩) R s:=by
 obtain⟨hh,g,d,t,os⟩:=s;have L0:Looks (model prog w) hh (typeOf (.ref x)) (.ref D):=hc▸(Looks.ld hx).andThen .now;have Lm:=looks_mroIn (M:=model prog w) X c.mo;refine codeAny_call_builtin KF.slot_gs.plain KF.entry_gs (KF.slot_gs.check _ _ _ _ _ _ _ _ KF.type_class (KF.args_gs _ _ _) ?_);unfold Builtin.«getset_descriptor.__get__» descrGet;rw[dga_obj];refine wpAny_bind (wpAny_pure ?_);unfold descrGetter descrCheckInstance descrNameAndClass isInstance;simp only[KF.owner_class]
 repeat lk
 refine⟨Code.quiet_builtin _ ⋯,codeAny_builtin KF.entry_class ?_⟩;unfold Builtin.«object.__class__» shownTypeOf
 repeat lk
 exact q
theorem zef(X:K.In s.heap)(hx:s.heap.get? x=some o)(hc:o.cls=.ref D)(c:Im K D)(q:Q (.done (.ret (.ref D))) s) :
  wpAny (model prog w) A (Builtin.«object.__getattribute__» ⟨[.ref x,.str "__class__" tk],[]⟩) Q E s:=by
 have L0:Looks (model prog w) s.heap (typeOf (.ref x)) (.ref D):=hc▸(Looks.ld hx).andThen .now;have Lf:=A7 (x:=x) (M:=model prog w) X c;have e1:slotArgs "__getattribute__" 1 ⟨[.ref x,.str "__class__" tk],[]⟩=pure (.ref x,[.str "__class__" tk]):=rfl;unfold Builtin.«object.__getattribute__»;rw[e1];refine wpAny_bind (wpAny_pure ?_);refine wpAny_bind (show wpAny _ _ (attrName (.str "__class__" tk)) _ _ _ from wpAny_pure ?_);obtain⟨hh,g,d,t,os⟩:=s;refine wpAny_bind (L0.at (wpAny_bind (Lf.at ?_)));show wpAny _ _ (bindTo _ _ _ _) _ _ _;unfold bindTo;dsimp only;refine wpAny_bind (wpAny_holding (wpAny_call (Ew X hx hc c ?_)));exact wpAny_pure q
theorem Kl(X:K.In s.heap)(hx:s.heap.get? x=some o)(hc:o.cls=.ref D)(c:Im K D)(q:Q (some (.ref D)) { s with toks:=s.toks+1 }) :
  wpAny (model prog w) A (getAttr? (.ref x) "__class__") Q E s:=by
 obtain⟨hh,g,d,t,os⟩:=s;have L0:Looks (model prog w) hh (typeOf (.ref x)) (.ref D):=hc▸(Looks.ld hx).andThen .now;have La:=looks_findIn (M:=model prog w) X c.ga;have Lk:=looks_findIn (M:=model prog w) X c.gk;have Lx:=looks_mroIn (M:=model prog w) X c.mx;have hb:=PySem.F.attr_ValueError.ga.bind (.ref x);have hne0:(Value.builtin "BaseException.__getattribute__" == Value.builtin "object.__getattribute__")=false:=by decide +kernel
 have hne:(onTheHeap (Value.ref D)&&Value.builtin "BaseException.__getattribute__" == Value.builtin "object.__getattribute__")=false:=by rw[hne0];rfl
 unfold getAttr? getAttrBy? getAttrBy;refine wpAny_bind (wpAny_mkText (wpAny_bind (wpAny_attempt (wpAny_holding (wpAny_bind (L0.at (wpAny_bind (La.at ?_))))))));dsimp only;rw[if_neg (by rw[hne];decide)];unfold getAttrByItsOwn;refine wpAny_bind (show wpAny _ _ (typeLookup (.ref D) "__getattr__") _ _ _ from Lk.at ?_);refine wpAny_bind (wpAny_attempt (wpAny_holding ?_));show wpAny _ _ (boundAndCalled _ _ _) _ _ _;unfold boundAndCalled;rw[hb];refine wpAny_bind (wpAny_pure (wpAny_call ?_));refine codeAny_call_builtin PySem.F.attr_ValueError.ga.plain PySem.F.entry_bexc_ga ?_;have hk:builtinKind "BaseException.__getattribute__"=some .slot:=by decide +kernel
 have hsplit:splitId "BaseException.__getattribute__"=some ("BaseException","__getattribute__"):=by decide +kernel
 have ha:=PySem.F.args_bexc_ga (.ref x) (.str "__class__" t);simp only[checkBuiltinCall,hk,hsplit,List.cons_append,List.nil_append];unfold isInstance
 repeat (first|with_reducible refine zef X hx hc c ?_|lk)
 exact q
theorem A8(c:Im K D):KitX K (.ref x) (.ref D) (fun h=>∃ o,h.get? x=some o/\o.cls=.ref D) where
 ty:=fun M h _ p=>by obtain⟨o,hx,hc⟩:=p;exact hc▸(Looks.ld hx).andThen .now
 it:=fun _ _ X _=>by
  have z:=c.cl;unfold clsIn at z;split at z
  ·rename_i ho;intro A' Q' E' s' k q;unfold isType loadHead;exact wpAny_bind (wpAny_loadPart (k _ _ (X _ _ ho)) (wpAny_pure q))
  ·cases z
 ne:=fun h tp dd its n sl X htp=>by
  refine Bool.eq_false_iff.mpr fun q=>?_;have e:D=tp:=Value.ref.inj (beq_iff_eq.mp q);subst e;have z:=c.cl;unfold clsIn at z;split at z
  ·rename_i ho;have z:=(X _ _ ho).symm.trans htp;cases z
  ·cases z
 ca:=fun X p q=>by obtain⟨o,hx,hc⟩:=p;exact Kl X hx hc c q
end
inductive TyX(K:Frag)(H:Hp)(x:V)(t:Value):Prop where
 | of (h:P9 K H x t):TyX K H x t
 | exc {a D:Addr} (ex:x=.ref a) (et:t=.ref D) (h:H a=some (excO a (.ref D))) (c:Im K D):TyX K H x t
def zf0:V->Value
 | .ty n=>.type n
 | .ref a=>.ref a
 | _=>.none
inductive rIsI(K:Frag)(xs:List V)(H:Hp)(Q:VK):Prop where
 | mk(x)(c)(t)(b)(_:xs=[x,c])(_:TyX K H x t)(_:((∃ n,c=.ty n)\/∃ a,c=.ref a))(_:kitOne K t (zf0 c)=some b)(_:Q (.bl b) H)
theorem A9:Wv X (.builtin "isinstance") (rIsI X.K):=by
 intro pins s σ H xs us Q I r h;obtain⟨x,c,t,b,rfl,ty,hc,hk,q⟩:=h;obtain⟨u,w',rfl,r1,r2⟩:=Al r;have e:w'=zf0 c:=by
  rcases hc with ⟨n,rfl⟩|⟨a,rfl⟩
  ·exact r2
  ·exact r2
 subst e;cases ty with
 | of ty=>exact C3 I r1 ty hk fun tk=>⟨.bl b,H,I.tok tk,rfl,q⟩
 | @exc a D ex et ha cl =>
   subst ex et;cases (show u=Value.ref a from r1);obtain⟨⟨o,vs,ho,hcl,_⟩,_⟩:=(show Yh X.prog X.w H s.heap a (excO a (.ref D)) from I.hok a _ ha);exact kia_one (A8 cl) I.kIn ⟨o,ho,hcl⟩ hk (fun z=>nomatch z) fun tk=>⟨.bl b,H,I.tok tk,rfl,q⟩
section
variable{X:Cx}{pins:List (Addr×Obj)}{σ:St}{H:Hp}{s:Shared}
theorem Rq(I:Inv X pins σ H s)(hN:X.N.Nodup)(hi:X.N[i]?=some x)(hk:X.env.scope.names.lookup x=some .local)(hlk:∀ v,X.lk[i]?≠some (some v))
  (h:∀ s',Inv X pins (σ.set i none) H s'->Q () s'):wpAny M A (do bindName X.env x .none;unbindBehindTheSuite X.env x pos) Q E s:=by
 obtain⟨m,hn,hl⟩:=id I.loc;have hcls:(X.env.scope.kind == .class||(X.env.scope.kind == .module&&X.env.locals != X.env.globals))=false:=by rw[I.ok.kind];rfl
 have hiσ:i<σ.length:=by rw[I.len];exact(zp4.mp hi).1
 have cne:=I.cne;refine wpAny_nameGoes_keeps hk hn hcls fun h' v hn' hs=>?_;obtain⟨oL,_,_,hoL,_⟩:=id hn;have ne0:∀ b o,X.s₀.heap.get? b=some o->b≠X.env.locals:=fun b o q=>zqu (zqk (Heap.lt_size q) I.ok.above);refine h _ ⟨I.ok,I.os,I.bare,⟨fun b o q n hb hx=>(hs.2 b (ne0 b o q)).trans (I.base.keep b o q n hb hx),fun b o q n hb hx=>?_,I.base.free,fun b o q hx=>?_,I.base.tups,I.base.frzs,I.base.tbls⟩,
  ⟨_,hn',fun j y v' e1 e2 e3=>?_⟩,fun y c e=>?_,I.free,I.freeC,fun p hp=>?_,fun b ob e=>?_,by simpa using I.len⟩
 ·obtain⟨sl,e1⟩:=I.base.slot b o q n hb hx;exact⟨sl,(hs.2 b (ne0 b o q)).trans e1⟩
 ·obtain⟨o',e1⟩:=I.base.there b o q hx;exact⟨o',(hs.2 b (ne0 b o q)).trans e1⟩
 ·by_cases hj:j=i
  ·subst hj;rcases e2 with e2|e2
   ·rw[zq1 hiσ] at e2;cases e2
   ·exact absurd e2 (hlk _)
  ·have e2':σ[j]?=some (some v')\/X.lk[j]?=some (some v'):=e2.imp_left fun z=>by rw[zqx (Ne.symm hj)] at z;exact z
   obtain⟨u',r',q⟩:=hl j y v' e1 e2' e3;refine⟨u',r',?_⟩;rcases q with ⟨k,e⟩|⟨k,c,e,z⟩
   ·refine .inl ⟨k,?_⟩;have:y≠x:=fun e=>hj (Mh hN e1 (e▸hi));simp[this,e]
   ·exact .inr ⟨k,c,e,z.sameBut hs (cne y c e)⟩
 ·obtain⟨w',z⟩:=I.cell y c e;exact⟨w',z.sameBut hs (cne y c e)⟩
 ·obtain⟨e,n,ne,nf,d⟩:=I.pin p hp;exact⟨(hs.2 p.1 ne).trans e,n,ne,nf,d⟩
 ·refine(I.hok b ob e).stay (fun c w' hc q=>(hs.2 c ?_).trans q) (fun _ q=>q) fun _ _ q=>q;rintro rfl;rcases hc with rfl|hc
  ·rw[I.free] at e;cases e
  ·rw[I.free] at hc;cases hc
theorem Inv.track(I:Inv X pins σ H s)(n:H a=none)(hch:(a∈X.ex\/X.s₀.heap.get? a=none)/\a≠X.env.locals/\(∀ x c,X.env.cells.lookup x=some c->c≠a)/\∀ p∈X.pn++pins,p.1≠a)
  (hok:∀ H',Yh X.prog X.w H' s.heap a o):Inv X pins σ (upd H a o) s:=by
 have nt:∀ b u,H b=some u->b≠a:=fun b u q z=>by subst z;rw[n] at q;cases q
 have J:=I.stepN (h':=s.heap) (H':=upd H a o) (g':=s.gens) (d':=s.drawn) (t':=s.toks) (ch:=[a]) (fun b hb=>by rw[zp9.mp hb];exact hch) (fun _ _ _ _ _ q _=>q) (fun _ ob _ _ _ q _=>⟨ob.slots,q⟩)
  (fun b _ hb _ q=>by rw[Zh (fun z=>hb (by simp[z]))];exact q) (fun _ ob _ q=>⟨ob,q⟩) (fun b xs q=>by rw[Zh (nt b _ q)];exact q) (fun b u xs q=>by rw[Zh (nt b _ q)];exact q)
  (fun b ps q=>⟨#[],by rw[Zh (nt b _ q),q];simp⟩) (fun _ q=>q) (fun b u q=>?_) I.bare
 ·exact J
 ·by_cases hb:b=a
  ·subst hb;rw[Zb] at q;cases q;exact hok _
  ·rw[Zh hb] at q;exact(I.hok b u q).stay (fun c v _ z=>z) (fun c z=>by rw[Zh (nt c _ z)];exact z) fun c xs z=>by rw[Zh (nt c _ z)];exact z
end
def fgt:List Nat->St->St
 | [],σ=>σ
 | i :: r,σ=>fgt r (σ.set i none)
theorem Qm:∀ (as:List Nat) (σ:St),(fgt as σ).length=σ.length
 | [],_=>rfl
 | i :: r,σ=>by rw[fgt,Qm r,zrf]
theorem Ph:∀ (as:List Nat) {σ:St} {i:Nat} {v:V},(fgt as σ)[i]?=some (some v)->σ[i]?=some (some v)/\i∉as
 | [],_,_,_,h=>⟨h,by simp⟩
 | j :: r,σ,i,v,h=>by
   obtain⟨h1,h2⟩:=Ph r h;by_cases e:i=j
   ·subst e;rw[List.getElem?_set] at h1;simp at h1
   ·rw[zqx (Ne.symm e)] at h1;exact⟨h1,by simp[e,h2]⟩
abbrev Cx.tried(X:Cx)(E:Value->Shared->Prop)(lk:St)(pn:List (Addr×Obj)):Cx:={ X with xe:=E,lk:=lk,pn:=pn }
abbrev Cx.hand(X:Cx)(e:Addr):Cx:={ X with A:=X.A.mark (some (.ref e)),calm:=false,xe:=fun _ _=>False }
section
variable{X:Cx}{pins pins':List (Addr×Obj)}{σ σ' lk:St}{H:Hp}{s:Shared}{E:Value->Shared->Prop}{e:Addr}
theorem Cx.Ok.tried(ok:X.Ok)(E:Value->Shared->Prop)(lk:St)(pn:List (Addr×Obj)):(X.tried E lk pn).Ok :=
 ⟨ok.mod,ok.kind,ok.glob,ok.blt,ok.above,ok.inj,ok.has,ok.cab,ok.hd,ok.frames,ok.stk,ok.exf,ok.bs,ok.bsz,ok.noex,ok.exfs,ok.funs,ok.frf⟩
theorem Cx.Ok.untried{pn:List (Addr×Obj)}(ok:(X.tried E lk pn).Ok):X.Ok :=
 ⟨ok.mod,ok.kind,ok.glob,ok.blt,ok.above,ok.inj,ok.has,ok.cab,ok.hd,ok.frames,ok.stk,ok.exf,ok.bs,ok.bsz,ok.noex,ok.exfs,ok.funs,ok.frf⟩
theorem Cx.Ok.hand(ok:X.Ok)(e:Addr):(X.hand e).Ok :=
 ⟨ok.mod,ok.kind,ok.glob,ok.blt,ok.above,ok.inj,ok.has,ok.cab,fun z=>(nomatch z),ok.frames,ok.stk,ok.exf,ok.bs,ok.bsz,ok.noex,ok.exfs,ok.funs,ok.frf⟩
theorem Inv.tried(I:Inv X pins σ H s)(E:Value->Shared->Prop)(hlk:∀ (i:Nat) v,lk[i]?=some (some v)->σ[i]?=some (some v)):Inv (X.tried E lk (X.pn++pins)) [] σ H s:=by
 refine⟨I.ok.tried _ _ _,I.os,I.bare,I.base,?_,I.cell,I.free,I.freeC,fun p hp=>I.pin p (by simpa using hp),I.hok,I.len⟩;obtain⟨m,hn,hl⟩:=I.loc;exact⟨m,hn,fun i x v e1 e2 e3=>hl i x v e1 (.inl (e2.elim id (hlk i v))) e3⟩
theorem Inv.untried(I:Inv (X.tried E lk (X.pn++pins)) pins' σ' H s)(hX:X.lk=[])(hl:lk.length=X.N.length):Inv X pins lk H s:=by
 refine⟨I.ok.untried,I.os,I.bare,I.base,?_,I.cell,I.free,I.freeC,fun p hp=>I.pin p (zqv _ hp),I.hok,hl⟩;obtain⟨m,hn,hl⟩:=I.loc;exact⟨m,hn,fun i x v e1 e2 e3=>hl i x v e1 (.inr (e2.elim id fun z=>by rw[hX] at z;simp at z)) e3⟩
theorem Inv.untriedN(I:Inv (X.tried E lk (X.pn++pins)) [] σ' H s)(hX:X.lk=[]):Inv X pins σ' H s:=by
 refine⟨I.ok.untried,I.os,I.bare,I.base,?_,I.cell,I.free,I.freeC,fun p hp=>I.pin p (by simpa using hp),I.hok,I.len⟩;obtain⟨m,hn,hl⟩:=I.loc;exact⟨m,hn,fun i x v e1 e2 e3=>hl i x v e1 (e2.elim .inl fun z=>by rw[hX] at z;simp at z) e3⟩
theorem Inv.hand(I:Inv X pins σ H s)(e:Addr):Inv (X.hand e) pins σ H s:=⟨I.ok.hand e,I.os,I.bare,I.base,I.loc,I.cell,I.free,I.freeC,I.pin,I.hok,I.len⟩
theorem Inv.unhand(ok:X.Ok)(I:Inv (X.hand e) pins σ H s):Inv X pins σ H s:=⟨ok,I.os,I.bare,I.base,I.loc,I.cell,I.free,I.freeC,I.pin,I.hok,I.len⟩
theorem SP.unhand(ok:X.Ok)(h:SP (X.hand e) pins D f s'):SP X pins D f s':=by
 cases f with
 | next=>obtain⟨a,b,c,d⟩:=h;exact⟨a,b,c.unhand ok,d⟩
 | brk=>obtain⟨a,b,c,d⟩:=h;exact⟨a,b,c.unhand ok,d⟩
 | cont=>obtain⟨a,b,c,d⟩:=h;exact⟨a,b,c.unhand ok,d⟩
 | ret u=>obtain⟨v,a,b,c,r,d⟩:=h;exact⟨v,a,b,c.unhand ok,r,d⟩
theorem SP.untried(hX:X.lk=[])(h:SP (X.tried E lk (X.pn++pins)) [] D f s'):SP X pins D f s':=by
 cases f with
 | next=>obtain⟨a,b,c,d⟩:=h;exact⟨a,b,c.untriedN hX,d⟩
 | brk=>obtain⟨a,b,c,d⟩:=h;exact⟨a,b,c.untriedN hX,d⟩
 | cont=>obtain⟨a,b,c,d⟩:=h;exact⟨a,b,c.untriedN hX,d⟩
 | ret u=>obtain⟨v,a,b,c,r,d⟩:=h;exact⟨v,a,b,c.untriedN hX,r,d⟩
end
structure zca(X:Cx):Prop where
 ex:X.ex=[]
 lk:X.lk=[]
 st:X.stack=X.env :: X.outer
 fr:X.env.frame=some X.env.locals
theorem Jh{CX:CXT}{P:Program}{w:World}{K:Frag}{mg:Str->Option Value}{base:Heap}{N:List Str}{qual:Str}{scope:Scope}{f:Addr}{cd:Value}{A:Around}{outer:List Env}{s0:Shared}{H0:Hp}{E:XK} :
  zca (cxOf CX P w K mg base N qual scope f cd A outer s0 H0 E):=⟨rfl,rfl,rfl,rfl⟩
section
variable{X:Cx}{pins:List (Addr×Obj)}{σ:St}{H:Hp}{s:Shared}{E:Value->Shared->Prop}
theorem zf1(B:zca X)(hlk:lk.length=X.N.length)
  (I:Inv (X.tried E' lk (X.pn++pins)) pins' σ' H1 s1) (h:CX1 X.prog X.w X.stack H1 s1 EX ev s2)
  (k:∀ a T cls H2 s3,ev=.ref a->EX cls none H2->Inv X pins lk H2 s3->Fly s1.heap H2 s3.heap a T cls->((a∈X.ex\/X.s₀.heap.get? a=none)/\a≠X.env.locals/\(∀ x c,X.env.cells.lookup x=some c->c≠a)/\∀ p∈X.pn++pins,p.1≠a) ->
   ((T∈X.ex\/X.s₀.heap.get? T=none)/\T≠X.env.locals/\(∀ x c,X.env.cells.lookup x=some c->c≠T)/\∀ p∈X.pn++pins,p.1≠T) ->
   wpAny (model X.prog X.w) X.A (handleBy (.ref a) X.env hs) Q E s3) :
  wpAny (model X.prog X.w) X.A (noteFrame ev X.env) (fun _ s₂=>wpAny (model X.prog X.w) X.A (setFlight ev none) (fun _ s₃=>wpAny (model X.prog X.w) X.A (handleBy ev X.env hs) Q E s₃) E s₂) E s2:=by
 obtain⟨a,T,cls,H2,q0,ho,hg,u,hok,F,hE⟩:=h;subst q0;have J:=I.raised ho hg u hok;obtain⟨a0,hfl⟩:=F.flying J J.stack (fun _ z=>z);have hfl':Heap.FlyingW (PySem.W.hideAll s2.heap ([a,T]++frs X.stack)) (X.env :: X.outer) a cls a0 s2.heap:=by rw[<- B.st];exact hfl
 refine wpAny_looks_onW (base:=PySem.W.hideAll s2.heap ([a,T]++frs X.stack)) (by rw[J.ok.frames];exact congrArg some B.st) B.fr hfl' fun h3 held up1=>?_;refine wpAny_landsW held fun h4 hfl4 up2=>?_;have up:s2.heap.UpToSlots h4:=up1.trans up2;have t:=Uh.of (as:=[a,T]) J hfl4.1 up;have frE:∀ b∈[a,T],H2 b=none:=by
  intro b hb;rcases zp7.mp hb with rfl|hb
  ·exact F.freeE
  ·rcases zp7.mp hb with rfl|hb
   ·exact F.freeT
   ·cases hb
 have rcs:∀ b∈[a,T],(b∈X.ex\/X.s₀.heap.get? b=none)/\b≠X.env.locals/\(∀ x c,X.env.cells.lookup x=some c->c≠b)/\∀ p∈(X.pn++pins)++pins',p.1≠b:=by
  intro b hb;rcases zp7.mp hb with rfl|hb
  ·exact I.newRec B.ex F.newE
  ·rcases zp7.mp hb with rfl|hb
   ·exact I.newRec B.ex F.newT
   ·cases hb
 have J4:Inv (X.tried E' lk (X.pn++pins)) pins' σ' H2 { s2 with heap:=h4 }:=J.callN' (s':={ s2 with heap:=h4 }) (ch:=[a,T]) rfl (t.un J frE) (t.hok J frE) J.bare rcs;have old:∀ b,s2.heap.get? b=none->s1.heap.get? b=none:=fun b n=>by
  cases q:s1.heap.get? b with
  | none=>rfl
  | some o =>
    obtain⟨_,z⟩:=u.there b o q (by simp);rw[n] at z;cases z
 obtain⟨T',F'⟩:=F.again J old up hfl4.1 hfl4.2.2.2;have sub:∀ {b:Addr},((b∈X.ex\/X.s₀.heap.get? b=none)/\b≠X.env.locals/\(∀ x c,X.env.cells.lookup x=some c->c≠b)/\∀ p∈(X.pn++pins)++pins',p.1≠b) ->
   (b∈X.ex\/X.s₀.heap.get? b=none)/\b≠X.env.locals/\(∀ x c,X.env.cells.lookup x=some c->c≠b)/\∀ p∈X.pn++pins,p.1≠b:=fun z=>⟨z.1,z.2.1,z.2.2.1,fun p hp=>z.2.2.2 p (zqv _ hp)⟩
 exact k a T' cls H2 _ rfl hE (J4.untried B.lk hlk) F' (sub (rcs a (by simp))) (sub (I.newRec B.ex F'.newT))
theorem Mv(I:Inv X pins σ H s)(F:Fly g H s.heap a T cls)(hg:∀ b,s.heap.get? b=none->g.get? b=none)
  (ha:(a∈X.ex\/X.s₀.heap.get? a=none)/\a≠X.env.locals/\(∀ x c,X.env.cells.lookup x=some c->c≠a)/\∀ p∈X.pn++pins,p.1≠a)
  (hT:(T∈X.ex\/X.s₀.heap.get? T=none)/\T≠X.env.locals/\(∀ x c,X.env.cells.lookup x=some c->c≠T)/\∀ p∈X.pn++pins,p.1≠T)
  (k:∀ s',Inv X pins σ H s'->(∃ T',Fly g H s'.heap a T' cls)->Q () s'):wpAny (model X.prog X.w) A (setFlight (.ref a) none) Q E s:=by
 obtain⟨a0,hfl⟩:=F.flying I I.stack (fun _ z=>z);refine lands_againW hfl fun h4 hfl4 up=>?_;have t:=Uh.of (as:=[a,T]) I hfl4.1 up;have frE:∀ b∈[a,T],H b=none:=by
  intro b hb;rcases zp7.mp hb with rfl|hb
  ·exact F.freeE
  ·rcases zp7.mp hb with rfl|hb
   ·exact F.freeT
   ·cases hb
 have J4:Inv X pins σ H { s with heap:=h4 }:=I.callN' (s':={ s with heap:=h4 }) (ch:=[a,T]) rfl (t.un I frE) (t.hok I frE) I.bare fun b hb=>by
  rcases zp7.mp hb with rfl|hb
  ·exact ha
  ·rcases zp7.mp hb with rfl|hb
   ·exact hT
   ·cases hb
 exact k _ J4 (F.again I hg up hfl4.1 hfl4.2.2.2)
end
def xAs(K:Frag)(as:List Nat)(i:Nat)(CB:Addr)(th:TS)(D:Qf)(σ:St):XK:=fun cls _ H'=>∃ C,cls=.ref C/\PySem.W.mroIn K C (.ref CB)=some true /\
 ∀ a,H' a=none->th { nx:=fun σ' H''=>D.nx (σ'.set i none) H'',rt:=D.rt,bk:=fun σ' H''=>D.bk (σ'.set i none) H'',ct:=fun σ' H''=>D.ct (σ'.set i none) H'' } ((fgt as σ).set i (some (.ref a))) (upd H' a (excO a cls))
def zeg(K:Frag)(as:List Nat)(i:Nat)(CB:Addr)(tb:XK->TS)(th:TS):TS:=fun D σ H=>tb (xAs K as i CB th D σ) D σ H
section
variable{X:Cx}{as:List Nat}{i:Nat}{CB:Addr}{tb:XK->TS}{th:TS}{body suite:List Stmt}{b₀:Stmt}{n cx:Str}{p hpos pos:Pos}
theorem zaa(B:zca X)(hN:X.N.Nodup)(hi:X.N[i]?=some n)(hk:X.env.scope.names.lookup n=some .local)(c:Mu X.K CB)(hg:Gl X cx)(hm:X.mg cx=some (.ref CB))
  (hb:∀ (E':Value->Shared->Prop) (lk:St) (pn:List (Addr×Obj)) (EX:XK),(∀ j∈as,∀ v,lk[j]?≠some (some v))->PassesOwn (model X.prog X.w) X.A X.env E'->X0 (CX1 X.prog X.w) (X.tried E' lk pn) EX->PSs (X.tried E' lk pn) body (tb EX))
  (hh:∀ a,PSs (X.hand a) (b₀ :: suite) th) (hd:(cx == ("__debug__":Str))=false:=by decide) :
  PS X (.Try body [.ExceptHandler (some (.Name cx p)) (some n) (b₀ :: suite) hpos] [] [] pos) (zeg X.K as i CB tb th):=by
 intro pins s σ H D I h;refine wpAny_Try_except ?_;have lkl:(fgt as σ).length=X.N.length:=by rw[Qm];exact I.len
 have I':=I.tried (lk:=fgt as σ) (fun ev s₁=>wpAny (model X.prog X.w) X.A (noteFrame ev X.env) (fun _ s₂=>wpAny (model X.prog X.w) X.A (setFlight ev none)
  (fun _ s₃=>wpAny (model X.prog X.w) X.A (handleBy ev X.env [.ExceptHandler (some (.Name cx p)) (some n) (b₀ :: suite) hpos]) (SP X pins D) X.xe s₃) X.xe s₂) X.xe s₁) fun i v z=>(Ph as z).1
 refine wpAny_mono (hb _ _ _ (xAs X.K as i CB th D σ) (fun j hj v z=>(Ph as z).2 hj) PassesOwn.looking (fun pins' σ' H1 s1 ev s2 J hcx=>?_) [] s σ H D I' h) (fun f s1 h1=>?_) fun _ _ z=>z
 ·refine zf1 B lkl J hcx fun a T cls H2 s3 _ hE J3 F ha hT=>?_;obtain⟨C,rfl,hmro,hth⟩:=hE;obtain⟨oe,vs,oT,ts,e1,e2,e3,_⟩:=F.ex;refine wpAny_handleBy_cons (codeAny_handlers_test (V0 (X:=X.hand a) (J3.hand a) hg hm (U2 J3.kIn c e1 e2 hmro ?_) hd)) (by intro q;cases q);refine codeAny_handlers_suite_as ?_;have F0:Fly (Att.noObjs s3.heap) H2 s3.heap a T (.ref C):=⟨F.ex,Att.noObjs_get _ _,Att.noObjs_get _ _,F.freeE,F.freeT⟩;refine Mv J3 F0 (fun b _=>Att.noObjs_get _ _) ha hT fun s4 J4 ⟨T',F4⟩=>?_;obtain⟨oe,vs,oT,ts,e1,e2,e3,_⟩:=F4.ex;have J5:Inv X pins (fgt as σ) (upd H2 a (excO a (.ref C))) s4:=J4.track F4.freeE ha fun H'=>⟨⟨oe,vs,e1,e2,e3⟩,⟨oe,e1⟩,fun h1 h2 ⟨o,vs,z1,z2,z3⟩ k=>⟨o,vs,k o z1,z2,z3⟩⟩
  refine Mi (X:=X.hand a) (J5.hand a) hN hi (.inl hk) (v:=.ref a) (show RelV (.ref a) (.ref a) from rfl) (fun s5 J6=>?_) ⟨.inr hk,fun v z=>by rw[show (X.hand a).lk=[] from B.lk] at z;exact Xn v z⟩;refine wpAny_mono (hh a pins s5 _ _ _ J6 (hth a F.freeE)) (fun f s6 h6=>?_) fun _ _ z=>z.elim;have lk0:∀ v,X.lk[i]?≠some (some v):=fun v z=>by rw[B.lk] at z;exact Xn v z
  cases f with
  | next=>obtain⟨σ6,H6,J7,d⟩:=h6;exact Rq (J7.unhand I.ok) hN hi hk lk0 fun s7 J8=>⟨_,H6,J8,d⟩
  | brk=>obtain⟨σ6,H6,J7,d⟩:=h6;exact Rq (J7.unhand I.ok) hN hi hk lk0 fun s7 J8=>⟨_,H6,J8,d⟩
  | cont=>obtain⟨σ6,H6,J7,d⟩:=h6;exact Rq (J7.unhand I.ok) hN hi hk lk0 fun s7 J8=>⟨_,H6,J8,d⟩
  | ret u=>obtain⟨v,σ6,H6,J7,r,d⟩:=h6;exact Rq (J7.unhand I.ok) hN hi hk lk0 fun s7 J8=>⟨v,_,H6,J8,r,d⟩
 ·have h2:=SP.untried B.lk h1;cases f with
  | next=>exact wpAny_execs_nil h2
  | brk=>exact h2
  | cont=>exact h2
  | ret u=>exact h2
end
section
variable{P:Program}{w:World}{K:Frag}{mg:Str->Option Value}{base:Heap}
theorem Fun.okX{x qual:Str}{st:Stmt}{f:Addr}{fd:FuncData}{N ps:List Str}{k:Nat}{sp:Sp}(F:Fun K x qual st f fd)(S:Zm N ps (Zj st))(len:∀ vs H Q E,sp vs H Q E->vs.length=ps.length)
  (hbody:∀ (cdv:Value) (A:Around) (outer:List Env) (s:Shared) (H:Hp) (vs:List V) (Q:VK) (E:XK),Wd k (A.deeper (envOfC qual (Zj st) s.heap.objs.size f cdv))->sp vs H Q E ->
   ∃ t,PSs (cxOf (CX1 P w) P w K mg base N qual (Zj st) f cdv A outer s H E) (Y7 st) t/\t { nx:=fun _ H'=>Q .non H',rt:=Q } (O8 N vs) H):FnOk P w K mg base (CX1 P w) (k+1) f fd ps sp:=by
 obtain⟨oc,od,kV,doc,pm,an,cdv,ct,osl,rfl,lk,hcd⟩:=F.ex;exact zfq lk hcd S len fun A outer s H vs Q E hr hsp=>hbody cdv A outer s H vs Q E hr hsp
end
def Km{α:Type}(p:α->Prop):List α->Prop
 | []=>True
 | a :: r=>p a/\Km p r
theorem Km.get:∀ {l:List α} {a:α},Km p l->a∈l->p a
 | _ :: _,_,h,.head _=>h.1
 | _ :: _,_,h,.tail _ m=>Km.get h.2 m
def Yn(X:Cx)(pn:List (Addr×Obj))(Nc:List Str)(scope:Scope)(cl:List (Str×Addr))(s₀:Shared)(H₀:Hp)(fp:List Addr)(C:Addr):Cx :=
 { X with N:=Nc,s₀:=s₀,H₀:=H₀,env:=compEnvC scope cl C X.env,outer:=X.stack,stack:=X.stack,ex:=fp,fn:=fun _=>false,pn:=pn,xe:=fun _ _=>False,lk:=[] }
def cs(js:List Nat)(σ:St)(x:V):St:=some x :: js.map fun j=>(σ[j]?).getD none
def PTs(X:Cx)(ifs:List Expr)(t:TT):Prop :=
 ∀ (pins:List (Addr×Obj)) (s:Shared) (σ:St) (H:Hp) (Q:Bool->Hp->Prop),Inv X pins σ H s->t σ H Q ->
   wpAny (model X.prog X.w) X.A (forIn ifs true fun c r=>if r=true then do let ok <- isTrue c X.env (eval c X.env);pure (ForInStep.yield ok) else pure (ForInStep.yield r)) (TP X pins σ Q) X.xe s
def tYes:TT:=fun _ H Q=>Q true H
theorem U3:PTs X [] tYes:=fun _ _ _ H _ I h=>wpAny_tests_nil ⟨H,I,h⟩
theorem Io(h:PT X c t):PTs X [c] t:=fun pins s σ H Q I q=>wpAny_tests_one (h pins s σ H Q I q)
def G1(J:It)(js:List Nat)(tt:TT)(te:TE)(σ:St)(H:Hp)(Q:VK):Prop:=∃ W:Nat->Nat->List V->Hp->Prop,(∃ m,W 0 m [] H)/\∀ i m ys H,W i m ys H ->
 (J.stop i H/\ys.length<=sizeLine/\∀ p,H p=none->Q (.ref p) (upd H p (.lst ys))) \/
 (J.go i H/\ys.length<sizeLine/\∃ N:List V->Hp->Prop,(∀ ys' H',N ys' H'->∃ m',m' < m/\W (i+1) m' ys' H')/\∀ x H',J.yld i H x H'->tt (cs js σ x) H' fun b H2=>if b=true then te (cs js σ x) H2 fun y H3=>N (ys++[y]) H3 else N ys H2)
def zc8(wi:TI)(js:List Nat)(tt:TT)(te:TE):TE:=fun σ H Q=>wi σ H fun J H1=>G1 J js tt te σ H1 Q
section
variable{X:Cx}{elt iter:Expr}{x:Str}{px pos:Pos}{ifs:List Expr}{scope:Scope}{cl:List (Str×Addr)}{ys:List Str}{js:List Nat}
structure D1(X:Cx)(x:Str)(scope:Scope)(cl:List (Str×Addr))(ys:List Str)(js:List Nat):Prop where
 clos:closureFor scope X.env=pure cl
 kind:scope.kind=.function
 names:∀ y∈scope.names,y.2=.local->scope.names.lookup y.1=some .local
 nocell:∀ y∈scope.names,y.2≠.cell
 own:scope.names.lookup x=some .local
 nd:(x :: ys).Nodup
 at_:js.map (X.N[·]?)=ys.map some
 free:Km (fun y=>X.env.kindOf y=some .cell/\(relabel scope X.env).names.lookup y=some .cell/\cl.lookup y=X.env.cells.lookup y) ys
 only:Km (fun p=>X.env.cells.lookup p.1=some p.2) cl
 vis:∀ y∈scope.names,y.2=.free->y.1∈ys
theorem Pj{env:Env}:∀ {names:List (Str×NameKind)} {y:Str},(names.map fun (n,k)=>if (k == NameKind.free&&env.scope.kind == .function&&env.kindOf n == some .cell) then (n,NameKind.cell) else (n,k)).lookup y=some .cell \/
  (names.map fun (n,k)=>if (k == NameKind.free&&env.scope.kind == .function&&env.kindOf n == some .cell) then (n,NameKind.cell) else (n,k)).lookup y=some .free->∃ k,(y,k)∈names/\(k=.cell\/k=.free)
 | [],_,h=>by rcases h with h|h<;>simp at h
 | (n,k) :: r,y,h=>by
   by_cases hx:y=n
   ·subst hx;refine⟨k,zqp,?_⟩;rw[zqc] at h;dsimp only at h;by_cases hc:(k == NameKind.free&&env.scope.kind == .function&&env.kindOf y == some .cell)=true
    ·simp only[zrm,beq_iff_eq] at hc;exact .inr hc.1.1
    ·rw[if_neg hc] at h;simp only[zq3,beq_self_eq_true] at h;rcases h with h|h
     ·exact .inl (Option.some.inj h)
     ·exact .inr (Option.some.inj h)
   ·have hb:(y == n)=false:=zqn.mpr hx;have ih:=@Pj env r y;rw[zqc] at h;have key:∀ z:Str×NameKind,z.1=n->List.lookup y (z :: (r.map fun (n,k)=>if (k == NameKind.free&&env.scope.kind == .function&&env.kindOf n == some .cell) then (n,NameKind.cell) else (n,k))) =
      List.lookup y (r.map fun (n,k)=>if (k == NameKind.free&&env.scope.kind == .function&&env.kindOf n == some .cell) then (n,NameKind.cell) else (n,k)):=fun z hz=>by
     obtain⟨z1,z2⟩:=z;cases hz;simp only[zq3,hb]
    rw[key _ (by dsimp only;split<;>rfl)] at h;obtain⟨k',m,q⟩:=ih h;exact⟨k',zql _ m,q⟩
variable{wi:TI}{tt:TT}{te:TE}
end
theorem Tu{K:Frag}{js:List Nat}{tt:TT}{te:TE}{a:Addr}{xs:List V}{σ:St}{H:Hp}{Q:VK}(Pv:Nat->List V->Hp->Prop)(h0:Pv 0 [] H)(hl:∀ i ys H,i<=xs.length->Pv i ys H->SqL K H a xs)(hz:xs.length<=sizeLine)
  (hy:∀ i ys H,Pv i ys H->ys.length<=i)
  (hs:∀ i x ys H,xs[i]?=some x->Pv i ys H->tt (cs js σ x) H fun b H2=>if b=true then te (cs js σ x) H2 fun y H3=>Pv (i+1) (ys++[y]) H3 else Pv (i+1) ys H2)
  (hd:∀ ys H,Pv xs.length ys H->∀ p,H p=none->Q (.ref p) (upd H p (.lst ys))):G1 (Itl K a) js tt te σ H Q:=by
 refine⟨fun i m ys H=>m=xs.length-i/\i<=xs.length/\Pv i ys H,⟨xs.length,by simp,zqo _,h0⟩,?_⟩;rintro i m ys H ⟨rfl,hi,p⟩;have q:=hl i ys H hi p;have ly:=hy i ys H p;by_cases hlt:i<xs.length
 ·refine .inr ⟨⟨xs,xs[i],q,by simp[hlt]⟩,by omega,Pv (i+1),fun ys' H' p'=>⟨xs.length-(i+1),by omega,rfl,hlt,p'⟩,fun x H' y=>?_⟩;obtain⟨e,y⟩:=y;subst e;exact hs i x ys _ (y xs q) p
 ·have e:i=xs.length:=by omega
  subst e;exact .inl ⟨⟨xs,q,zqa _⟩,by omega,hd ys H p⟩
theorem Qn{js:List Nat}{tt:TT}{te:TE}{lo:Int}{n:Nat}{σ:St}{H:Hp}{Q:VK}(Pv:Nat->List V->Hp->Prop)(h0:Pv 0 [] H)(hz:n<=sizeLine)(hy:∀ i ys H,Pv i ys H->ys.length<=i)
  (hs:∀ i ys H,i<n->Pv i ys H->tt (cs js σ (.int (lo+i))) H fun b H2=>if b=true then te (cs js σ (.int (lo+i))) H2 fun y H3=>Pv (i+1) (ys++[y]) H3 else Pv (i+1) ys H2)
  (hd:∀ ys H,Pv n ys H->∀ p,H p=none->Q (.ref p) (upd H p (.lst ys))):G1 (Itr lo n) js tt te σ H Q:=by
 refine⟨fun i m ys H=>m=n-i/\i<=n/\Pv i ys H,⟨n,by simp,zqo _,h0⟩,?_⟩;rintro i m ys H ⟨rfl,hi,p⟩;have ly:=hy i ys H p;by_cases hlt:i<n
 ·refine .inr ⟨hlt,by omega,Pv (i+1),fun ys' H' p'=>⟨n-(i+1),by omega,rfl,hlt,p'⟩,fun x H' y=>?_⟩;obtain⟨e,y⟩:=y;subst e y;exact hs i ys _ hlt p
 ·have e:i=n:=by omega
  subst e;exact .inl ⟨zqa _,by omega,hd ys H p⟩
theorem Be{js:List Nat}{te:TE}{lo:Int}{n:Nat}{σ:St}{H:Hp}{Q:VK}(f:Nat->V)(hz:n<=sizeLine)
  (hs:∀ i (R:VK),i<n->R (f i) H->te (cs js σ (.int (lo+i))) H R) (hd:∀ p,H p=none->Q (.ref p) (upd H p (.lst ((List.range n).map f)))):G1 (Itr lo n) js tYes te σ H Q:=by
 refine Qn (fun i ys H'=>H'=H/\ys=(List.range i).map f) ⟨rfl,rfl⟩ hz (fun i ys H' ⟨_,e⟩=>by rw[e,zp3,zq4];exact zqa _) (fun i ys H' hi ⟨e1,e2⟩=>?_) fun ys H' ⟨e1,e2⟩ p hp=>?_
 ·subst e1;unfold tYes;dsimp only;rw[if_pos rfl];refine hs i _ hi ⟨rfl,?_⟩;rw[e2,List.range_succ,zqg];rfl
 ·subst e1;rw[e2];exact hd p hp
theorem Na:∀ {xs:List V} {us:List Value},xs.length=us.length->(∀ (j:Nat) x u,xs[j]?=some x->us[j]?=some u->RelV x u)->Vals xs us
 | [],[],_,_=>.nil
 | x :: xs,u :: us,hl,h=>.cons (h 0 x u rfl rfl) (Na (by simpa using hl) fun j x' u' h1 h2=>h (j+1) x' u' (by simpa using h1) (by simpa using h2))
abbrev TF:=St->Hp->(Hp->Prop)->Prop
def PF(X:Cx)(e:Expr)(t:TF):Prop :=
 ∀ (pins:List (Addr×Obj)) (s:Shared) (σ:St) (H:Hp) (k:Hp->Prop),Inv X pins σ H s->t σ H k ->
   wpAny (model X.prog X.w) X.A (eval e X.env) (fun u s'=>∃ y tk H',u=.str y tk/\y.length<=10000/\Inv X pins σ H' s'/\k H') X.xe s
def PFs(X:Cx)(es:List Expr)(t:TF):Prop :=
 ∀ (pins:List (Addr×Obj)) (s:Shared) (σ:St) (H:Hp) (k:Hp->Prop) (acc:Str),Inv X pins σ H s->acc.length+10000*es.length<=sizeLine->t σ H k ->
   Joins (model X.prog X.w) X.A X.xe (evalEach es X.env) acc (fun out s'=>out.length<=sizeLine/\∃ H',Inv X pins σ H' s'/\k H') s
def zf2:TF:=fun _ H k=>k H
def zf3(t u:TF):TF:=fun σ H k=>t σ H fun H1=>u σ H1 k
def okF(v:V):Prop:=(∃ i,v=.int i/\i.natAbs.log2<1920)\/∃ y,v=.str y/\y.length<=10000
def zg5(te:TE):TF:=fun σ H k=>te σ H fun v H1=>okF v/\k H1
def zf4(t:TF):TE:=fun σ H Q=>t σ H fun H1=>∀ z,Q (.str z) H1
section
variable{X:Cx}{e:Expr}{es:List Expr}{te:TE}{t u:TF}{pos:Pos}
theorem Xi{j}(h:x.length<=10000):PF X (.Constant (.str x) j pos) zf2:=fun _ _ _ H _ I hk=>Calls.Constant_str ⟨x,_,H,rfl,h,I.tok _,hk⟩
theorem Wj(he:PE X e te):PF X (.FormattedValue e (-1) none pos) (zg5 te):=by
 intro pins s σ H k I h;refine FormattedValue_plain (thn (he pins s σ H _ I h) fun v s1 ⟨x,H1,I1,r1,ok,hk⟩=>?_);rcases ok with ⟨i,rfl,hi⟩|⟨y,rfl,hy⟩
 ·obtain⟨t,rfl⟩:=r1;refine formatField_int_small hi ⟨_,_,H1,rfl,?_,I1.tok _,hk⟩;have:=int_text_length_le (k:=1920) ⋯ hi;show (Str.ofString (toString i)).length<=10000;rw[PySem.ofString_length];omega
 ·obtain⟨t,rfl⟩:=r1;exact formatField_str (fun t' tk=>⟨y,t',H1,rfl,hy,I1.tok tk,hk⟩) (by rw[sizeLine_eq];omega)
theorem Wx:PFs X [] zf2:=fun _ _ _ H _ _ I hz hk=>⟨by simpa using hz,H,I,hk⟩
theorem Zw(h1:PF X e t)(h2:PFs X es u)(hs:evalEach (e :: es) X.env=eval e X.env :: evalEach es X.env:=by rfl):PFs X (e :: es) (zf3 t u):=by
 intro pins s σ H k acc I hz h;rw[hs];refine thn (h1 pins s σ H _ I h) fun v s1 ⟨y,tk,H1,e1,hy,I1,hk⟩=>⟨y,tk,e1,?_,?_⟩
 ·rw[strLen_append];rw[zqs] at hz;omega
 ·exact h2 pins s1 σ H1 k _ I1 (by rw[strLen_append];rw[zqs] at hz;omega) hk
theorem Wy(h:PFs X (e :: e' :: es) t)(hl:es.length<=100):PE X (.JoinedStr (e :: e' :: es) pos) (zf4 t):=by
 intro pins s σ H Q I h';refine wpAny_JoinedStr ?_;have q:=h pins s σ H _ Str.empty I (by rw[sizeLine_eq];simp only[zqs];have:Str.empty.length=0:=rfl;omega) h';have mono:∀ (ps:List (Sem Value)) (acc:Str) (Q1 Q2:Str->Shared->Prop) (s:Shared),(∀ o s,Q1 o s->Q2 o s)->Joins (model X.prog X.w) X.A X.xe ps acc Q1 s->Joins (model X.prog X.w) X.A X.xe ps acc Q2 s:=by
  intro ps
  induction ps with
  | nil=>intro acc Q1 Q2 s m z;exact m _ _ z
  | cons p r ih=>intro acc Q1 Q2 s m z;exact thn z fun v s1 ⟨y,tk,e1,hz,z1⟩=>⟨y,tk,e1,hz,ih _ _ _ _ m z1⟩
 refine mono _ _ _ _ _ (fun out s1 ⟨hz,H1,I1,hk⟩=>⟨hz,.str out,H1,I1.tok _,⟨_,rfl⟩,hk out⟩) q
end
section
variable{X:Cx}
theorem Ex(hc:X.calm=true):Wv X (.type "list") (fun xs H Q=>∃ a kvs,xs=[.ref a]/\Rd H a (.dK kvs)/\∀ l,H l=none->Q (.ref l) (upd H l (.lst (kvs.map fun kv=>kV kv.1)))):=by
 intro pins s σ H xs us Q I r h;obtain⟨a,kvs,rfl,ha,q⟩:=h;obtain⟨u,rfl,ru⟩:=Sm r;cases (show u=Value.ref a from ru);obtain⟨hz,lo,vs,kv,o,es,ep,e1,e2⟩:=R9 I.hok ha;have hl:kvs.length=vs.length:=KV.length kv;refine PySem.W.kdl_call (PySem.W.kdl_dict (knd:=Yg X.prog X.w) (kvs:=vs) (ep:=ep) lo) (I.ok.hd hc) ⟨o,es,e1,e2⟩ (by rw[<- hl];exact hz) fun h' tk acc c hk hS hacc=>?_;have hf:H s.heap.objs.size=none:=I.hok.fresh (zqa _);refine⟨.ref s.heap.objs.size,upd H s.heap.objs.size (.lst (kvs.map fun kv=>kV kv.1)),I.laid (t':=tk) hk (zqa _) ?_,rfl,q _ hf⟩;obtain⟨accl⟩:=acc;refine⟨by rw[zp3];exact hz,accl,c,?_,hS⟩;have hlen:accl.length=vs.length:=by have:=hacc.1;simpa using this
 refine Na (by rw[zp3,hl,hlen]) fun j x u hx hu=>?_;obtain⟨k,y,hk1,hk2⟩:=hacc.2 j u (by simpa using hu);have ek:=congrArg (·[j]?) (KV.keys kv);simp only[zqb,hk1,zq6] at ek;rw[zqb] at hx;cases hkv:kvs[j]? with
 | none=>rw[hkv] at hx;cases hx
 | some p =>
   rw[hkv] at hx ek;have e1:kV p.1=x:=Option.some.inj hx;have e2:p.1=k:=Option.some.inj ek;rw[<- e1,e2];rcases Yo hk2 with ⟨i,t,rfl,rfl⟩|⟨z,t,rfl,rfl⟩
   ·exact⟨t,rfl⟩
   ·exact⟨t,rfl⟩
end
inductive Dt where
 | non|bl (b:Bool)|int (i:Int)|str (x:Str)|lst (xs:List Dt)|tup (xs:List Dt)
mutual
inductive Is(K:Frag)(H:Hp):V->Dt->Prop where
 | non:Is K H .non .non
 | bl (b:Bool):Is K H (.bl b) (.bl b)
 | int (i:Int):Is K H (.int i) (.int i)
 | str (x:Str):Is K H (.str x) (.str x)
 | lst {a:Addr} {xs:List V} {ds:List Dt} (h:SqL K H a xs) (hs:Xs K H xs ds):Is K H (.ref a) (.lst ds)
 | tup {a:Addr} {xs:List V} {ds:List Dt} (h:SqT K H a xs) (hs:Xs K H xs ds):Is K H (.ref a) (.tup ds)
inductive Xs(K:Frag)(H:Hp):List V->List Dt->Prop where
 | nil:Xs K H [] []
 | cons {x:V} {xs:List V} {d:Dt} {ds:List Dt} (h:Is K H x d) (t:Xs K H xs ds):Xs K H (x :: xs) (d :: ds)
end
mutual
def eqD:Dt->Dt->Bool
 | .non,.non=>true
 | .bl a,.bl b=>a == b
 | .bl a,.int b=>(if a then 1 else 0) == b
 | .int a,.bl b=>a == (if b then 1 else 0)
 | .int a,.int b=>a == b
 | .str a,.str b=>a == b
 | .lst xs,.lst ys=>Ry xs ys
 | .tup xs,.tup ys=>Ry xs ys
 | _,_=>false
def Ry:List Dt->List Dt->Bool
 | [],[]=>true
 | x :: xs,y :: ys=>eqD x y&&Ry xs ys
 | _,_=>false
end
mutual
theorem G2:∀ d:Dt,eqD d d=true
 | .non=>by simp[eqD]
 | .bl _=>by simp[eqD]
 | .int _=>by simp[eqD]
 | .str _=>by simp[eqD]
 | .lst xs=>by rw[eqD];exact Ob xs
 | .tup xs=>by rw[eqD];exact Ob xs
theorem Ob:∀ ds:List Dt,Ry ds ds=true
 | []=>by simp[Ry]
 | d :: ds=>by rw[Ry,G2 d,Ob ds];rfl
end
mutual
def zg6:Dt->Nat
 | .lst xs=>zab xs+1
 | .tup xs=>zab xs+1
 | _=>0
def zab:List Dt->Nat
 | []=>0
 | d :: ds=>max (zg6 d) (zab ds)
end
section
variable{X:Cx}{pins:List (Addr×Obj)}{σ:St}{H:Hp}{s:Shared}
theorem Sy(I:Inv X pins σ H s)(h1:SqL X.K H a xs)(h2:SqT X.K H a ys):False:=by
 obtain⟨_,_,⟨o,n,e1,e2,_⟩,_⟩:=I.list h1;obtain⟨_,_,⟨o',e1',e2',_⟩,_⟩:=I.tuple h2;rw[e1] at e1';cases e1';exact absurd (Value.type.inj (e2.symm.trans e2')) ⋯
mutual
theorem Is.inj(I:Inv X pins σ H s):∀ {x:V} {d d':Dt},Is X.K H x d->Is X.K H x d'->d=d'
 | _,_,_,.non,.non=>rfl
 | _,_,_,.bl _,.bl _=>rfl
 | _,_,_,.int _,.int _=>rfl
 | _,_,_,.str _,.str _=>rfl
 | _,_,_,.lst h hs,.lst h' hs'=>by
   have e:=I.list_inj h h';subst e;rw[Xs.inj I hs hs']
 | _,_,_,.tup h hs,.tup h' hs'=>by
   have e:=I.tuple_inj h h';subst e;rw[Xs.inj I hs hs']
 | _,_,_,.lst h _,.tup h' _=>(Sy I h h').elim
 | _,_,_,.tup h _,.lst h' _=>(Sy I h' h).elim
theorem Xs.inj(I:Inv X pins σ H s):∀ {xs:List V} {ds ds':List Dt},Xs X.K H xs ds->Xs X.K H xs ds'->ds=ds'
 | _,_,_,.nil,.nil=>rfl
 | _,_,_,.cons h t,.cons h' t'=>by rw[Is.inj I h h',Xs.inj I t t']
end
mutual
def toPy:Dt->PyData
 | .non=>.none
 | .bl b=>.bool b
 | .int i=>.int i
 | .str x=>.str x
 | .lst xs=>.list (Yl xs)
 | .tup xs=>.tuple (Yl xs)
def Yl:List Dt->List PyData
 | []=>[]
 | d :: ds=>toPy d :: Yl ds
end
mutual
theorem Pk:∀ d e:Dt,PyData.eqv (toPy d) (toPy e)=eqD d e
 | .non,e=>by cases e<;>simp[toPy,eqD,PyData.eqv]
 | .bl _,e=>by cases e<;>simp[toPy,eqD,PyData.eqv]
 | .int _,e=>by cases e<;>simp[toPy,eqD,PyData.eqv]
 | .str _,e=>by cases e<;>simp[toPy,eqD,PyData.eqv]
 | .lst xs,.lst ys=>by rw[toPy,toPy,PyData.eqv,eqD];exact Oc xs ys
 | .tup xs,.tup ys=>by rw[toPy,toPy,PyData.eqv,eqD];exact Oc xs ys
 | .lst _,.non=>by simp[toPy,eqD,PyData.eqv]
 | .lst _,.bl _=>by simp[toPy,eqD,PyData.eqv]
 | .lst _,.int _=>by simp[toPy,eqD,PyData.eqv]
 | .lst _,.str _=>by simp[toPy,eqD,PyData.eqv]
 | .lst _,.tup _=>by simp[toPy,eqD,PyData.eqv]
 | .tup _,.non=>by simp[toPy,eqD,PyData.eqv]
 | .tup _,.bl _=>by simp[toPy,eqD,PyData.eqv]
 | .tup _,.int _=>by simp[toPy,eqD,PyData.eqv]
 | .tup _,.str _=>by simp[toPy,eqD,PyData.eqv]
 | .tup _,.lst _=>by simp[toPy,eqD,PyData.eqv]
theorem Oc:∀ ds es:List Dt,PyData.eqvAll (Yl ds) (Yl es)=Ry ds es
 | [],[]=>by simp[Yl,Ry,PyData.eqvAll]
 | [],_ :: _=>by simp[Yl,Ry,PyData.eqvAll]
 | _ :: _,[]=>by simp[Yl,Ry,PyData.eqvAll]
 | d :: ds,e :: es=>by rw[Yl,Yl,PyData.eqvAll,Ry,Pk d e,Oc ds es]
end
mutual
theorem Is.reads(I:Inv X pins σ H s):∀ {d:Dt} {x:V} {u:Value},Is X.K H x d->RelV x u->∃ as,Reads s.heap u (toPy d) as
 | _,_,_,.non,r=>by cases r;exact⟨_,.none⟩
 | _,_,_,.bl b,r=>by cases r;exact⟨_,.bool b⟩
 | _,_,_,.int i,r=>by obtain⟨t,rfl⟩:=r;exact⟨_,.int i t⟩
 | _,_,_,.str i,r=>by obtain⟨t,rfl⟩:=r;exact⟨_,.str i t⟩
 | _,_,_,.lst h hs,r=>by
   cases r;obtain⟨its,r1,⟨o,n',e1,e2,e3,e4⟩,_⟩:=I.list h;obtain⟨as,q⟩:=Xs.reads I hs r1;rw[toPy];exact⟨_,.list e1 e2 e4 (by simpa using q)⟩
 | _,_,_,.tup h hs,r=>by
   cases r;obtain⟨its,r1,⟨o,e1,e2,n',e4⟩,_⟩:=I.tuple h;obtain⟨as,q⟩:=Xs.reads I hs r1;rw[toPy];exact⟨_,.tuple e1 e2 e4 (by simpa using q)⟩
theorem Xs.reads(I:Inv X pins σ H s):∀ {ds:List Dt} {xs:List V} {us:List Value},Xs X.K H xs ds->Vals xs us->∃ as,ReadsAll s.heap us (Yl ds) as
 | _,_,_,.nil,r=>by cases r;exact⟨_,.nil⟩
 | _,_,_,.cons h t,r=>by
   cases r with
   | cons r1 r2 =>
     obtain⟨as,q1⟩:=Is.reads I h r1;obtain⟨bs,q2⟩:=Xs.reads I t r2;exact⟨_,.cons q1 q2⟩
end
def shD(d:Dt):Prop:=SeqAt.shaped (toPy d)=true
inductive zcb(K:Frag)(neg:Bool)(x:V)(y:V)(H:Hp)(Q:VK):Prop where
 | mk(d)(e)(_:Is K H x d)(_:Is K H y e)(_:shD d)(_:shD e)(_:Q (.bl (if neg then !eqD d e else eqD d e)) H)
theorem zeh(hu:X.A.units+64<cLine):OpR X (compareOp .Eq) (zcb X.K false):=by
 intro pins s σ H x y v u Q I rx ry h;obtain⟨d,e,h1,h2,s1,s2,q⟩:=h;obtain⟨as,r1⟩:=h1.reads I rx;obtain⟨bs,r2⟩:=h2.reads I ry;exact eq_dataH r1 r2 s1 s2 hu (by rw[Pk];exact⟨.bl _,H,I,rfl,q⟩)
theorem zei(hu:X.A.units+64<cLine):OpR X (compareOp .NotEq) (zcb X.K true):=by
 intro pins s σ H x y v u Q I rx ry h;obtain⟨d,e,h1,h2,s1,s2,q⟩:=h;obtain⟨as,r1⟩:=h1.reads I rx;obtain⟨bs,r2⟩:=h2.reads I ry;exact ne_dataH r1 r2 s1 s2 hu (by rw[Pk];exact⟨.bl _,H,I,rfl,q⟩)
end
mutual
theorem Is.same{K:Frag}{H H':Hp}(e:Same H H'):∀ {d:Dt} {x:V},Is K H x d->Is K H' x d
 | _,_,.non=>.non
 | _,_,.bl b=>.bl b
 | _,_,.int i=>.int i
 | _,_,.str i=>.str i
 | _,_,.lst h hs=>.lst (e.seq h) (Xs.same e hs)
 | _,_,.tup h hs=>.tup (by
   rcases h with (h|⟨o,h⟩)|h
   ·exact .inl (.inl (e _ _ h))
   ·exact .inl (.inr ⟨o,e _ _ h⟩)
   ·exact .inr h) (Xs.same e hs)
theorem Xs.same{K:Frag}{H H':Hp}(e:Same H H'):∀ {ds:List Dt} {xs:List V},Xs K H xs ds->Xs K H' xs ds
 | _,_,.nil=>.nil
 | _,_,.cons h t=>.cons (Is.same e h) (Xs.same e t)
end
section
variable{P:Program}{w:World}{K:Frag}{mg:Str->Option Value}{base:Heap}{x m:Str}{k j:Nat}{ps:List Str}{sp:Sp}{C:Addr}
def Yi(P:Program)(w:World)(K:Frag)(mg:Str->Option Value)(base:Heap)(x:Str)(k:Nat)(ps:List Str)(sp:Sp):Prop :=
 ∃ (f:Addr) (fd:FuncData),FnOk P w K mg base (CX1 P w) k f fd ps sp/\mg x=some (.ref f)/\PySem.W.keepIn K (.ref f)=true/\To K fd ps []
def Zt(P:Program)(w:World)(K:Frag)(mg:Str->Option Value)(base:Heap)(C:Addr)(m:Str)(k:Nat)(ps:List Str)(sp:Sp):Prop :=
 ∃ (f:Addr) (fd:FuncData),FnOk P w K mg base (CX1 P w) k f fd ps sp/\Ao K C m f/\To K fd ps []
def U6(P:Program)(w:World)(K:Frag)(mg:Str->Option Value)(base:Heap)(x:Str)(C:Addr)(k:Nat)(ps:List Str)(sp:Sp):Prop :=
 ∃ (f:Addr) (fd:FuncData),FnOk P w K mg base (CX1 P w) k f fd ps sp/\Mk K C f/\mg x=some (.ref C)/\To K fd ps []
theorem zac:X0 (CX1 P w) X E0:=fun _ _ _ _ _ _ _ h=>by obtain⟨_,_,_,_,_,_,_,_,_,_,z⟩:=h;exact z.elim
structure zhk(K:Frag)(mg:Str->Option Value)(x:Str)(st:Stmt)(f:Addr)(fd:FuncData):Prop where
 fn:Fun K x x st f fd
 nm:mg x=some (.ref f)
end
section
variable{X:Cx}{k:Nat}{C:Addr}{ps:List Str}{sp:Sp}{E:XK}{x m:Str}{p pos apos:Pos}{e o:Expr}{es:List Expr}{ta:TE}{t:TA}
theorem D2(D:Yi X.prog X.w X.K X.mg X.base x k ps sp)(hr:Wd k X.A)(hx:X0 (CX1 X.prog X.w) X E)(hg:Gl X x)(ha:PA X (e :: es) t)(hdb:(x == ("__debug__":Str))=false:=by decide)
  (he:starEach (e :: es) X.env=(false,eval e X.env) :: starEach es X.env:=by rfl) (hpl:(backTo pos (starEach es X.env)).any (·.1)=false:=by rfl):PE X (.Call (.Name x p) (e :: es) [] pos) (Ap sp [] E t):=by
 obtain⟨f,fd,F,hm,kp,b⟩:=D;exact zbv F hr hg hm kp b .nil hx ha hdb he hpl
theorem Y8(he:PE X o ta)(c:Cls X.K C)(M:Zt X.prog X.w X.K X.mg X.base C m k ps sp)(hr:Wd k X.A)(hx:X0 (CX1 X.prog X.w) X E)(ha:PA X (e :: es) t)
  (hst:starEach (e :: es) X.env=(false,eval e X.env) :: starEach es X.env:=by rfl) (hpl:(backTo pos (starEach es X.env)).any (·.1)=false:=by rfl)
  (ht:eval (.Call (.Attribute o m apos) (e :: es) [] pos) X.env=(do
   let ov <- eval o X.env
   standAt apos.atName
   let (f,first) <- holding [ov] (getMethod ov m pl)
   callWith pos f first (backTo pos (starEach (e :: es) X.env)) (backToKw pos (keywordEach [] X.env))):=by rfl):PE X (.Call (.Attribute o m apos) (e :: es) [] pos) (Dr C m sp [] E ta t):=by
 obtain⟨f,fd,F,hm,b⟩:=M;exact zbw he c hm F hr b .nil hx ha hst hpl ht
theorem Yk(he:PE X o ta)(c:Cls X.K C)(M:Zt X.prog X.w X.K X.mg X.base C m k ps sp)(hr:Wd k X.A)(hx:X0 (CX1 X.prog X.w) X E)
  (ht:eval (.Call (.Attribute o m apos) [] [] pos) X.env=(do
   let ov <- eval o X.env
   standAt apos.atName
   let (f,first) <- holding [ov] (getMethod ov m pl)
   callWith pos f first (backTo pos (starEach [] X.env)) (backToKw pos (keywordEach [] X.env))):=by rfl):PE X (.Call (.Attribute o m apos) [] [] pos) (Dr C m sp [] E ta tNil):=by
 obtain⟨f,fd,F,hm,b⟩:=M;exact Aq he c hm F hr b .nil hx ht
theorem Ip(M:U6 X.prog X.w X.K X.mg X.base x C k ps sp)(hr:Wd (k+1) X.A)(hx:X0 (CX1 X.prog X.w) X E)(hg:Gl X x)(ha:PA X (e :: es) t)(hdb:(x == ("__debug__":Str))=false:=by decide)
  (he:starEach (e :: es) X.env=(false,eval e X.env) :: starEach es X.env:=by rfl) (hpl:(backTo pos (starEach es X.env)).any (·.1)=false:=by rfl):PE X (.Call (.Name x p) (e :: es) [] pos) (Du C sp [] E t):=by
 obtain⟨f,fd,F,mk,hm,b⟩:=M;exact zbx mk F hr hg hm b .nil hx ha hdb he hpl
theorem D3(M:U6 X.prog X.w X.K X.mg X.base x C k ps sp)(hr:Wd (k+1) X.A)(hx:X0 (CX1 X.prog X.w) X E)(hg:Gl X x)(hdb:(x == ("__debug__":Str))=false:=by decide):PE X (.Call (.Name x p) [] [] pos) (Du C sp [] E tNil):=by
 obtain⟨f,fd,F,mk,hm,b⟩:=M;exact Ar mk F hr hg hm b .nil hx hdb
theorem Xx(hg:Gl X x)(hm:∃ t,X.mg x=some (.int i t))(hd:(x == ("__debug__":Str))=false:=by decide):PE X (.Name x pos) (tC (.int i)):=by
 obtain⟨t,hm⟩:=hm;exact Dl hg hm ⟨t,rfl⟩ hd
theorem Xo(hg:Gl X x)(hm:X.mg x=some (.ref C))(hd:(x == ("__debug__":Str))=false:=by decide):PE X (.Name x pos) (tC (.ref C)):=Dl hg hm (show RelV (.ref C) (.ref C) from rfl) hd
end
inductive zf5(te:TE)(D:Qf)(σ:L2.St)(x:V)(H1:Hp):Prop where
 | mk(l)(xs)(_:x=.ref l)(_:H1 l=some (.lst xs))(_:te σ H1 fun y H2=>∃ ys,H2 l=some (.lst ys)/\ys.length<sizeLine/\D.nx σ (upd H2 l (.lst (ys++[y]))))
def tApp(to te:TE):TS:=fun D σ H=>to σ H fun x H1=>zf5 te D σ x H1
theorem Yq(ho:PE X o to)(he:PE X e te)(hbase:attributeBase o "append" X.env (eval o X.env)=eval o X.env:=by rfl)
  (hst:starEach [e] X.env=[(false,eval e X.env)]:=by rfl)
  (hline:(apos.endLine == cpos.line)=true:=by rfl) (hs:swapsWith (.Call (.Attribute o "append" apos) [e] [] cpos) none pos.line X.env=pure false:=by rfl):PS X (.Expr (.Call (.Attribute o "append" apos) [e] [] cpos) pos) (tApp to te):=by
 intro pins s σ H D I h;refine wpAny_Expr ?_ I.quiet;refine wpAny_Call_method_late hbase (by rw[hst];rfl) hline rfl (thn (ho pins s σ H _ I h) fun v s1 ⟨x,H1,I1,r1,l,xs,e1,hl,q1⟩=>?_);subst e1;obtain⟨h1,h2⟩:=Er (T:="list") I1 r1 (.inl ⟨rfl,_,SqL.of hl⟩);refine⟨"list","list.append",PySem.F.plainAttrs_list,PySem.F.slot_list_append,PySem.F.type_list_append,h1,h2,?_⟩;rw[hst];refine Calls.callWith_builtin rfl (Calls.evalArgs_plain ?_);refine Calls.spliced_cons (thn (he pins s1 σ H1 _ I1 q1) fun u s2 ⟨y,H2,I2,r2,ys,hl2,hz,q2⟩=>Calls.spliced_nil ?_);refine thn (C8 pins s2 σ H2 (.ref l) [y] v [u] (fun v H3=>v=.non/\D.nx σ H3) I2 r1 (.cons r2 .nil) ⟨l,ys,y,rfl,rfl,hl2,hz,rfl,q2⟩) fun z s3 ⟨zv,H3,I3,rz,ez,q3⟩=>?_;subst ez;cases rz;exact⟨σ,H3,I3,q3⟩
section
variable{X:Cx}{K:Frag}
theorem zad(hK:X.K=K):IxR X (zd7 K):=hK▸zb5
theorem zcc(hK:X.K=K):IxR X (zd8 K):=hK▸zd9
theorem Kn(hK:X.K=K):Wv X (.builtin "len") (fun xs H Q=>∃ p ys,xs=[.ref p]/\(SqL K H p ys\/SqT K H p ys)/\Q (.int ys.length) H):=hK▸Ii
theorem Xt(hK:X.K=K):Wv X (.type "list") (fun xs H Q=>∃ p ys,xs=[.ref p]/\(SqL K H p ys\/SqT K H p ys)/\∀ l,H l=none->Q (.ref l) (upd H l (.lst ys))):=hK▸Ij
theorem Z2(hK:X.K=K):Wv X (.builtin "isinstance") (rIsI K):=hK▸A9
theorem Mw(hK:X.K=K):OpR X (compareOp .In) (rIn K false):=hK▸C7
theorem Qb(hK:X.K=K):OpR X (compareOp .NotIn) (rIn K true):=hK▸Ih
theorem zcd(hK:X.K=K)(hu:X.A.units+64<cLine):OpR X (compareOp .Eq) (zcb K false):=hK▸zeh hu
theorem zce(hK:X.K=K)(hu:X.A.units+64<cLine):OpR X (compareOp .NotEq) (zcb K true):=hK▸zei hu
variable{o e l tg value a:Expr}{f:Str}{pos pos':Pos}{ta tv tl:TE}{es:List Expr}{k n:Nat}{t:TGs}
theorem Zn(hK:X.K=K)(he:PE X e ta)(hb:attributeBase e f X.env (eval e X.env)=eval e X.env):PE X (.Attribute e f pos) (zfl K ta f):=hK▸zdw he hb
theorem Yr(hK:X.K=K)(ha:PE X o ta)(hv:PE X value tv)(hs:swapsWith value (some (.Attribute o f pos')) pos.line X.env=pure false):PS X (.Assign [.Attribute o f pos'] value pos) (zfn K ta tv f):=hK▸zdx ha hv hs
theorem Yv(hK:X.K=K)(hl:PE X l tl):PI X tg l (zc1 K tl):=hK▸zbq hl
theorem V3(hK:X.K=K)(hc:X.calm=true)(h:PGs X es t)(hn:(assignEach es X.env).length=n:=by rfl)(hst:(assignEach es X.env).findIdx? (·.1)=none:=by rfl):PG X (.Tuple es k pos) (zfe K n t):=hK▸zdq hc h hn hst
theorem Ji(hK:X.K=K)(ha:PE X a ta)(he:∀ whole,isTrue a X.env whole=(do let v <- whole;standAt a.pos;holding [v] (truthy v))):PT X a (fun σ H Q=>ta σ H fun x H'=>∃ k,TruV K x H' k/\Q k H'):=hK▸Ak ha he
end
section
variable{X:Cx}{K:Frag}
theorem Mx(hK:X.K=K):Wv X (.type "tuple") (fun xs H Q=>∃ p ys,xs=[.ref p]/\((SqL K H p ys/\∀ l,H l=none->Q (.ref l) (upd H l (.tup ys)))\/(SqT K H p ys/\Q (.ref p) H))):=hK▸Kk
end
end L2
namespace G
open PySem PySem.Spec PyProof.Rows L2
theorem sz1:1<=sizeLine:=by decide
theorem sz2:2<=sizeLine:=by decide
theorem sz3:3<=sizeLine:=by decide
theorem sz4:4<=sizeLine:=by decide
theorem szN(h:n<=1000):n<=sizeLine:=Nat.le_of_lt (Rp h)
theorem itD{p:Prop}[Decidable p]{A B:Prop}(h1:p->A)(h2:¬ p->B):if decide p=true then A else B:=by
 by_cases h:p
 ·rw[zp8 h,if_pos rfl];exact h1 h
 ·rw[zqd h,if_neg ⋯];exact h2 h
theorem itB{b:Bool}{A B:Prop}(h1:b=true->A)(h2:b=false->B):if b=true then A else B:=by
 cases b
 ·exact iteF (h2 rfl)
 ·exact iteT (h1 rfl)
theorem My:decide (V.int i=V.int j)=decide (i=j):=by
 by_cases h:i=j
 ·subst h;simp
 ·rw[zqd h,zqd (fun z=>h (V.int.inj z))]
theorem itV{i j:Int}{A B:Prop}(h1:i=j->A)(h2:¬ i=j->B):if decide (V.int i=V.int j)=true then A else B:=by
 rw[My];exact itD h1 h2
theorem Zf(h:H p=none):Same H (upd H p o):=fun b u e=>by rw[Zh (Zg e h)];exact e
def Z6(i:Int):Prop:=i.natAbs.log2<1920
theorem Z7(h:i.natAbs<=10 ^ 60):Z6 i:=by
 unfold Z6;by_cases h0:i.natAbs=0
 ·rw[h0];decide
 ·exact(Nat.log2_lt h0).mpr (zri h ⋯)
theorem Yj(h:-1000<=i)(h':i<=1000):Z6 i:=Z7 (zqr (show i.natAbs<=1000 by omega) ⋯)
theorem Mz{xs:List Int}{i:Int}(h0:0<=i)(h1:i<xs.length):atI (xs.map V.int) i=some (.int (xs.getD i.toNat 0)):=by
 obtain⟨k,rfl⟩:∃ k:Nat,i=k:=⟨i.toNat,by omega⟩;refine Yw ?_;have hk:k<xs.length:=by omega
 rw[zqb,zp5 hk,zq6,zq5,zqm,zp5 hk];rfl
theorem M0(h1:∀ Q:Bool->Hp->Prop,Q b H->t σ H Q)(h2:∀ Q:Bool->Hp->Prop,Q c H->u σ H Q)(Q:Bool->Hp->Prop)(h:Q (b||c) H):tOr t u σ H Q:=by
 refine h1 _ ?_;cases b with
 | true=>exact h
 | false=>exact h2 _ h
theorem Vp(h1:∀ Q:Bool->Hp->Prop,Q b H->t σ H Q)(h:if b=true then A D σ H else B D σ H):Ec t A B D σ H:=h1 _ h
theorem Y2(h:A { D with nx:=B D } σ H):Z1 A B D σ H:=h
theorem Nb(J:L2.St->Hp->Prop)(hc:∀ Q:Bool->Hp->Prop,Q b H->c σ H Q)(h1:b=true->∀ N:L2.St->Hp->Prop,(∀ σ' H',J σ' H'->N σ' H')->t { D with nx:=N } σ H)
  (h2:b=false->∀ N:L2.St->Hp->Prop,(∀ σ' H',J σ' H'->N σ' H')->e { D with nx:=N } σ H) (h3:∀ σ' H',J σ' H'->u D σ' H'):Z1 (Ec c t e) u D σ H:=by
 refine hc _ ?_;cases b with
 | true=>rw[if_pos rfl];exact h1 rfl _ h3
 | false=>rw[if_neg ⋯];exact h2 rfl _ h3
theorem Zv(h:D.nx σ H):Aa D σ H:=h
theorem T9{K:Frag}{C:Addr}{v:Value}{r:Bool}(e:PySem.W.mroIn K C v=some r):(PySem.W.clsIn K C).isSome=true:=by
 obtain⟨cd,h,_⟩:=Option.bind_eq_some_iff.mp e;rw[h];rfl
theorem zej(K:Frag):PySem.W.kitOne K (.type "int") (.type "int")=some true:=rfl
theorem zek(K:Frag):PySem.W.kitOne K (.type "int") (.type "bool")=some false:=by with_unfolding_all rfl
theorem zae(K:Frag):PySem.W.kitOne K (.type "list") (.type "list")=some true:=rfl
theorem zel(K:Frag):PySem.W.kitOne K (.type "tuple") (.type "tuple")=some true:=rfl
theorem zem(K:Frag):PySem.W.kitOne K (.type "str") (.type "str")=some true:=rfl
inductive Z0(H:Hp):List V->List (List V)->Prop where
 | nil:Z0 H [] []
 | cons {t:Addr} {r:List V} {ts:List V} {R:List (List V)} (h:H t=some (.tup r)) (q:Z0 H ts R):Z0 H (.ref t :: ts) (r :: R)
theorem Z0.mono(k:∀ t xs,H t=some (.tup xs)->H' t=some (.tup xs)):∀ {ts:List V} {R:List (List V)},Z0 H ts R->Z0 H' ts R
 | _,_,.nil=>.nil
 | _,_,.cons h r=>.cons (k _ _ h) (Z0.mono k r)
theorem Z0.same(e:Same H H')(h:Z0 H ts R):Z0 H' ts R:=h.mono fun t xs q=>e _ _ q
theorem Z0.length:∀ {ts:List V} {R:List (List V)},Z0 H ts R->ts.length=R.length
 | _,_,.nil=>rfl
 | _,_,.cons _ r=>by simp[Z0.length r]
theorem Z0.snoc(h:H t=some (.tup x)):∀ {ts:List V} {R:List (List V)},Z0 H ts R->Z0 H (ts++[.ref t]) (R++[x])
 | _,_,.nil=>.cons h .nil
 | _,_,.cons h' r=>.cons h' (Z0.snoc h r)
theorem Z0.get:∀ {ts:List V} {R:List (List V)} {i:Nat} {x:V},Z0 H ts R->ts[i]?=some x->∃ t r,x=.ref t/\R[i]?=some r/\H t=some (.tup r)
 | _,_,_,_,.nil,e=>by simp at e
 | _,_,0,_,.cons h _,e=>by simp at e;subst e;exact⟨_,_,rfl,rfl,h⟩
 | _,_,i+1,x,.cons _ r,e=>by
   obtain⟨t,n,h1,h2,h3⟩:=Z0.get (i:=i) (x:=x) r (by simpa using e);exact⟨t,n,h1,by simpa using h2,h3⟩
theorem Z0.getR:∀ {ts:List V} {R:List (List V)} {i:Nat} {r:List V},Z0 H ts R->R[i]?=some r->∃ t,ts[i]?=some (.ref t)/\H t=some (.tup r)
 | _,_,_,_,.nil,e=>by simp at e
 | _,_,0,_,.cons h _,e=>by simp at e;subst e;exact⟨_,rfl,h⟩
 | _,_,i+1,x,.cons _ r,e=>by
   obtain⟨t,h1,h2⟩:=Z0.getR (i:=i) (r:=x) r (by simpa using e);exact⟨t,by simpa using h1,h2⟩
inductive D4(vs:List V)(H:Hp)(Q:VK)(_:XK):Prop where
 | mk(i)(_:vs=[.int i])(_:Q (.bl true) H)
def Qc(ns:List Int)(k:Nat):Int:=(ns[k]?).getD 0
inductive zen(K:Frag)(vs:List V)(H:Hp)(Q:VK)(_:XK):Prop where
 | mk(b:Addr)(ns:List Int)(k:Nat)(_:vs=[.ref b,.int k])(_:SqL K H b (ns.map V.int))(_:Q (.int (Qc ns k)) H)
def mix1(c k:Int):Int:=(c*48271+k)%2147483647
def mix2(c k:Int):Int:=(mix1 c k*69621+7*k)%2147483629
def zg7(c k:Int):Int:=(mix2 c k*39373+mix1 c k)%2147483587
def zg8(c k:Int):Int:=(mix1 c k*2147483647+mix2 c k)*2147483647+zg7 c k
inductive zc9(vs:List V)(H:Hp)(Q:VK)(_:XK):Prop where
 | mk(c)(k)(_:vs=[.int c,.int k])(_:Q (.int (zg8 c k)) H)
def stp(c:Int):Int:=([1,2,5,10,100,500,998]:List Int).getD (c%7).toNat 0
def Bf(c:Int)(j:Nat):Int:=1+(c/7+stp c*(j:Int))%999
def Pl(c:Int)(many:Nat):List Int:=(List.range many).map (Bf c)
inductive M3(vs:List V)(H:Hp)(Q:VK)(_:XK):Prop where
 | mk(c:Int)(many:Nat)(_:vs=[.int c,.int many])(_:many<=1000)(_:∀ l H',H' l=some (.lst ((Pl c many).map V.int))->Same H H'->H l=none->Q (.ref l) H')
def oneV(x:V):Prop:=x=.non\/∃ i,x=.int i
inductive Iq(vs:List V)(H:Hp)(Q:VK)(_:XK):Prop where
 | mk(x)(_:vs=[x,x])(_:oneV x)(_:Q (.bl true) H)
inductive G3(K:Frag)(vs:List V)(H:Hp)(Q:VK)(_:XK):Prop where
 | mk(b c:Addr)(xs:List V)(_:vs=[.ref b,.ref c])(_:H b=some (.lst xs))(_:SqL K H c xs)(_:(∀ x∈xs,oneV x))(_:xs.length<=1000)(_:Q (.bl true) H)
inductive D5(K:Frag)(vs:List V)(H:Hp)(Q:VK)(_:XK):Prop where
 | mk(b:Addr)(ns:List Int)(_:vs=[.ref b])(_:SqL K H b (ns.map V.int))(_:ns.length<=63)(_:∀ H',Q (.bl true) H')
structure Row where
 h:Int
 g:Int
 d:Int
 w:Option Int
def oV:Option Int->V
 | none=>.non
 | some n=>.int n
def Ir(r:Row):List V:=[.int r.h,.int r.g,.int r.d,oV r.w]
theorem zeo(o:Option Int):oneV (oV o):=by
 cases o with
 | none=>exact .inl rfl
 | some n=>exact .inr ⟨n,rfl⟩
theorem zep{H:Hp}{ts:List V}{rs:List Row}{i:Nat}{x:V}(h:Z0 H ts (rs.map Ir))(e:ts[i]?=some x):∃ t r,x=.ref t/\rs[i]?=some r/\H t=some (.tup (Ir r)):=by
 obtain⟨t,r,h1,h2,h3⟩:=h.get e;rw[zqb] at h2;cases q:rs[i]? with
 | none=>rw[q] at h2;cases h2
 | some m=>rw[q] at h2;cases h2;exact⟨t,m,h1,rfl,h3⟩
def hit(n c:Int)(r:Row):Bool:=decide (r.w=some n)&&(decide (r.h=c)||decide (r.g=c))
def G4(n c:Int)(Rs:List (List Row)):Nat×Nat:=Rs.foldl (fun p rs=>(p.1+1,if rs.any (hit n c) then p.1+1 else p.2)) (0,0)
def metS(Rs:List (List Row))(n c:Int):Nat:=(G4 n c Rs).2
theorem zaf(n c:Int)(Rs:List (List Row)):(G4 n c Rs).1=Rs.length:=by
 have h:∀ (Rs:List (List Row)) (p:Nat×Nat),(Rs.foldl (fun p rs=>(p.1+1,if rs.any (hit n c) then p.1+1 else p.2)) p).1=p.1+Rs.length:=fun Rs=>by
  induction Rs with
  | nil=>intro p;rfl
  | cons r Rs ih=>intro p;rw[List.foldl_cons,ih,zqs];simp only;omega
 have:=h Rs (0,0);unfold G4;rw[this];simp
theorem Bg(Rs:List (List Row))(rs:List Row)(n c:Int):metS (Rs++[rs]) n c=if rs.any (hit n c) then Rs.length+1 else metS Rs n c:=by
 unfold metS;have e:G4 n c (Rs++[rs])=((G4 n c Rs).1+1,if rs.any (hit n c) then (G4 n c Rs).1+1 else (G4 n c Rs).2):=by
  unfold G4;rw[List.foldl_append];rfl
 rw[e,zaf]
def M4(kvs:List (List Key×V))(f:Int->Int->Nat):Prop:=∀ n c:Int,valV kvs [inl n,inl c]=if f n c=0 then none else some (.int (f n c))
inductive Rz(H:Hp):List V->List (List Row)->Prop where
 | nil:Rz H [] []
 | cons {t:Addr} {ts rs:List V} {r:List Row} {R:List (List Row)} (h:H t=some (.tup ts)) (q:Z0 H ts (r.map Ir)) (n:Rz H rs R):Rz H (.ref t :: rs) (r :: R)
theorem Rz.mono(k:∀ t xs,H t=some (.tup xs)->H' t=some (.tup xs)):∀ {ts:List V} {R:List (List Row)},Rz H ts R->Rz H' ts R
 | _,_,.nil=>.nil
 | _,_,.cons h q r=>.cons (k _ _ h) (q.mono k) (Rz.mono k r)
theorem Rz.length:∀ {ts:List V} {R:List (List Row)},Rz H ts R->ts.length=R.length
 | _,_,.nil=>rfl
 | _,_,.cons _ _ r=>by simp[Rz.length r]
theorem Rz.snoc(h:H t=some (.tup xs))(q:Z0 H xs (x.map Ir)):∀ {ts:List V} {R:List (List Row)},Rz H ts R->Rz H (ts++[.ref t]) (R++[x])
 | _,_,.nil=>.cons h q .nil
 | _,_,.cons h' q' r=>.cons h' q' (Rz.snoc h q r)
def tot(Rs:List (List Row)):Nat:=(Rs.map List.length).sum
theorem zag(Rs:List (List Row))(rs:List Row):tot (Rs++[rs])=tot Rs+rs.length:=by unfold tot;rw[zqg,List.sum_append];simp
structure Vr(C:Addr)(H:Hp)(p lr ld:Addr)(Rs:List (List Row)):Prop where
 at_:∃ dx,H p=some (.ins C dx [("rounds",.ref lr),("meetings",.ref ld)])
 rd:∃ rs,H lr=some (.lst rs)/\Rz H rs Rs
 mt:∃ kvs,H ld=some (.dT kvs)/\M4 kvs (metS Rs)/\kvs.length<=2*tot Rs
theorem Vr.same{C:Addr}{H H':Hp}{p lr ld:Addr}{Rs:List (List Row)}(h:Vr C H p lr ld Rs)(e:Same H H'):Vr C H' p lr ld Rs:=by
 obtain⟨⟨dx,h1⟩,⟨rs,h2,h3⟩,⟨kvs,h4,h5⟩⟩:=h;exact⟨⟨dx,e _ _ h1⟩,⟨rs,e _ _ h2,h3.mono fun t xs q=>e _ _ q⟩,⟨kvs,e _ _ h4,h5⟩⟩
theorem Vr.keep{C:Addr}{H H':Hp}{p lr ld:Addr}{Rs:List (List Row)}(h:Vr C H p lr ld Rs)(ep:∀ o,H p=some o->H' p=some o)(er:∀ o,H lr=some o->H' lr=some o)(ed:∀ o,H ld=some o->H' ld=some o)(et:∀ t xs,H t=some (.tup xs)->H' t=some (.tup xs)):Vr C H' p lr ld Rs:=by
 obtain⟨⟨dx,h1⟩,⟨rs,h2,h3⟩,⟨kvs,h4,h5⟩⟩:=h;exact⟨⟨dx,ep _ h1⟩,⟨rs,er _ h2,h3.mono et⟩,⟨kvs,ed _ h4,h5⟩⟩
theorem Od:List.lookup ("rounds":Str) ([("rounds",V.ref x),("meetings",V.ref y)]:List (Str×V))=some (.ref x):=by simp only[zq3,beq_self_eq_true]
theorem Sz:List.lookup ("meetings":Str) ([("rounds",V.ref x),("meetings",V.ref y)]:List (Str×V))=some (.ref y):=by
 have e:(("meetings":Str) == "rounds")=false:=by decide +kernel
 simp only[zq3,e,beq_self_eq_true]
theorem M5{x y:Addr}{m:Str}(h:¬ m="rounds")(h':¬ m="meetings"):List.lookup m ([("rounds",V.ref x),("meetings",V.ref y)]:List (Str×V))=none:=by
 have e:(m == "rounds")=false:=zqn.mpr h;have e':(m == "meetings")=false:=zqn.mpr h';simp only[zq3,e,e',List.lookup_nil]
inductive D6(C:Addr)(vs:List V)(H:Hp)(Q:VK)(_:XK):Prop where
 | mk(p)(dx)(_:vs=[.ref p])(_:H p=some (.ins C dx []))(_:∀ lr ld H',Vr C H' p lr ld []->(∀ b o,H b=some o->b≠p->H' b=some o)->H lr=none->H ld=none->lr≠ld->Q .non H')
inductive Oe(C:Addr)(vs:List V)(H:Hp)(Q:VK)(_:XK):Prop where
 | mk(p)(lr)(ld)(Rs)(_:vs=[.ref p])(_:Vr C H p lr ld Rs)(_:Q (.int (Rs.length:Nat)) H)
inductive zda(C:Addr)(vs:List V)(H:Hp)(Q:VK)(_:XK):Prop where
 | mk(p)(lr)(ld)(Rs)(n)(c)(_:vs=[.ref p,.int n,.int c])(_:Vr C H p lr ld Rs)(_:∀ H',Same H H'->Q (.int (metS Rs n c:Nat)) H')
theorem Rr:([inl n,inl c]:List Key)=[inl n',inl c']↔n=n'/\c=c':=by
 constructor
 ·intro h;injection h with h1 h2;injection h2 with h2 _;exact⟨inl.inj h1,inl.inj h2⟩
 ·rintro⟨rfl,rfl⟩;rfl
theorem M4.put(h:M4 kvs f)(n c:Int)(t:Nat)(ht:0<t):M4 (putK kvs [inl n,inl c] (.int t)) (fun n' c'=>if n'=n/\c'=c then t else f n' c'):=fun n' c'=>by
 rw[Tq];show _=if (if n'=n/\c'=c then t else f n' c')=0 then none else some (V.int ((if n'=n/\c'=c then t else f n' c':Nat):Int))
 by_cases e:n'=n/\c'=c
 ·rw[if_pos e,if_pos (Rr.mpr e),if_neg ⋯]
 ·rw[if_neg (fun z=>e (Rr.mp z)),if_neg e];exact h n' c'
def Of(Rs:List (List Row))(rs:List Row)(i:Nat)(n c:Int):Nat:=if (rs.take i).any (hit n c) then Rs.length+1 else metS Rs n c
theorem Bh(Rs:List (List Row))(rs:List Row):Of Rs rs 0=metS Rs:=by funext n c;unfold Of;simp
theorem zah(Rs:List (List Row))(rs:List Row):Of Rs rs rs.length=metS (Rs++[rs]):=by funext n c;unfold Of;rw[zqz,Bg]
theorem Jj(e:rs[i]?=some r)(n c:Int):Of Rs rs (i+1) n c=if hit n c r then Rs.length+1 else Of Rs rs i n c:=by
 unfold Of;rw[zre,e,List.any_append];cases h1:(rs.take i).any (hit n c)<;>cases h2:hit n c r<;>simp[h2]
theorem Bi(e:rs[i]?=some r)(h:r.w=none):Of Rs rs (i+1)=Of Rs rs i:=by
 funext n c
 rw[Jj e];have:hit n c r=false:=by unfold hit;rw[h];simp
 rw[this];simp
theorem Bj(e:rs[i]?=some r)(h:r.w=some w) :
  (fun n c=>if n=w/\c=r.g then Rs.length+1 else (fun n c=>if n=w/\c=r.h then Rs.length+1 else Of Rs rs i n c) n c)=Of Rs rs (i+1):=by
 funext n c
 rw[Jj e];unfold hit;rw[h];show (if n=w/\c=r.g then Rs.length+1 else if n=w/\c=r.h then Rs.length+1 else Of Rs rs i n c)=_;by_cases h1:n=w
 ·subst h1;by_cases h2:r.g=c
  ·rw[if_pos ⟨rfl,h2.symm⟩,if_pos (by simp[h2])]
  ·rw[if_neg (fun z=>h2 z.2.symm)];by_cases h3:r.h=c
   ·rw[if_pos ⟨rfl,h3.symm⟩,if_pos (by simp[h3])]
   ·rw[if_neg (fun z=>h3 z.2.symm),if_neg (by simp[h2,h3])]
 ·rw[if_neg (fun z=>h1 z.1),if_neg (fun z=>h1 z.1),if_neg (by simp;intro z;exact absurd z.symm h1)]
theorem zai{C:Addr}{H1 H':Hp}{x dx lr ld:Addr}(hx:H1 x=none)(hdx:H1 dx=none)(ne:dx≠x)(k:∀ b o,upd (upd H1 dx (.own x)) x (.ins C dx []) b=some o->b≠x->H' b=some o)
  (h1:upd (upd H1 dx (.own x)) x (.ins C dx []) lr=none) (h2:upd (upd H1 dx (.own x)) x (.ins C dx []) ld=none):Same H1 H'/\H1 lr=none/\H1 ld=none:=by
 have fr:∀ {l:Addr},upd (upd H1 dx (.own x)) x (.ins C dx []) l=none->H1 l=none:=fun {l} q=>by
  have n1:l≠x:=fun z=>by rw[z,Zb] at q;cases q
  have n2:l≠dx:=fun z=>by rw[z,Zh ne,Zb] at q;cases q
  rw[Zh n1,Zh n2] at q;exact q
 refine⟨fun b o e=>k b o ?_ (Zg e hx),fr h1,fr h2⟩;rw[Zh (Zg e hx),Zh (Zg e hdx)];exact e
theorem zf6{lr ld:Addr}:putF "meetings" (V.ref ld) [(("rounds":Str),V.ref lr)]=[(("rounds":Str),V.ref lr),(("meetings":Str),V.ref ld)]:=by
 show (if ("rounds":Str)="meetings" then _ else _)=_;rw[if_neg ⋯];rfl
theorem Xu(h:H l=none)(s:Same H H'):Same H (upd H' l o):=fun b u e=>by
 rw[Zh (Zg e h)];exact s b u e
theorem zaj(h:oneV x):Ts x=true:=by rcases h with rfl|⟨i,rfl⟩<;>rfl
inductive RLs(H:Hp):List Addr->List (List Row)->Prop where
 | nil:RLs H [] []
 | cons {l:Addr} {ts:List V} {ls:List Addr} {r:List Row} {R:List (List Row)} (h:H l=some (.lst ts)) (q:Z0 H ts (r.map Ir)) (n:RLs H ls R):RLs H (l :: ls) (r :: R)
theorem Iu(c:Int)(m:Nat):(Pl c m).length=m:=by unfold Pl;rw[zp3,zq4]
structure L1(C:Addr)(H0:Hp)(p lr ld kR:Addr)(ls:List Addr)(R S:List (List Row))(H:Hp):Prop where
 base:Same H0 H
 led:Vr C H p lr ld R
 krs:H kR=some (.lst (ls.map V.ref))
 rls:RLs H ls S
 sep:∀ l∈ls,l≠lr/\l≠kR
structure C1(H0:Hp)(lr ld kR:Addr):Prop where
 fr:H0 lr=none
 fd:H0 ld=none
 fk:H0 kR=none
 rk:lr≠kR
def G5(Rs:List (List Row))(n c rest:Int):Bool:=decide ((if (0:Int)>(Rs.length:Nat)-rest then 0 else ((Rs.length:Nat):Int)-rest)<(metS Rs n c:Nat))
inductive G6(C:Addr)(vs:List V)(H:Hp)(Q:VK)(_:XK):Prop where
 | mk(p)(lr)(ld)(Rs)(n)(c)(rest)(_:vs=[.int n,.int c,.ref p,.int rest])(_:Vr C H p lr ld Rs)(_:∀ H',Same H H'->Q (.bl (G5 Rs n c rest)) H')
def bw(b:Bool)(w:Str):List Str:=if b then [w] else []
def Iv(Rs:List (List Row))(n g c h gu d:Int)(o:Bool)(rest:Int):List Str :=
 bw o "away"++(bw (decide (g<d)) "grade"++(bw (decide (c=h)||decide (c=gu)) "club"++bw (G5 Rs n h rest||G5 Rs n gu rest) "met"))
inductive Jk(K:Frag)(C:Addr)(vs:List V)(H:Hp)(Q:VK)(_:XK):Prop where
 | mk(t1 t2 p lr ld:Addr)(Rs:List (List Row))(n g c h gu d rest:Int)(o:Bool)(_:vs=[.ref t1,.ref t2,.bl o,.ref p,.int rest])(_:H t1=some (.tup [.int n,.int g,.int c]))(_:H t2=some (.tup [.int h,.int gu,.int d]))(_:Vr C H p lr ld Rs)(_:∀ l H',H' l=some (.lst ((Iv Rs n g c h gu d o rest).map V.str))->Same H H'->H l=none->Q (.ref l) H')
def Gr(c:TT)(σ:L2.St)(H:Hp)(b:Bool):Prop:=∀ Q:Bool->Hp->Prop,(∀ H1,Same H H1->Q b H1)->c σ H Q
theorem zak(h1:Gr t σ H b)(h2:∀ H1,Same H H1->Gr u σ H1 c):Gr (tOr t u) σ H (b||c):=fun Q h=>by
 refine h1 _ fun H1 s1=>?_;cases b with
 | true=>exact h H1 s1
 | false=>exact h2 H1 s1 _ fun H2 s2=>h H2 (s1.trans s2)
theorem Iw(h:∀ Q:Bool->Hp->Prop,Q b H->c σ H Q):Gr c σ H b:=fun Q q=>h Q (q H (Same.refl H))
theorem Mb(hc:Gr c σ H b)(h0:H0 l=none)(s:Same H0 H)(hl:H l=some (.lst (xs.map V.str)))(hx:xs.length<=100)(hv:σ[i]?=some (some (.ref l)))
  (h3:∀ H',Same H0 H'->H' l=some (.lst ((xs++bw b w).map V.str))->(∀ b o,H b=some o->b≠l->H' b=some o)->u D σ H'):Z1 (Ec c (tApp (tVar i) (tC (.str w))) Aa) u D σ H:=by
 refine hc _ fun H1 s1=>?_;have hl1:=s1 _ _ hl;cases b with
 | true =>
   rw[if_pos rfl];refine⟨_,hv,l,_,rfl,hl1,_,hl1,Rp (by rw[zp3];omega),?_⟩;refine h3 _ (Xu h0 (s.trans s1)) ?_ fun b o e n=>by rw[Zh n];exact s1 _ _ e
   rw[Zb,zqg];rfl
 | false =>
   rw[if_neg ⋯];exact h3 _ (s.trans s1) (by rw[show bw false w=[] from rfl,List.append_nil];exact hl1) fun b o e _=>s1 _ _ e
theorem Ey(b:Bool)(w:Str):(bw b w).length<=1:=by cases b<;>simp[bw]
theorem zal(c:Int)(hi:i<40)(hj:j<40)(h:Bf c i=Bf c j):i=j:=by
 unfold Bf at h;have hs:stp c=1\/stp c=2\/stp c=5\/stp c=10\/stp c=100\/stp c=500\/stp c=998:=by
  unfold stp;have h0:0<=c%7:=by omega
  have h1:c%7<7:=by omega
  generalize c%7=r at h0 h1;obtain⟨k,rfl⟩:∃ k:Nat,r=k:=⟨r.toNat,by omega⟩;rw[zq5];have hk:k<7:=by omega
  match k,hk with
  | 0,_=>simp
  | 1,_=>simp
  | 2,_=>simp
  | 3,_=>simp
  | 4,_=>simp
  | 5,_=>simp
  | 6,_=>simp
 generalize c/7=x at h;rcases hs with e|e|e|e|e|e|e<;>rw[e] at h<;>omega
end G
namespace G
open PySem PySem.Spec PyProof.Rows L2
abbrev P3:=Int×Int×Int
def pV(m:P3):List V:=[.int m.1,.int m.2.1,.int m.2.2]
theorem zam{H:Hp}{ts:List V}{Ms:List P3}{i:Nat}{x:V}(h:Z0 H ts (Ms.map pV))(e:ts[i]?=some x):∃ t m,x=.ref t/\Ms[i]?=some m/\H t=some (.tup (pV m)):=by
 obtain⟨t,r,h1,h2,h3⟩:=h.get e;rw[zqb] at h2;cases q:Ms[i]? with
 | none=>rw[q] at h2;cases h2
 | some m=>rw[q] at h2;cases h2;exact⟨t,m,h1,rfl,h3⟩
theorem Z0.reverse:∀ {ts:List V} {R:List (List V)},Z0 H ts R->Z0 H ts.reverse R.reverse
 | _,_,.nil=>.nil
 | _,_,.cons h q=>by rw[zrq,zrq];exact(Z0.reverse q).snoc h
def S4(Rs:List (List Row))(h gu d:Int)(os:List V)(rest:Int)(m:P3):Bool:=(Iv Rs m.1 m.2.1 m.2.2 h gu d (inV (.int m.1) os) rest).isEmpty
inductive G7(K:Frag)(C:Addr)(vs:List V)(H:Hp)(Q:VK)(_:XK):Prop where
 | mk(lp lo tm p lr ld:Addr)(Rs:List (List Row))(ts:List V)(Ms:List P3)(os:List V)(h gu d rest:Int)(_:vs=[.ref lp,.ref tm,.ref lo,.ref p,.int rest])(_:H lp=some (.lst ts))(_:Z0 H ts (Ms.map pV))(_:H lo=some (.lst os))(_:(∀ x∈os,oneV x))(_:H tm=some (.tup [.int h,.int gu,.int d]))(_:Vr C H p lr ld Rs)(_:Ms.length<=1000)(_:∀ l H',H' l=some (.lst ((Ms.filter (S4 Rs h gu d os rest)).map fun m=>V.int m.1))->Same H H'->H l=none->Q (.ref l) H')
theorem Iy{js:List Nat}{tt:TT}{te:TE}{lo:Int}{n:Nat}{σ:L2.St}{H:Hp}{Q:VK}(p:Nat->Bool)(f:Nat->V)(hz:n<=1000)
  (ht:∀ (i:Nat) (R:Bool->Hp->Prop),i<n->R (p i) H->tt (cs js σ (.int (lo+i))) H R) (hs:∀ (i:Nat) (R:VK),i<n->p i=true->R (f i) H->te (cs js σ (.int (lo+i))) H R)
  (hd:∀ q,H q=none->Q (.ref q) (upd H q (.lst (((List.range n).filter p).map f)))):G1 (Itr lo n) js tt te σ H Q:=by
 refine Qn (fun i ys H'=>H'=H/\ys=((List.range i).filter p).map f) ⟨rfl,rfl⟩ (szN hz) (fun i ys H' ⟨_,e⟩=>by rw[e,zp3];exact zqr (zrp _ _) (by rw[zq4];exact zqa _)) (fun i ys H' hi ⟨e1,e2⟩=>?_) fun ys H' ⟨e1,e2⟩ q hq=>?_
 ·subst e1;refine ht i _ hi ?_;have e3:((List.range (i+1)).filter p).map f=ys++(if p i then [f i] else []):=by
   rw[e2,List.range_succ,List.filter_append,zqg];cases hp:p i<;>simp[hp]
  cases hp:p i with
  | true =>
    rw[if_pos rfl];refine hs i _ hi hp ⟨rfl,?_⟩;rw[e3,hp];rfl
  | false =>
    rw[if_neg ⋯];refine⟨rfl,?_⟩;rw[e3,hp];simp
 ·subst e1;rw[e2];exact hd q hq
def zdb(xs:List V):List Nat:=(List.range xs.length).filter fun i=>decide (xs[i]?=some .non)
def X2(xs:List V)(n:Int):Option Nat:=(List.range xs.length).find? fun i=>decide (xs[i]?=some (.int n))
def oN:Option Nat->V
 | none=>.non
 | some i=>.int i
inductive Jl(K:Frag)(vs:List V)(H:Hp)(Q:VK)(_:XK):Prop where
 | mk(b:Addr)(xs:List V)(n:Int)(_:vs=[.ref b,.int n])(_:H b=some (.lst xs))(_:(∀ x∈xs,oneV x))(_:xs.length<=100)(_:∀ H',Same H H'->Q (oN (X2 xs n)) H')
def Ym:List (Nat×Option Int)->List V->List V
 | [],xs=>xs
 | (p,w) :: r,xs=>Ym r (xs.set p (oV w))
def Vf(s:Nat×Option Int):List V:=[.int (s.1:Nat),oV s.2]
inductive Og(K:Frag)(vs:List V)(H:Hp)(Q:VK)(_:XK):Prop where
 | mk(b c:Addr)(xs ts:List V)(st:List (Nat×Option Int))(_:vs=[.ref b,.ref c])(_:H b=some (.lst xs))(_:H c=some (.lst ts))(_:Z0 H ts (st.map Vf))(_:(∀ s∈st,s.1<xs.length))(_:(∀ x∈xs,oneV x))(_:xs.length<=100)(_:st.length<=100)(_:∀ l H',H' l=some (.lst (Ym st xs))->Same H H'->H l=none->Q (.ref l) H')
theorem Xp:∀ (st:List (Nat×Option Int)) (xs:List V),(Ym st xs).length=xs.length
 | [],_=>rfl
 | (p,w) :: r,xs=>by rw[Ym,Xp r,zrf]
theorem G8(xs:List V)(n:Int):(X2 xs n=none/\∀ i:Nat,xs[i]?≠some (V.int n))\/∃ i:Nat,X2 xs n=some i/\xs[i]?=some (V.int n):=by
 unfold X2;cases h:(List.range xs.length).find? fun i=>decide (xs[i]?=some (.int n)) with
 | none =>
   refine .inl ⟨rfl,fun i e=>?_⟩;have hi:i<xs.length:=(zp4.mp e).1;have:=List.find?_eq_none.mp h i (zrb.mpr hi);exact this (zp8 e)
 | some i =>
   have:=List.find?_some h;exact .inr ⟨i,rfl,of_decide_eq_true this⟩
inductive D7(vs:List V)(H:Hp)(Q:VK)(_:XK):Prop where
 | mk(x)(_:vs=[.bl x,.bl x])(_:Q (.bl true) H)
theorem zeq(K:Frag):PySem.W.kitOne K (.type "bool") (.type "bool")=some true:=rfl
inductive ILs(H:Hp):List Addr->List (List Int)->Prop where
 | nil:ILs H [] []
 | cons {l:Addr} {ls:List Addr} {r:List Int} {R:List (List Int)} (h:H l=some (.lst (r.map V.int))) (n:ILs H ls R):ILs H (l :: ls) (r :: R)
theorem ILs.keep:∀ {ls:List Addr} {R:List (List Int)},(∀ l∈ls,∀ o,H l=some o->H' l=some o)->ILs H ls R->ILs H' ls R
 | _,_,_,.nil=>.nil
 | _,_,k,.cons h r=>.cons (k _ zqp _ h) (ILs.keep (fun l hl=>k l (zql _ hl)) r)
theorem ILs.same(e:Same H H')(h:ILs H ls R):ILs H' ls R:=h.keep fun l _ o q=>e _ _ q
theorem ILs.length:∀ {ls:List Addr} {R:List (List Int)},ILs H ls R->ls.length=R.length
 | _,_,.nil=>rfl
 | _,_,.cons _ r=>by simp[ILs.length r]
theorem ILs.snoc(h:H l=some (.lst (x.map V.int))):∀ {ls:List Addr} {R:List (List Int)},ILs H ls R->ILs H (ls++[l]) (R++[x])
 | _,_,.nil=>.cons h .nil
 | _,_,.cons h' r=>.cons h' (ILs.snoc h r)
theorem ILs.has:∀ {ls:List Addr} {R:List (List Int)} {l:Addr},ILs H ls R->l∈ls->∃ xs,H l=some (.lst xs)
 | _,_,_,.nil,e=>by simp at e
 | _,_,_,.cons h r,e=>by
   rcases zp7.mp e with rfl|e
   ·exact⟨_,h⟩
   ·exact ILs.has r e
theorem ILs.getR:∀ {ls:List Addr} {R:List (List Int)} {i:Nat} {r:List Int},ILs H ls R->R[i]?=some r->∃ l,ls[i]?=some l/\H l=some (.lst (r.map V.int))
 | _,_,_,_,.nil,e=>by simp at e
 | _,_,0,_,.cons h _,e=>by simp at e;subst e;exact⟨_,rfl,h⟩
 | _,_,i+1,x,.cons _ r,e=>by
   obtain⟨t,h1,h2⟩:=ILs.getR (i:=i) (r:=x) r (by simpa using e);exact⟨t,by simpa using h1,h2⟩
structure Nd(rows:List (List Int))(nu:List Int):Prop where
 few:rows.length<=20
 crowd:nu.length<=30
 inj:nu.Nodup
 rng:∀ n∈nu,1<=n/\n<=999
 sub:∀ r∈rows,r.Nodup/\∀ n∈r,n∈nu
structure Yp(rows:List (List Int))(gs:List V):Prop where
 len:gs.length=rows.length
 one:∀ x∈gs,oneV x
 may:∀ (k:Nat) (n:Int),gs[k]?=some (.int n)->∃ r,rows[k]?=some r/\n∈r
 inj:∀ (j k:Nat) (n:Int),gs[j]?=some (.int n)->gs[k]?=some (.int n)->j=k
def Rt(rows:List (List Int))(gs:List V)(p:Nat):Prop:=∃ S:Nat->Prop,S p/\∀ q,S q->q<rows.length/\∀ r,rows[q]?=some r->∀ n∈r,∃ q',q' < p/\gs[q']?=some (.int n)/\S q'
def Vh(rows:List (List Int))(gs:List V):Prop:=∀ p,gs[p]?=some .non->Rt rows gs p
inductive zan(K:Frag)(vs:List V)(H:Hp)(Q:VK)(_:XK):Prop where
 | mk(l:Addr)(ls:List Addr)(rows:List (List Int))(nu:List Int)(_:vs=[.ref l])(_:H l=some (.lst (ls.map V.ref)))(_:ILs H ls rows)(_:Nd rows nu)(_:∀ l' gs H',H' l'=some (.lst gs)->Yp rows gs->Vh rows gs->Same H H'->H l'=none->Q (.ref l') H')
theorem Iz{n:Int}{r:List Int}:inV (.int n) (r.map V.int)=decide (n∈r):=by
 induction r with
 | nil=>rfl
 | cons x r ih =>
   unfold inV at ih ⊢;rw[zqc,zrk,ih];have e:eqV (.int x) (.int n)=decide (n=x):=by
    show (x == n)=_;by_cases h:n=x
    ·subst h;simp
    ·rw[zqd h];exact zqn.mpr (Ne.symm h)
   rw[e];by_cases h:n=x
   ·subst h;simp
   ·by_cases h2:n∈r<;>simp[h,h2]
end G
namespace G
open PySem PySem.Spec PyProof.Rows L2
def newS(st:List (Nat×Option Int))(k:Nat):List V:=(st.filter fun s=>decide (s.1=k)).map fun s=>oV s.2
theorem Jm:∀ (st:List (Nat×Option Int)) (xs:List V) (k:Nat),(st.map (·.1)).Nodup->k<xs.length->(Ym st xs)[k]?=some ((newS st k++[xs.getD k .non]).getD 0 .non)
 | [],xs,k,_,hk=>by
   rw[Ym,zp5 hk];show _=some (xs.getD k .non);rw[zqm,zp5 hk];rfl
 | (p,w) :: r,xs,k,nd,hk=>by
   rw[zqc,zqt] at nd;rw[Ym,Jm r _ k nd.2 (by rw[zrf];exact hk)];by_cases h:p=k
   ·subst h;have e:newS r p=[]:=by
     unfold newS;rw[List.map_eq_nil_iff,List.filter_eq_nil_iff];intro s hs z;exact nd.1 (zqh.mpr ⟨s,hs,of_decide_eq_true z⟩)
    have e2:newS ((p,w) :: r) p=oV w :: newS r p:=by
     unfold newS;rw[zrd,if_pos (zp8 rfl),zqc]
    rw[e2,e];show some ((xs.set p (oV w)).getD p .non)=some (oV w);rw[zqm,zq1 hk];rfl
   ·have e2:newS ((p,w) :: r) k=newS r k:=by
     unfold newS;rw[zrd,if_neg (by rw[zqd h];decide)]
    rw[e2];have e3:(xs.set p (oV w)).getD k .non=xs.getD k .non:=by
     rw[zqm,zqm,zqx h]
    rw[e3]
section
variable{rows:List (List Int)}{gs:List V}
def adjN(rows:List (List Int))(gs:List V)(q:Nat)(n:Int)(q':Nat):Prop:=(∃ r,rows[q]?=some r/\n∈r)/\gs[q']?=some (.int n)
def Qo(rows:List (List Int))(gs:List V)(q:Nat)(n:Int):Prop:=(∃ r,rows[q]?=some r/\n∈r)/\∀ j:Nat,gs[j]?≠some (V.int n)
def V4(rows:List (List Int))(gs:List V)(q:Nat):Prop:=∃ n,Qo rows gs q n
inductive Walk(rows:List (List Int))(gs:List V)(p:Nat):Nat->Nat->Prop where
 | nil:Walk rows gs p p 0
 | snoc {q q' k:Nat} {n:Int} (h:Walk rows gs p q k) (a:adjN rows gs q n q'):Walk rows gs p q' (k+1)
theorem Walk.cons(a:adjN rows gs p n p')(h:Walk rows gs p' q k):Walk rows gs p q (k+1):=by
 induction h with
 | nil=>exact .snoc .nil a
 | snoc _ a' ih=>exact .snoc ih a'
inductive Ch(rows:List (List Int))(gs:List V):Nat->List (Nat×Option Int)->Nat->Option Int->Prop where
 | one (q:Nat) (w:Option Int):Ch rows gs q [(q,w)] q w
 | step {q q' e:Nat} {n:Int} {st:List (Nat×Option Int)} {w:Option Int} (a:adjN rows gs q n q') (h:Ch rows gs q' st e w):Ch rows gs q ((q,some n) :: st) e w
theorem Ch.pos{q e:Nat}{st:List (Nat×Option Int)}{w:Option Int}(h:Ch rows gs q st e w):0<st.length:=by cases h<;>simp
theorem Ch.walk{q e:Nat}{st:List (Nat×Option Int)}{w:Option Int}(h:Ch rows gs q st e w):Walk rows gs q e (st.length-1):=by
 induction h with
 | one q w=>exact .nil
 | step a h ih =>
   have:=h.pos;have e:=Walk.cons a ih;rw[zqs,Nat.add_sub_cancel];rw[Nat.sub_add_cancel this] at e;exact e
theorem Ch.drop{q e:Nat}{st:List (Nat×Option Int)}{w:Option Int}(h:Ch rows gs q st e w):∀ x∈st.map (·.1),∃ st',Ch rows gs x st' e w/\st'.length<=st.length:=by
 induction h with
 | one q w=>intro x hx;simp at hx;subst hx;exact⟨_,.one _ _,zqa _⟩
 | @step q q' e n st w a h ih =>
   intro x hx;rw[zqc] at hx;rcases zp7.mp hx with z|z
   ·subst z;exact⟨_,.step a h,zqa _⟩
   ·obtain⟨st',h1,h2⟩:=ih x z;exact⟨st',h1,by rw[zqs];omega⟩
theorem Ch.hd{q e:Nat}{st:List (Nat×Option Int)}{w:Option Int}(h:Ch rows gs q st e w):∃ x r,st=(q,x) :: r:=by cases h<;>exact⟨_,_,rfl⟩
theorem Ch.last{q e:Nat}{st:List (Nat×Option Int)}{w:Option Int}(h:Ch rows gs q st e w):e∈st.map (·.1):=by
 induction h with
 | one q w=>simp
 | step a h ih=>rw[zqc];exact zql _ ih
theorem Ch.nodup{q e:Nat}{st:List (Nat×Option Int)}{w:Option Int}(h:Ch rows gs q st e w)(hm:∀ k,Walk rows gs q e k->st.length<=k+1):(st.map (·.1)).Nodup:=by
 induction h with
 | one q w=>simp
 | @step q q' e n st w a h ih =>
   rw[zqc,zqt];refine⟨fun hq=>?_,ih fun k hk=>?_⟩
   ·obtain⟨st',h1,h2⟩:=h.drop q hq;have:=hm _ h1.walk;have:=h1.pos;rw[zqs] at *;omega
   ·have:=hm _ (Walk.cons a hk);rw[zqs] at this;omega
theorem Ch.mem{q e:Nat}{st:List (Nat×Option Int)}{w:Option Int}(h:Ch rows gs q st e w):∀ (k:Nat) (n:Int),(k,some n)∈st->(adjN rows gs k n k\/True)/\(((∃ r,rows[k]?=some r/\n∈r)/\∃ k',gs[k']?=some (V.int n)/\k'∈st.tail.map (·.1))\/(w=some n/\k=e)):=by
 induction h with
 | one q w =>
   intro k n hk;simp at hk;exact⟨.inr trivial,.inr ⟨hk.2.symm,hk.1⟩⟩
 | @step q q' e n' st w a h ih =>
   intro k n hk;refine⟨.inr trivial,?_⟩;rcases zp7.mp hk with z|z
   ·cases z;refine .inl ⟨a.1,q',a.2,?_⟩;obtain⟨x,r,e⟩:=h.hd;rw[e];simp
   ·rcases(ih k n z).2 with ⟨h1,k',h2,h3⟩|h1
    ·refine .inl ⟨h1,k',h2,?_⟩;show k'∈st.map (·.1);obtain⟨x,r,e⟩:=h.hd;rw[e] at h3 ⊢;exact zql _ h3
    ·exact .inr h1
theorem Ch.inj{q e:Nat}{st:List (Nat×Option Int)}{w:Option Int}(FP:Yp rows gs)(h:Ch rows gs q st e w)(hw:∀ n,w=some n->∀ j:Nat,gs[j]?≠some (V.int n))(nd:(st.map (·.1)).Nodup):∀ (j k:Nat) (n:Int),(j,some n)∈st->(k,some n)∈st->j=k:=by
 induction h with
 | one q w=>intro j k n h1 h2;simp at h1 h2;rw[h1.1,h2.1]
 | @step q q' e n' st w a h ih =>
   intro j k n h1 h2;rw[zqc,zqt] at nd;have key:∀ k,(k,some n')∈st->False:=fun k hk=>by
    rcases(h.mem k n' hk).2 with ⟨_,k',h2,h3⟩|⟨h1,_⟩
    ·have e:k'=q':=FP.inj k' q' n' h2 a.2;subst e;obtain⟨x,r,e⟩:=h.hd;have nd2:=nd.2;rw[e] at nd2 h3;rw[zqc,zqt] at nd2;exact nd2.1 h3
    ·exact hw n' h1 q' a.2
   rcases zp7.mp h1 with z1|z1<;>rcases zp7.mp h2 with z2|z2
   ·cases z1;cases z2;rfl
   ·cases z1;exact(key k z2).elim
   ·cases z2;exact(key j z1).elim
   ·exact ih hw nd.2 j k n z1 z2
theorem zao{st:List (Nat×Option Int)}{k:Nat}(nd:(st.map (·.1)).Nodup):(k∉st.map (·.1)/\newS st k=[])\/∃ w,(k,w)∈st/\newS st k=[oV w]:=by
 induction st with
 | nil=>exact .inl ⟨by simp,rfl⟩
 | cons s r ih =>
   obtain⟨p,w⟩:=s;rw[zqc,zqt] at nd;by_cases h:p=k
   ·subst h;refine .inr ⟨w,zqp,?_⟩;rcases ih nd.2 with ⟨_,e⟩|⟨w',h1,_⟩
    ·have e2:newS ((p,w) :: r) p=oV w :: newS r p:=by
      unfold newS;rw[zrd,if_pos (zp8 rfl),zqc]
     rw[e2,e]
    ·exact absurd (zqh.mpr ⟨_,h1,rfl⟩) nd.1
   ·have e2:newS ((p,w) :: r) k=newS r k:=by
     unfold newS;rw[zrd,if_neg (by rw[zqd h];decide)]
    rw[e2];rcases ih nd.2 with ⟨h1,e⟩|⟨w',h1,e⟩
    ·exact .inl ⟨fun z=>by rcases zp7.mp z with q|q;exact h q.symm;exact h1 q,e⟩
    ·exact .inr ⟨w',zql _ h1,e⟩
theorem X3{st:List (Nat×Option Int)}{xs:List V}{k:Nat}(nd:(st.map (·.1)).Nodup)(hk:k<xs.length):(k∉st.map (·.1)/\(Ym st xs)[k]?=xs[k]?)\/∃ w,(k,w)∈st/\(Ym st xs)[k]?=some (oV w):=by
 rw[Jm st xs k nd hk];rcases zao (k:=k) nd with ⟨h,e⟩|⟨w,h,e⟩
 ·refine .inl ⟨h,?_⟩;rw[e];show some (xs.getD k .non)=_;rw[zqm,zp5 hk];rfl
 ·exact .inr ⟨w,h,by rw[e];rfl⟩
theorem Ch.lt{q e:Nat}{st:List (Nat×Option Int)}{w:Option Int}(FP:Yp rows gs)(h:Ch rows gs q st e w)(hq:q<rows.length):∀ s∈st,s.1<rows.length:=by
 induction h with
 | one q w=>intro s hs;simp at hs;subst hs;exact hq
 | @step q q' e n st w a h ih =>
   intro s hs;rcases zp7.mp hs with z|z
   ·subst z;exact hq
   ·refine ih ?_ s z;have:=(zp4.mp a.2).1;rw[FP.len] at this;exact this
theorem Ch.fill{q e:Nat}{st:List (Nat×Option Int)}{w:Option Int}(FP:Yp rows gs)(h:Ch rows gs q st e w)(hq:q<rows.length)(hw:∀ n,w=some n->Qo rows gs e n)(nd:(st.map (·.1)).Nodup):Yp rows (Ym st gs):=by
 have hlt:=h.lt FP hq;have hinj:=h.inj FP (fun n hn=>(hw n hn).2) nd;have src:∀ (k:Nat) (n:Int),(k,some n)∈st->(∃ r,rows[k]?=some r/\n∈r)/\∀ j:Nat,gs[j]?=some (V.int n)->j∈st.map (·.1):=fun k n hk=>by
  rcases(h.mem k n hk).2 with ⟨h1,k',h2,h3⟩|⟨h1,rfl⟩
  ·refine⟨h1,fun j hj=>?_⟩;rw[FP.inj j k' n hj h2];obtain⟨x,r,e⟩:=h.hd;rw[e] at h3 ⊢;exact zql _ h3
  ·exact⟨(hw n h1).1,fun j hj=>absurd hj ((hw n h1).2 j)⟩
 have cs:∀ k,k<gs.length->(k∉st.map (·.1)/\(Ym st gs)[k]?=gs[k]?)\/∃ w,(k,w)∈st/\(Ym st gs)[k]?=some (oV w):=fun k hk=>X3 nd hk;have at_:∀ (k:Nat) (n:Int),(Ym st gs)[k]?=some (V.int n)->(k∉st.map (·.1)/\gs[k]?=some (V.int n))\/(k,some n)∈st:=fun k n hk=>by
  have hkl:k<gs.length:=by
   have:=(zp4.mp hk).1;rw[Xp] at this;exact this
  rcases cs k hkl with ⟨h1,e⟩|⟨w',h1,e⟩
  ·exact .inl ⟨h1,by rw[<- e];exact hk⟩
  ·rw[e] at hk;cases w' with
   | none=>cases hk
   | some m=>cases hk;exact .inr h1
 refine⟨by rw[Xp];exact FP.len,fun x hx=>?_,fun k n hk=>?_,fun j k n hj hk=>?_⟩
 ·obtain⟨k,hk,rfl⟩:=zrg hx;have hkl:k<gs.length:=by rw[Xp] at hk;exact hk
  have e0:=zp5 hk;rcases cs k hkl with ⟨_,e⟩|⟨w',_,e⟩
  ·rw[e,zp5 hkl] at e0;rw[<- Option.some.inj e0];exact FP.one _ (zq7 hkl)
  ·rw[e] at e0;rw[<- Option.some.inj e0];exact zeo w'
 ·rcases at_ k n hk with ⟨_,h1⟩|h1
  ·exact FP.may k n h1
  ·exact(src k n h1).1
 ·rcases at_ j n hj with ⟨a1,a2⟩|a1<;>rcases at_ k n hk with ⟨b1,b2⟩|b1
  ·exact FP.inj j k n a2 b2
  ·exact absurd ((src k n b1).2 j a2) a1
  ·exact absurd ((src j n a1).2 k b2) b1
  ·exact hinj j k n a1 b1
theorem Ch.out{p0 q e:Nat}{n0:Int}{w:Option Int}{st:List (Nat×Option Int)}{S:Nat->Prop}(FP:Yp rows gs)(hS:∀ q,S q->q<rows.length/\∀ r,rows[q]?=some r->∀ n∈r,∃ q',q' < p0/\gs[q']?=some (.int n)/\S q')(h:Ch rows gs q st e w):w=some n0->Qo rows gs e n0->¬ S q:=by
 induction h with
 | one q w =>
   intro hw hf hs;obtain⟨r,h1,h2⟩:=hf.1;obtain⟨q',_,h3,_⟩:=(hS _ hs).2 r h1 n0 h2;exact hf.2 q' h3
 | @step q q' e n st w a h ih =>
   intro hw hf hs;obtain⟨r,h1,h2⟩:=a.1;obtain⟨q'',_,h3,h4⟩:=(hS q hs).2 r h1 n h2;have:q''=q':=FP.inj q'' q' n h3 a.2;subst this;exact ih hw hf h4
theorem Rt.behind{p0 q e:Nat}{n0:Int}{st:List (Nat×Option Int)}(FP:Yp rows gs)(S0:Rt rows gs p0)(h:Ch rows gs q st e (some n0))(hf:Qo rows gs e n0)(hq:q<rows.length)(nd:(st.map (·.1)).Nodup):Rt rows (Ym st gs) p0:=by
 obtain⟨S,hp,hS⟩:=S0;have outAll:∀ x∈st.map (·.1),¬ S x:=fun x hx=>by
  obtain⟨st',h1,_⟩:=h.drop x hx;exact h1.out FP hS rfl hf
 refine⟨S,hp,fun q1 h1=>⟨(hS q1 h1).1,fun r hr n hn=>?_⟩⟩;obtain⟨q',h2,h3,h4⟩:=(hS q1 h1).2 r hr n hn;refine⟨q',h2,?_,h4⟩;have hkl:q' < gs.length:=(zp4.mp h3).1;rcases X3 nd hkl with ⟨_,e⟩|⟨w,h5,_⟩
 ·rw[e];exact h3
 ·exact absurd h4 (outAll q' (zqh.mpr ⟨_,h5,rfl⟩))
structure Y3(rows:List (List Int))(gs:List V)(p:Nat)(st:List (Nat×Option Int))(e:Nat)(w:Option Int):Prop where
 ch:Ch rows gs p st e w
 free:∀ n,w=some n->Qo rows gs e n/\∀ q k,Walk rows gs p q k->V4 rows gs q->st.length<=k+1
 none:w=none->(∀ q k,Walk rows gs p q k->¬ V4 rows gs q)/\(∀ q k,Walk rows gs p q k->q<=e)/\∀ k,Walk rows gs p e k->st.length<=k+1
theorem Y3.nodup{p e:Nat}{st:List (Nat×Option Int)}{w:Option Int}(c:Y3 rows gs p st e w):(st.map (·.1)).Nodup:=by
 refine c.ch.nodup fun k hk=>?_;cases h:w with
 | none=>exact(c.none h).2.2 k hk
 | some n=>exact(c.free n h).2 e k hk ⟨n,(c.free n h).1⟩
theorem Y3.fill{p e:Nat}{st:List (Nat×Option Int)}{w:Option Int}(FP:Yp rows gs)(c:Y3 rows gs p st e w)(hp:p<rows.length):Yp rows (Ym st gs):=c.ch.fill FP hp (fun n hn=>(c.free n hn).1) c.nodup
theorem zap(FP:Yp rows gs)(hp:p<rows.length)(ha:∀ q n,gs[q]?=some (V.int n)->q<p)(hn:∀ q k,Walk rows gs p q k->¬ V4 rows gs q):Rt rows gs p:=by
 refine⟨fun q=>∃ k,Walk rows gs p q k,⟨0,.nil⟩,fun q ⟨k,hk⟩=>⟨?_,fun r hr n hnr=>?_⟩⟩
 ·cases hk with
  | nil=>exact hp
  | snoc _ a =>
    have:=(zp4.mp a.2).1;rw[FP.len] at this;exact this
 ·by_cases hx:∃ j:Nat,gs[j]?=some (V.int n)
  ·obtain⟨j,hj⟩:=hx;exact⟨j,ha j n hj,hj,k+1,.snoc hk ⟨⟨r,hr,hnr⟩,hj⟩⟩
  ·exact absurd ⟨n,⟨r,hr,hnr⟩,fun j hj=>hx ⟨j,hj⟩⟩ (hn q k hk)
end
section
variable{rows:List (List Int)}{gs:List V}{p:Nat}
structure Bfs(rows:List (List Int))(gs:List V)(p:Nat)(line:List Nat)(dep:Nat->Nat):Prop where
 nodup:line.Nodup
 memp:p∈line
 d0:dep p=0
 walk:∀ q∈line,Walk rows gs p q (dep q)
 sorted:∀ (i j q q':Nat),i<=j->line[i]?=some q->line[j]?=some q'->dep q<=dep q'
def Done(rows:List (List Int))(gs:List V)(line:List Nat)(dep:Nat->Nat)(dn:Nat):Prop:=∀ (i q:Nat),i<dn->line[i]?=some q->∀ n q',adjN rows gs q n q'->q'∈line/\dep q'<=dep q+1
theorem Bl(rows:List (List Int))(gs:List V)(p:Nat):Bfs rows gs p [p] (fun _=>0):=by
 refine⟨by simp,by simp,rfl,fun q hq=>?_,fun i j q q' _ _ _=>zqa _⟩;simp at hq;subst hq;exact .nil
variable{line:List Nat}{dep:Nat->Nat}{dn:Nat}
theorem Bfs.reach(B:Bfs rows gs p line dep)(D:Done rows gs line dep dn)(h:Walk rows gs p q k):(q∈line/\dep q<=k)\/∃ j q',dn<=j/\line[j]?=some q'/\dep q' < k:=by
 induction h with
 | nil=>exact .inl ⟨B.memp,by rw[B.d0];exact zqa _⟩
 | @snoc q q' k n h a ih =>
   rcases ih with ⟨h1,h2⟩|⟨j,x,h1,h2,h3⟩
   ·obtain⟨i,hi,e⟩:=zrg h1;have e':line[i]?=some q:=by rw[zp5 hi,e]
    by_cases hd:i<dn
    ·obtain⟨a1,a2⟩:=D i q hd e' n q' a;exact .inl ⟨a1,by omega⟩
    ·exact .inr ⟨i,q,by omega,e',by omega⟩
   ·exact .inr ⟨j,x,h1,h2,by omega⟩
theorem Bfs.full(B:Bfs rows gs p line dep)(D:Done rows gs line dep line.length)(h:Walk rows gs p q k):q∈line/\dep q<=k:=by
 rcases B.reach D h with z|⟨j,x,h1,h2,_⟩
 ·exact z
 ·have:=(zp4.mp h2).1;omega
theorem Bfs.early(B:Bfs rows gs p line dep)(D:Done rows gs line dep dn)(hh:line[dn]?=some here)(h:Walk rows gs p q k)(hk:k<dep here):∃ i,i<dn/\line[i]?=some q:=by
 rcases B.reach D h with ⟨h1,h2⟩|⟨j,x,h1,h2,h3⟩
 ·obtain⟨i,hi,e⟩:=zrg h1;have e':line[i]?=some q:=by rw[zp5 hi,e]
  refine⟨i,?_,e'⟩;by_cases hd:i<dn
  ·exact hd
  ·have:=B.sorted dn i here q ⋯ hh e';omega
 ·have:=B.sorted dn j here x h1 hh h2;omega
theorem Bfs.fewest(B:Bfs rows gs p line dep)(D:Done rows gs line dep dn)(hh:line[dn]?=some here)(hno:∀ (i q:Nat),i<dn->line[i]?=some q->¬ V4 rows gs q)(h:Walk rows gs p q k)(hf:V4 rows gs q):dep here+1<=k+1:=by
 by_cases hk:k<dep here
 ·obtain⟨i,hi,e⟩:=B.early D hh h hk;exact absurd hf (hno i q hi e)
 ·omega
def Wz(dep:Nat->Nat)(q d:Nat):Nat->Nat:=fun x=>if x=q then d else dep x
theorem Bfs.app(B:Bfs rows gs p line dep)(hh:line[dn]?=some here)(near:∀ x∈line,dep x<=dep here+1)(a:adjN rows gs here n q')(hn:q'∉line) :
  Bfs rows gs p (line++[q']) (Wz dep q' (dep here+1))/\(∀ x∈line,Wz dep q' (dep here+1) x=dep x)/\∀ x∈line++[q'],Wz dep q' (dep here+1) x<=dep here+1:=by
 have old:∀ x∈line,Wz dep q' (dep here+1) x=dep x:=fun x hx=>by
  unfold Wz;rw[if_neg (fun (z:x=q')=>hn (by rw[<- z];exact hx))]
 have new:Wz dep q' (dep here+1) q'=dep here+1:=by unfold Wz;rw[if_pos rfl]
 have hhm:=zqf hh;have all:∀ x∈line++[q'],Wz dep q' (dep here+1) x<=dep here+1:=fun x hx=>by
  rcases zqi.mp hx with z|z
  ·rw[old x z];exact near x z
  ·rw[zp9.mp z,new];exact zqa _
 refine⟨⟨Il B.nodup hn,zqv _ B.memp,by rw[old p B.memp];exact B.d0,fun q hq=>?_,fun i j x y hij hx hy=>?_⟩,old,all⟩
 ·rcases zqi.mp hq with z|z
  ·rw[old q z];exact B.walk q z
  ·rw[zp9.mp z,new];exact .snoc (B.walk here hhm) a
 ·by_cases hj:j<line.length
  ·rw[zqw hj] at hy;rw[zqw ⋯] at hx;rw[old x (zqf hx),old y (zqf hy)];exact B.sorted i j x y hij hx hy
  ·rw[zqy ⋯] at hy;have:y=q':=by
    cases e:j-line.length with
    | zero=>rw[e] at hy;simpa using hy.symm
    | succ m=>rw[e] at hy;simp at hy
   subst this;rw[new];exact all x (zqf hx)
theorem Done.app(D:Done rows gs line dep dn)(hd:dn<=line.length)(hl:∃ r,line'=line++r)(he:∀ x∈line,dep' x=dep x):Done rows gs line' dep' dn:=fun i q hi e n q' a=>by
 obtain⟨r,rfl⟩:=hl;rw[zqw ⋯] at e;obtain⟨h1,h2⟩:=D i q hi e n q' a;exact⟨zqv _ h1,by rw[he q' h1,he q (zqf e)];exact h2⟩
def Ui(rows:List (List Int))(gs:List V)(p:Nat)(line:List Nat)(dep:Nat->Nat)(fr:Nat->Option (Nat×Int)):Prop:=fr p=none/\∀ q∈line,q≠p->∃ par n,fr q=some (par,n)/\par∈line/\adjN rows gs par n q/\dep q=dep par+1
theorem Ui.back(d0:dep p=0)(F:Ui rows gs p line dep fr):∀ (d q e:Nat) (w:Option Int) (st:List (Nat×Option Int)),dep q=d->q∈line->Ch rows gs q st e w->∃ pre,Ch rows gs p (pre++st) e w/\pre.length=d:=fun d=>by
 induction d with
 | zero =>
   intro q e w st hd hq h;by_cases hp:q=p
   ·subst hp;exact⟨[],h,rfl⟩
   ·obtain⟨par,n,_,_,_,h4⟩:=F.2 q hq hp;omega
 | succ d ih =>
   intro q e w st hd hq h;by_cases hp:q=p
   ·subst hp;rw[d0] at hd;cases hd
   ·obtain⟨par,n,h1,h2,h3,h4⟩:=F.2 q hq hp;obtain⟨pre,h5,h6⟩:=ih par e w _ ⋯ h2 (.step h3 h);exact⟨pre++[(par,some n)],by rw[List.append_assoc];exact h5,by rw[zp6,h6];rfl⟩
theorem Ez{here:Nat}{n:Int}{st:List (Nat×Option Int)}(B:Bfs rows gs p line dep)(D:Done rows gs line dep dn)(hh:line[dn]?=some here)(hno:∀ (i q:Nat),i<dn->line[i]?=some q->¬ V4 rows gs q)(hf:Qo rows gs here n)(c:Ch rows gs p st here (some n))(hl:st.length=dep here+1):Y3 rows gs p st here (some n) :=
 ⟨c,fun m e=>by cases e;exact⟨hf,fun q k hk hq=>by rw[hl];exact B.fewest D hh hno hk hq⟩,(fun z=>nomatch z)⟩
theorem E2{e:Nat}{st:List (Nat×Option Int)}(B:Bfs rows gs p line dep)(D:Done rows gs line dep line.length)(hno:∀ q∈line,¬ V4 rows gs q)(he:∀ q∈line,q<=e)(c:Ch rows gs p st e none)(hl:st.length=dep e+1):Y3 rows gs p st e none :=
 ⟨c,(fun m z=>nomatch z),fun _=>⟨fun q k hk=>hno q (B.full D hk).1,fun q k hk=>he q (B.full D hk).1,fun k hk=>by rw[hl];have:=(B.full D hk).2;omega⟩⟩
end
end G
namespace L2
open PySem PySem.Spec PyProof.Rows
inductive zer(x:V)(vs:List V)(H:Hp)(Q:VK):Prop where
 | mk(l:Addr)(xs:List V)(y:V)(j:Nat)(_:x=.ref l)(_:vs=[y])(_:H l=some (.lst xs))(_:Ts y=true)(_:xs.all Ts=true)(_:(∃ z,xs[j]?=some z/\eqV z y=true))(_:(∀ m z,m<j->xs[m]?=some z->eqV z y=false))(_:Q (.int (j:Nat)) H)
theorem zaq:MtM X "list.index" zer:=by
 intro pins s σ H x vs v us Q I rx rv h;obtain⟨l,xs,y,j,rfl,rfl,hH,fy,fs,⟨zj,hzj,hej⟩,hno,q⟩:=h;cases rx;obtain⟨u,rfl,ru⟩:=rv.one;obtain⟨z,its,n,r,hl,e⟩:=I.lstM hH;have hjx:j<xs.length:=(zp4.mp hzj).1;have hj:j<its.toArray.size:=by rw[zqe];omega
 have hline:=Qj;have ev:∀ (m:Nat) (hm:m<its.toArray.size) (w:V),xs[m]?=some w->eqU y (its.toArray[m]'hm)=eqV w y:=fun m hm w hw=>by
  obtain⟨uu,hu,ruu⟩:=r.get hw;have:its.toArray[m]'hm=uu:=by
   have h1:its[m]?=some (its.toArray[m]'hm):=by simp
   rw[h1] at hu;exact Option.some.inj hu
  rw[this];refine Ep ruu ?_;exact List.all_eq_true.mp fs w (zqf hw)
 refine call_meets PySem.F.slot_list_index ⟨_,e,rfl⟩ PySem.F.entry_list_index (PySem.F.args_list_index_2 _ _) (SeqAt.list_indexAt l its.toArray n none #[] u (eqU y) j hj ⋯ (by rw[ev j hj zj hzj];exact hej) (fun m hm hmj=>?_)) ⟨e,fun w hw=>Tt ru fy r fs w (by simpa using hw),?_⟩
 ·have hmx:m<xs.length:=by rw[zqe] at hm;omega
  have hw:xs[m]?=some (xs[m]'hmx):=zp5 hmx;rw[ev m hm _ hw];exact hno m _ hmj hw
 ·exact⟨.int (j:Nat),H,I.tok _,⟨_,rfl⟩,q⟩
end L2
namespace G
open PySem PySem.Spec PyProof.Rows L2
theorem zf7{H:Hp}{ts:List V}{st:List (Nat×Option Int)}{i:Nat}{s:Nat×Option Int}(h:Z0 H ts (st.map Vf))(e:st[i]?=some s):∃ t,ts[i]?=some (.ref t)/\H t=some (.tup (Vf s)):=by
 have e':(st.map Vf)[i]?=some (Vf s):=by rw[zqb,e];rfl
 exact h.getR e'
theorem Mc(ho:oneV z):eqV z (.int n)=true↔z=.int n:=by
 rcases ho with rfl|⟨i,rfl⟩
 ·constructor
  ·intro h;cases h
  ·intro h;cases h
 ·show (i == n)=true↔_;constructor
  ·intro h;rw[beq_iff_eq.mp h]
  ·intro h;cases h;simp
theorem zar(ho:∀ x∈gs,oneV x):inV (.int n) gs=true↔∃ j:Nat,gs[j]?=some (V.int n):=by
 unfold inV;rw[List.any_eq_true];constructor
 ·rintro⟨z,hz,e⟩;obtain⟨j,hj,rfl⟩:=zrg hz;exact⟨j,by rw[zp5 hj,(Mc (ho _ hz)).mp e]⟩
 ·rintro⟨j,hj⟩;have:=zqf hj;exact⟨_,this,(Mc (ho _ this)).mpr rfl⟩
theorem zcf(r:List Int):PyData.canLayAll0 (Yl (r.map Dt.int))=true/\PyData.depthAll (Yl (r.map Dt.int))<=1:=by
 induction r with
 | nil=>exact⟨rfl,by decide⟩
 | cons x r ih =>
   obtain⟨h1,h2⟩:=ih;refine⟨by rw[zqc,Yl,PyData.canLayAll0,h1];rfl,?_⟩;rw[zqc,Yl,PyData.depthAll];have:PyData.depth (toPy (Dt.int x))<=1:=by simp[toPy,PyData.depth]
   omega
theorem zcg(r:List Int):shD (.lst (r.map Dt.int)):=by
 obtain⟨a1,a2⟩:=zcf r;unfold shD SeqAt.shaped;rw[toPy,PyData.canLay0,a1,Bool.true_and];refine zp8 ?_;rw[PyData.depth];omega
theorem zch:shD (.lst []):=zcg []
theorem zci(f:α->Dt)(xs:List α):eqD (.lst (xs.map f)) (.lst [])=xs.isEmpty:=by
 cases xs with
 | nil=>simp[eqD,Ry]
 | cons x xs=>simp[eqD,Ry]
structure zho(rows:List (List Int))(gs:List V)(i:Nat):Prop where
 len:gs.length=i
 one:∀ x∈gs,oneV x
 may:∀ (k:Nat) (n:Int),gs[k]?=some (.int n)->∃ r,rows[k]?=some r/\n∈r
 inj:∀ (j k:Nat) (n:Int),gs[j]?=some (.int n)->gs[k]?=some (.int n)->j=k
theorem Yp.drop(F:Yp rows gs)(p:Nat):Yp rows (gs.set p .non):=by
 have cs:∀ (k:Nat) (n:Int),(gs.set p .non)[k]?=some (.int n)->k≠p/\gs[k]?=some (.int n):=fun k n h=>by
  by_cases e:k=p
  ·subst e;by_cases hk:k<gs.length
   ·rw[zq1 hk] at h;cases h
   ·rw[List.getElem?_eq_none (by rw[zrf];omega)] at h;cases h
  ·rw[zqx (Ne.symm e)] at h;exact⟨e,h⟩
 refine⟨by rw[zrf];exact F.len,fun x hx=>?_,fun k n h=>F.may k n (cs k n h).2,fun j k n h1 h2=>F.inj j k n (cs j n h1).2 (cs k n h2).2⟩;rcases List.mem_or_eq_of_mem_set hx with z|z
 ·exact F.one x z
 ·exact .inl z
theorem Yp.without(F:Yp rows gs)(hx:gs[p]?=some x)(f:Int->Bool)(hf:∀ n,f n=false->x=.int n):Yp (rows.map fun r=>r.filter f) (gs.set p .non):=by
 have D:=F.drop p;refine⟨by rw[zp3];exact D.len,D.one,fun k n h=>?_,D.inj⟩;obtain⟨r,h1,h2⟩:=D.may k n h;refine⟨r.filter f,by rw[zqb,h1];rfl,zq9.mpr ⟨h2,?_⟩⟩;cases e:f n with
 | true=>rfl
 | false =>
   have hx':=hf n e;subst hx';have hk:k≠p:=fun z=>by
    subst z;rw[zq1 (zp4.mp hx).1] at h;cases h
   rw[zqx (Ne.symm hk)] at h;exact absurd (F.inj k p n h hx) hk
def Sn(xs:List Nat):List V:=xs.map fun k=>V.int (k:Nat)
end G
namespace G
open PySem PySem.Spec PyProof.Rows L2
inductive Hi(K:Frag)(vs:List V)(H:Hp)(Q:VK)(_:XK):Prop where
 | mk(l lg:Addr)(ls:List Addr)(rows:List (List Int))(nu:List Int)(gs:List V)(p:Nat)(_:vs=[.ref l,.ref lg,.int p])(_:H l=some (.lst (ls.map V.ref)))(_:ILs H ls rows)(_:Nd rows nu)(_:H lg=some (.lst gs))(_:Yp rows gs)(_:p<rows.length)(_:gs[p]?=some .non)(_:∀ lt ts st e w H',H' lt=some (.lst ts)->Z0 H' ts (st.map Vf)->Y3 rows gs p st e w->Same H H'->H lt=none->Q (.ref lt) H')
theorem Y3.len{rows:List (List Int)}{gs:List V}{p e:Nat}{st:List (Nat×Option Int)}{w:Option Int}(FP:Yp rows gs)(hp:p<rows.length)(c:Y3 rows gs p st e w):st.length<=rows.length:=by
 have hlt:=c.ch.lt FP hp;have:=c.nodup.length_le_of_subset (l₂:=List.range rows.length) fun x hx=>by
  obtain⟨s,hs,rfl⟩:=zqh.mp hx;exact zrb.mpr (hlt s hs)
 rw[zp3,zq4] at this;exact this
end G
namespace L2
open PySem PySem.Spec PyProof.Rows
section
variable{X:Cx}{pins:List (Addr×Obj)}{σ:List (Option V)}{H H':Hp}{s:Shared}{h':Heap}
theorem Inv.turnedL{t':Nat}{fp:List Addr}(I:Inv X pins σ H s)(hf:∀ b∈fp,FpOk X pins H b)(k:∀ b o,b∉fp->s.heap.get? b=some o->h'.get? b=some o):Inv X pins σ H { s with heap:=h',toks:=t' }:=by
 have nit:∀ b u,H b=some u->b∉fp:=fun b u e z=>by rw[(hf b z).1] at e;cases e
 refine I.step (g':=s.gens) (d':=s.drawn) (ch:=fp) (fun b hb=>?_) (fun b o _ _ hc e _=>k b o hc e) (fun b o _ _ hc e _=>⟨o.slots,k b o hc e⟩) (fun _ _ _ _ n=>n)
  (fun b o hc e=>⟨o,k b o hc e⟩) (fun _ _ e=>e) (fun _ _ _ e=>e) (fun b ps e=>⟨#[],by rw[e];simp⟩) (fun m hm=>?_) (fun b u e=>?_) I.bare
 ·obtain⟨f0,f1,f2,f3,f4,f5⟩:=hf b hb;exact⟨f3,f1,f4,f5⟩
 ·obtain⟨o,es,ep,ho,r⟩:=hm;exact⟨o,es,ep,k _ o (fun z=>(hf _ z).2.1 rfl) ho,r⟩
 ·refine(I.hok b u e).stay (fun c v hc q=>k c v ?_ q) (fun _ q=>q) fun _ _ q=>q;rcases hc with z|z
  ·rw[z];exact nit b u e
  ·exact nit c _ z
theorem Inv.turnLay{t':Nat}{fp:List Addr}{a:Addr}{o:HO}(I:Inv X pins σ H s)(hf:∀ b∈fp,FpOk X pins H b)(k:∀ b o,b∉fp->s.heap.get? b=some o->h'.get? b=some o)(hp:s.heap.objs.size<=a)(new:Yh X.prog X.w (upd H a o) h' a o):Inv X pins σ (upd H a o) { s with heap:=h',toks:=t' }:=by
 have nit:∀ b u,H b=some u->b∉fp:=fun b u e z=>by rw[(hf b z).1] at e;cases e
 have hn:H a=none:=I.hok.fresh hp;have ne:∀ b u,s.heap.get? b=some u->b≠a:=fun b u e=>zqu (zqk (Heap.lt_size e) hp);refine I.step (g':=s.gens) (d':=s.drawn) (ch:=fp) (fun b hb=>?_) (fun b o _ _ hc e _=>k b o hc e) (fun b o _ _ hc e _=>⟨o.slots,k b o hc e⟩) (fun b u _ e n=>by rw[Zh (ne b u e)];exact n)
  (fun b o hc e=>⟨o,k b o hc e⟩) (fun b _ e=>by rw[Zh (Zg e hn)];exact e) (fun b _ _ e=>by rw[Zh (Zg e hn)];exact e) (fun b ps e=>⟨#[],by rw[Zh (Zg e hn),e];simp⟩) (fun m hm=>?_) (fun b u e=>?_) I.bare
 ·obtain⟨f0,f1,f2,f3,f4,f5⟩:=hf b hb;exact⟨f3,f1,f4,f5⟩
 ·obtain⟨o,es,ep,ho,r⟩:=hm;exact⟨o,es,ep,k _ o (fun z=>(hf _ z).2.1 rfl) ho,r⟩
 ·by_cases hb:b=a
  ·subst hb;rw[Zb] at e;cases e;exact new
  ·rw[Zh hb] at e;refine(I.hok b u e).stay (fun c v hc q=>k c v ?_ q) (fun c q=>by rw[Zh (Zg q hn)];exact q) fun c _ q=>by rw[Zh (Zg q hn)];exact q
   rcases hc with z|z
   ·rw[z];exact nit b u e
   ·exact nit c _ z
end
def Ite(K:Frag)(a:Addr):It :=
 ⟨fun i H=>∃ xs x,SqL K H a xs/\xs[i]?=some x,fun i H x H'=>∃ p y,H p=none/\(∀ xs,SqL K H a xs->xs[i]?=some y)/\x=.ref p/\H'=upd H p (.tup [.int (i:Nat),y]),fun i H=>∃ xs,SqL K H a xs/\xs.length<=i⟩
theorem Bm{P:Program}{w:World}{K:Frag}{elts:List Expr}{k:Nat}{tp:Pos}(a e it:Addr)(hne:e≠it):Gk P w K (.Tuple elts k tp) (Ite K a) [e,it] e (fun i h=>(∃ old,IsEnum h e it (i:Nat) old)/\h.IsListIter it a i) where
 mem:=by simp
 obj:=fun i h st b hb=>by
  obtain⟨⟨old,h1⟩,h2⟩:=st;have e:b=e\/b=it:=by simpa using hb
  rcases e with rfl|rfl
  ·exact⟨_,h1,fun v z=>by cases z⟩
  ·obtain⟨o,e,c,d⟩:=h2;exact⟨o,e,fun v z=>by rw[d] at z;cases z⟩
 keep:=fun i h h' st k=>⟨let ⟨old,h1⟩:=st.1;⟨old,k e (by simp) _ h1⟩,st.2.at fun o q=>k it (by simp) o q⟩
 item:=by
  intro X hP hw hK hc i pins s σ H E I hf st hg;subst hP hw hK;obtain⟨xs,x,hq,hx⟩:=hg;obtain⟨its,rv,p,hz⟩:=I.list hq;obtain⟨u,hu,ru⟩:=rv.get hx;obtain⟨⟨old,h1⟩,h2⟩:=st;refine wpAny_pyNext_enum_item h1 h2 p.isList (x:=u) (by simpa using hu) hne fun h' o1 o2 o3 o4 o5=>?_;refine⟨_,rfl,wpAny_letOwnedTupleGo_enum o1 fun h'' e1 sb=>?_⟩;have hes:e≠s.heap.objs.size:=fun z=>by
   exact zrh _ (z▸Heap.lt_size h1)
  have kk:∀ b o,b∉[e,it]->s.heap.get? b=some o->h''.get? b=some o:=fun b o hb q=>by
   have hb':b≠e/\b≠it:=by simpa using hb
   exact(sb.2 b hb'.1).trans (o5 b o hb'.1 hb'.2 q)
  have new:h''.get? s.heap.objs.size=some { cls:=Value.type "tuple",data:=Data.seq #[Value.int (i:Nat) s.toks,u] }:=(sb.2 _ (Ne.symm hes)).trans o3;have line:=Qj;refine⟨.ref s.heap.objs.size,_,I.turnLay (t':=s.toks+1) (o:=.tup [.int (i:Nat),x]) hf kk (zqa _) ⟨?_,_,.cons ⟨s.toks,rfl⟩ (.cons ru .nil),⟨_,new,rfl,_,rfl⟩⟩,rfl,⟨_,x,I.hok.fresh (zqa _),fun ys hy=>by rw[I.list_inj hy hq];exact hx,rfl,rfl⟩,⟨⟨u,e1⟩,o2.at fun o q=>(sb.2 it (Ne.symm hne)).trans q⟩,fun b hb=>?_⟩
  ·show 2<=sizeLine;rw[sizeLine_eq];decide
  ·have hb':b=e\/b=it:=by simpa using hb
   have hlt:b<s.heap.objs.size:=by
    rcases hb' with rfl|rfl
    ·exact Heap.lt_size h1
    ·obtain⟨o,q,_⟩:=h2;exact Heap.lt_size q
   rw[Zh (zqu hlt)];exact(hf b hb).1
 done:=by
  intro X hP hw hK hc i pins s σ H E I hf st hg;subst hP hw hK;obtain⟨xs,hq,hx⟩:=hg;obtain⟨its,rv,p,hz⟩:=I.list hq;obtain⟨⟨old,h1⟩,h2⟩:=st;have hl:=rv.length;exact wpAny_pyNext_enum_end (I.ok.hd hc) h1 h2 p.isList (by simp;omega) fun h' eb=>⟨rfl,I.turnedL (t':=s.toks) hf fun b o hb q=>eb b o (fun z=>hb (by simp[z])) q⟩
 self:=fun _ _ _ _ _ st h=>by
  obtain⟨⟨old,h1⟩,h2⟩:=st;exact wpAny_pyIter_enum h1 h
inductive zes(K:Frag)(R:It->Hp->Prop)(vs:List V)(H1:Hp):Prop where
 | mk(a)(_:vs=[.ref a])(_:(∃ xs,SqL K H1 a xs))(_:R (Ite K a) H1)
def zf8(K:Frag)(ta:TA):TI:=fun σ H R=>ta σ H fun vs H1=>zes K R vs H1
theorem zcj{X:Cx}{K:Frag}{elts:List Expr}{k:Nat}{tp:Pos}{a:Expr}{ta:TA}{p pos:Pos}(hK:X.K=K)(hg:Gl X "enumerate")(hm:X.mg "enumerate"=none)(ha:PA X [a] ta)(hs:starEach [a] X.env=[(false,eval a X.env)]:=by rfl):PI X (.Tuple elts k tp) (.Call (.Name "enumerate" p) [a] [] pos) (zf8 K ta):=by
 subst hK;intro pins s σ H R I h;refine Call_ (Qg I hg hm boot_enumerate (PyProof.Rows.callWith_type1 (thn (ha pos pins s σ H _ I h) fun us s1 ⟨vs,H1,I1,r1,q1⟩=>?_) hs rfl));obtain⟨a,e,⟨xs,hq⟩,q⟩:=q1;subst e;obtain⟨u,rfl,ru⟩:=Sm r1;cases ru;obtain⟨its,rv,pl,hz⟩:=I1.list hq;refine call_enumerate_list pl.isList fun h' e1 e2 e3 e4=>?_;refine wpAny_pyIter_enum e1 ?_;refine⟨_,[s1.heap.objs.size+1,s1.heap.objs.size],_,_,H1,rfl,I1.kept (t':=s1.toks) e4,Bm a _ _ (Nat.succ_ne_self _),⟨⟨_,e1⟩,e2⟩,fun b hb=>?_,q⟩;have e:b=s1.heap.objs.size+1\/b=s1.heap.objs.size:=by simpa using hb
 rcases e with rfl|rfl
 ·exact I1.fpOk (zrn _) (I1.hok.fresh (zrn _))
 ·exact I1.fpOk (zqa _) (I1.hok.fresh (zqa _))
theorem zas{K:Frag}{a:Addr}{xs:List V}{g:TG}{tb:TS}{D:Qf}{σ:St}{H:Hp}(Pv:Nat->St->Hp->Prop)(h0:Pv 0 σ H)(hl:∀ i σ H,i<=xs.length->Pv i σ H->SqL K H a xs)
  (hs:∀ i x p σ H,xs[i]?=some x->Pv i σ H->H p=none->g (.ref p) σ (upd H p (.tup [.int (i:Nat),x])) fun σ2 H2=>tb { D with nx:=Pv (i+1),ct:=Pv (i+1),bk:=D.nx } σ2 H2) (hd:∀ σ H,Pv xs.length σ H->D.nx σ H) :
  ∃ W:Nat->Nat->St->Hp->Prop,(∃ m,W 0 m σ H)/\∀ i m σ H,W i m σ H ->
    ((Ite K a).stop i H/\D.nx σ H)\/((Ite K a).go i H/\∃ N:St->Hp->Prop,(∀ σ' H',N σ' H'->∃ m',m' < m/\W (i+1) m' σ' H')/\∀ x H',(Ite K a).yld i H x H'->g x σ H' fun σ2 H2=>tb { D with nx:=N,ct:=N,bk:=D.nx } σ2 H2):=by
 refine⟨fun i m σ H=>m=xs.length-i/\i<=xs.length/\Pv i σ H,⟨xs.length,by simp,zqo _,h0⟩,?_⟩;rintro i m σ H ⟨rfl,hi,p⟩;have q:=hl i σ H hi p;by_cases hlt:i<xs.length
 ·refine .inr ⟨⟨xs,xs[i],q,by simp[hlt]⟩,Pv (i+1),fun σ' H' p'=>⟨xs.length-(i+1),by omega,rfl,hlt,p'⟩,fun x H' y=>?_⟩;obtain⟨t,y,h1,h2,rfl,rfl⟩:=y;exact hs i y t σ _ (h2 xs q) p h1
 ·have e:i=xs.length:=by omega
  subst e;exact .inl ⟨⟨xs,q,zqa _⟩,hd σ H p⟩
def Itz(K:Frag)(a b:Addr):It :=
 ⟨fun i H=>∃ xs ys x y,SqL K H a xs/\SqL K H b ys/\xs[i]?=some x/\ys[i]?=some y,fun i H x H'=>∃ p y z,H p=none/\(∀ xs,SqL K H a xs->xs[i]?=some y)/\(∀ ys,SqL K H b ys->ys[i]?=some z)/\x=.ref p/\H'=upd H p (.tup [y,z]),
  fun i H=>∃ xs ys,SqL K H a xs/\SqL K H b ys/\(xs.length<=i\/ys.length<=i)⟩
theorem zat{P:Program}{w:World}{K:Frag}{elts:List Expr}{k:Nat}{tp:Pos}(l1 l2 z TI TO i1 i2:Addr)(hz:ZipApart z TI TO i1 i2 l1 l2):Gk P w K (.Tuple elts k tp) (Itz K l1 l2) [z,TO,i1,i2,TI] z
  (fun i h=>IsZip h z TI TO Value.none/\IsPair h TI (Value.ref i1) (Value.ref i2)/\(∃ a b,IsPair h TO a b)/\h.IsListIter i1 l1 i/\h.IsListIter i2 l2 i) where
 mem:=by simp
 obj:=fun i h st b hb=>by
  obtain⟨h1,h2,⟨a,b',h3⟩,h4,h5⟩:=st;have e:b=z\/b=TO\/b=i1\/b=i2\/b=TI:=by simpa using hb
  rcases e with rfl|rfl|rfl|rfl|rfl
  ·exact⟨_,h1,fun v z=>by cases z⟩
  ·exact⟨_,h3,fun v z=>by cases z⟩
  ·obtain⟨o,e,c,d⟩:=h4;exact⟨o,e,fun v z=>by rw[d] at z;cases z⟩
  ·obtain⟨o,e,c,d⟩:=h5;exact⟨o,e,fun v z=>by rw[d] at z;cases z⟩
  ·exact⟨_,h2,fun v z=>by cases z⟩
 keep:=fun i h h' st k=>by
  obtain⟨h1,h2,⟨a,b',h3⟩,h4,h5⟩:=st;exact⟨k z (by simp) _ h1,k TI (by simp) _ h2,⟨a,b',k TO (by simp) _ h3⟩,h4.at fun o q=>k i1 (by simp) o q,h5.at fun o q=>k i2 (by simp) o q⟩
 item:=by
  intro X hP hw hK hc i pins s σ H E I hf st hg;subst hP hw hK;obtain⟨xs,ys,x,y,hq,hq2,hx,hy⟩:=hg;obtain⟨its,rv,p,_⟩:=I.list hq;obtain⟨its2,rv2,p2,_⟩:=I.list hq2;obtain⟨u,hu,ru⟩:=rv.get hx;obtain⟨u2,hu2,ru2⟩:=rv2.get hy;obtain⟨h1,h2,⟨a,b',h3⟩,h4,h5⟩:=id st;refine wpAny_pyNext_zip_item hz h1 h2 h3 h4 h5 p.isList p2.isList (x:=u) (y:=u2) (by simpa using hu) (by simpa using hu2) fun h' o1 o2 o3 o4 o5 o6 o7=>?_;refine⟨_,rfl,wpAny_letOwnedTupleGo_zip o1 fun h'' e1 sb=>?_⟩;have lt:∀ b o,s.heap.get? b=some o->b≠s.heap.objs.size:=fun b o q=>zqu (Heap.lt_size q);have kk:∀ b o,b∉[z,TO,i1,i2,TI]->s.heap.get? b=some o->h''.get? b=some o:=fun b o hb q=>by
   have hb':b≠z/\b≠TO/\b≠i1/\b≠i2/\b≠TI:=by simpa using hb
   exact(sb.2 b hb'.1).trans (o7 b o hb'.1 hb'.2.1 hb'.2.2.1 hb'.2.2.2.1 q)
  have new:h''.get? s.heap.objs.size=some { cls:=Value.type "tuple",data:=Data.seq #[u,u2] }:=(sb.2 _ (Ne.symm (lt _ _ h1))).trans o5;refine⟨.ref s.heap.objs.size,_,I.turnLay (t':=s.toks) (o:=.tup [x,y]) hf kk (zqa _) ⟨?_,_,.cons ru (.cons ru2 .nil),⟨_,new,rfl,_,rfl⟩⟩,rfl,⟨_,x,y,I.hok.fresh (zqa _),fun zs hy'=>by rw[I.list_inj hy' hq];exact hx,fun zs hy'=>by rw[I.list_inj hy' hq2];exact hy,rfl,rfl⟩,
   ⟨e1,(sb.2 _ hz.TIz).trans (o7 _ _ hz.TIz hz.TITO hz.TIi1 hz.TIi2 h2),⟨_,_,(sb.2 _ hz.TOz).trans o2⟩,o3.at fun o q=>(sb.2 _ hz.i1z).trans q,o4.at fun o q=>(sb.2 _ hz.i2z).trans q⟩,fun b hb=>?_⟩
  ·show 2<=sizeLine;rw[sizeLine_eq];decide
  ·have hne:b≠s.heap.objs.size:=by
    have e:b=z\/b=TO\/b=i1\/b=i2\/b=TI:=by simpa using hb
    rcases e with rfl|rfl|rfl|rfl|rfl
    ·exact lt _ _ h1
    ·exact lt _ _ h3
    ·obtain⟨o,q,_⟩:=h4;exact lt _ _ q
    ·obtain⟨o,q,_⟩:=h5;exact lt _ _ q
    ·exact lt _ _ h2
   rw[Zh hne];exact(hf b hb).1
 done:=by
  intro X hP hw hK hc i pins s σ H E I hf st hg;subst hP hw hK;obtain⟨xs,ys,hq,hq2,hx⟩:=hg;obtain⟨its,rv,p,_⟩:=I.list hq;obtain⟨its2,rv2,p2,_⟩:=I.list hq2;obtain⟨h1,h2,⟨a,b',h3⟩,h4,h5⟩:=st;have hl:=rv.length;have hl2:=rv2.length;exact wpAny_pyNext_zip_end (I.ok.hd hc) hz h1 h2 h3 h4 h5 p.isList p2.isList (hx.imp (fun z=>by simp;omega) fun z=>by simp;omega) fun h' eb=>⟨rfl,I.turnedL (t':=s.toks) hf fun b o hb q=>by
   have hb':b≠z/\b≠TO/\b≠i1/\b≠i2/\b≠TI:=by simpa using hb
   exact eb b o hb'.1 hb'.2.1 hb'.2.2.1 hb'.2.2.2.1 q⟩
 self:=fun _ _ _ _ _ st h=>wpAny_pyIter_zip st.1 h
inductive zf9(K:Frag)(R:It->Hp->Prop)(vs:List V)(H1:Hp):Prop where
 | mk(a)(b)(_:vs=[.ref a,.ref b])(_:(∃ xs,SqL K H1 a xs))(_:(∃ ys,SqL K H1 b ys))(_:R (Itz K a b) H1)
def zg9(K:Frag)(ta:TA):TI:=fun σ H R=>ta σ H fun vs H1=>zf9 K R vs H1
theorem zet{X:Cx}{K:Frag}{elts:List Expr}{k:Nat}{tp:Pos}{a b:Expr}{ta:TA}{p pos:Pos}(hK:X.K=K)(hg:Gl X "zip")(hm:X.mg "zip"=none)(ha:PA X [a,b] ta)(hs:starEach [a,b] X.env=[(false,eval a X.env),(false,eval b X.env)]:=by rfl)(hs2:starEach [b] X.env=[(false,eval b X.env)]:=by rfl):PI X (.Tuple elts k tp) (.Call (.Name "zip" p) [a,b] [] pos) (zg9 K ta):=by
 subst hK;intro pins s σ H R I h;refine Call_ (Qg I hg hm boot_zip (PyProof.Rows.callWith_type1 (thn (ha pos pins s σ H _ I h) fun us s1 ⟨vs,H1,I1,r1,q1⟩=>?_) (by rw[hs,hs2]) (by rw[hs2];rfl)));obtain⟨a,b,e,⟨xs,hq⟩,⟨ys,hq2⟩,q⟩:=q1;subst e;cases r1 with
 | cons r rr =>
   obtain⟨u,rfl,ru⟩:=Sm rr;cases r;cases ru;obtain⟨its,rv,pl,hz⟩:=I1.list hq;obtain⟨its2,rv2,pl2,hz2⟩:=I1.list hq2;have lt1:@LT.lt Nat _ a s1.heap.objs.size:=by obtain⟨_,e,_⟩:=pl.isList;exact Heap.lt_size e
   have lt2:@LT.lt Nat _ b s1.heap.objs.size:=by obtain⟨_,e,_⟩:=pl2.isList;exact Heap.lt_size e
   refine call_zip_2 pl.isList pl2.isList fun h' e1 e2 e3 e4 e5 e6 e7=>?_;refine wpAny_pyIter_zip e1 ?_;refine⟨_,[s1.heap.objs.size+4,s1.heap.objs.size+3,s1.heap.objs.size,s1.heap.objs.size+1,s1.heap.objs.size+2],_,_,H1,rfl,I1.kept (t':=s1.toks) e7,zat a b _ _ _ _ _ ?_,⟨e1,e2,⟨_,_,e3⟩,e4,e5⟩,fun c hb=>?_,q⟩
   ·refine⟨?_,?_,?_,?_,?_,?_,?_,?_,?_,?_,?_,?_,?_,?_,?_,?_,?_,?_⟩<;>(show @Ne Nat _ _;omega)
   have e:c=s1.heap.objs.size+4\/c=s1.heap.objs.size+3\/c=s1.heap.objs.size\/c=s1.heap.objs.size+1\/c=s1.heap.objs.size+2:=by simpa using hb
   have hle:s1.heap.objs.size<=c:=by rcases e with rfl|rfl|rfl|rfl|rfl<;>omega
   exact I1.fpOk hle (I1.hok.fresh hle)
section
variable{X:Cx}{pins:List (Addr×Obj)}{σ:List (Option V)}{H H':Hp}{s:Shared}{h':Heap}
theorem Inv.freeze(I:Inv X pins σ H s)(e:H a=some (.dK kvs))(ho:s.heap.get? a=some o):Inv X pins σ (upd H a (.frz o (.dK kvs))) s:=by
 have na:∀ b u,H b=some u->u≠.dK kvs->b≠a:=fun b u q n z=>by subst z;rw[q] at e;exact n (Option.some.inj e)
 refine I.un (h':=s.heap) (t':=s.toks) ⟨fun b o q _ _ _=>q,fun b o q _ _ _=>⟨o.slots,q⟩,fun b o q n _=>?_,fun b o q _=>⟨o,q⟩,fun b ys q=>?_,fun b o v q=>?_,fun b ps q=>⟨#[],?_⟩⟩ fun b u q=>?_
 ·rw[Zh (fun z=>by subst z;rw[n] at e;cases e)];exact n
 ·rw[Zh (na b _ q fun z=>nomatch z)];exact q
 ·rw[Zh (na b _ q fun z=>nomatch z)];exact q
 ·rw[Zh (na b _ q fun z=>nomatch z),q];simp
 ·have stay:∀ {b u},Yh X.prog X.w H s.heap b u->Yh X.prog X.w (upd H a (.frz o (.dK kvs))) s.heap b u:=fun {b u} k=>k.stay (fun _ _ _ q=>q) (fun c q=>by rw[Zh (na c _ q fun z=>nomatch z)];exact q) fun c _ q=>by rw[Zh (na c _ q fun z=>nomatch z)];exact q
  by_cases hb:b=a
  ·subst hb;rw[Zb] at q;cases q;exact⟨ho,stay (I.hok b _ e)⟩
  ·rw[Zh hb] at q;exact stay (I.hok b u q)
end
def Itk(a:Addr)(o:Obj)(kvs:List (Key×V)):It :=
 ⟨fun i H=>H a=some (.frz o (.dK kvs))/\i<kvs.length,fun i H x H'=>H'=H/\∃ p,kvs[i]?=some p/\x=kV p.1,fun i H=>H a=some (.frz o (.dK kvs))/\kvs.length<=i⟩
theorem zau(I:Inv X pins σ H s)(e:H a=some (.frz o (.dK kvs))):∃ vs,KV kvs vs/\∃ es ep,o.data=.dict es ep/\s.heap.DictAt (Yg X.prog X.w) a vs ep:=by
 obtain⟨h1,hz,hm,vs,kv,o',es,ep,h2,h3,h4,h5⟩:=(show Yh X.prog X.w H s.heap a (.frz o (.dK kvs)) from I.hok a _ e);rw[h1] at h2;cases h2;exact⟨vs,kv,es,ep,h4,o,es,h1,h3,h4,h5⟩
theorem Bn{P:Program}{w:World}{K:Frag}{tg:Expr}(a it:Addr)(o:Obj)(kvs:List (Key×V))(es:Array DictEntry)(ep:Nat)(ho:o.data=.dict es ep):Gk P w K tg (Itk a o kvs) [it] it (fun i h=>h.IsKeyIter it a i kvs.length ep) where
 mem:=by simp
 obj:=fun i h st b hb=>by
  have e:b=it:=by simpa using hb
  subst e;obtain⟨o,e,c,d⟩:=st;exact⟨o,e,fun v z=>by rw[d] at z;cases z⟩
 keep:=fun i h h' st k=>by
  obtain⟨o,e,c,d⟩:=st;exact⟨o,k it (by simp) o e,c,d⟩
 item:=by
  intro X hP hw hK hc i pins s σ H E I hf st hg;subst hP hw hK;obtain⟨hq,hi⟩:=hg;obtain⟨vs,kv,es',ep',h1,h2⟩:=zau I hq;rw[ho] at h1;cases h1;obtain⟨f0,f1,f2,f3,f4,f5⟩:=hf it (by simp);have hl:kvs.length=vs.length:=KV.length kv;have hv:i<vs.length:=by omega
  obtain⟨⟨k,v⟩,hkv⟩:∃ kv,vs[i]'hv=kv:=⟨_,rfl⟩;rw[hl] at st;refine wpAny_pyNext_dict_item st h2 (k:=k) (v:=v) (by rw[zp5 hv,hkv]) fun key h' hk st' sb=>?_;have I1:Inv X pins σ H { s with heap:=h' }:=I.turned (t':=s.toks) (fun b o hb e=>(sb.2 b hb).trans e) f0 f1 f3 f4 f5;obtain⟨o2,e2,c2,d2⟩:=id st';have ek:=congrArg (·[i]?) (KV.keys kv);simp only[zqb,zp5 hv,zp5 hi,hkv,zq6] at ek;refine⟨key,rfl,Ae (s:={ s with heap:=h' }) e2 c2 d2 ⋯ ⟨kV (kvs[i]'hi).1,H,I1,?_,⟨rfl,_,zp5 hi,rfl⟩,by rw[hl];exact st',fun b hb=>(hf b hb).1⟩⟩;have e3:(kvs[i]'hi).1=k:=Option.some.inj ek;rw[e3];rcases Yo hk with ⟨j,t,rfl,rfl⟩|⟨z,t,rfl,rfl⟩
  ·exact⟨t,rfl⟩
  ·exact⟨t,rfl⟩
 done:=by
  intro X hP hw hK hc i pins s σ H E I hf st hg;subst hP hw hK;obtain⟨hq,hi⟩:=hg;obtain⟨vs,kv,es',ep',h1,h2⟩:=zau I hq;rw[ho] at h1;cases h1;obtain⟨f0,f1,f2,f3,f4,f5⟩:=hf it (by simp);have hl:kvs.length=vs.length:=KV.length kv;rw[hl] at st;exact wpAny_pyNext_dict_end (I.ok.hd hc) st h2 (List.getElem?_eq_none ⋯) fun h' eb=>⟨rfl,I.turned (t':=s.toks) (fun b o hb e=>eb b o hb e) f0 f1 f3 f4 f5⟩
 self:=fun _ _ _ _ _ st h=>wpAny_pyIter_keyiter st h
inductive zeu(R:It->Hp->Prop)(x:V)(H1:Hp):Prop where
 | mk(a)(kvs)(_:x=.ref a)(_:H1 a=some (.dK kvs))(_:∀ o,R (Itk a o kvs) (upd H1 a (.frz o (.dK kvs))))
def zga(tl:TE):TI:=fun σ H R=>tl σ H fun x H1=>zeu R x H1
theorem zck{X:Cx}{tg:Expr}{l:Expr}{tl:TE}(hl:PE X l tl):PI X tg l (zga tl):=by
 intro pins s σ H R I h;refine thn (hl pins s σ H _ I h) fun v s1 ⟨x,H1,I1,r1,q1⟩=>?_;obtain⟨a,kvs,e,hq,q⟩:=q1;subst e;cases r1;obtain⟨hz,hm,vs,kv,o,es,ep,h2,h3,h4,h5⟩:=(show Yh X.prog X.w H1 s1.heap a (.dK kvs) from I1.hok a _ hq);have hl:kvs.length=vs.length:=KV.length kv;have I2:=I1.freeze hq h2;refine wpAny_pyIter_dict hm ⟨o,es,h2,h3,h4,h5⟩ ?_;refine⟨s1.heap.objs.size,[s1.heap.objs.size],_,_,_,rfl,I2.kept (t':=s1.toks) fun b o e=>Heap.get?_push_of_some _ e,Bn a _ o kvs es ep h4,⟨_,Heap.get?_push_size _ rfl,rfl,by rw[hl];rfl⟩,fun b hb=>?_,q o⟩;have e:b=s1.heap.objs.size:=by simpa using hb
 subst e;exact I2.fpOk (zqa _) (I2.hok.fresh (zqa _))
theorem zav{a:Addr}{o:Obj}{kvs:List (Key×V)}{g:TG}{tb:TS}{D:Qf}{σ:St}{H:Hp}(Pv:Nat->St->Hp->Prop)(h0:Pv 0 σ H)(hl:∀ i σ H,i<=kvs.length->Pv i σ H->H a=some (.frz o (.dK kvs)))
  (hs:∀ i k v σ H,kvs[i]?=some (k,v)->Pv i σ H->g (kV k) σ H fun σ2 H2=>tb { D with nx:=Pv (i+1),ct:=Pv (i+1),bk:=D.nx } σ2 H2) (hd:∀ σ H,Pv kvs.length σ H->D.nx σ H) :
  ∃ W:Nat->Nat->St->Hp->Prop,(∃ m,W 0 m σ H)/\∀ i m σ H,W i m σ H ->
    ((Itk a o kvs).stop i H/\D.nx σ H)\/((Itk a o kvs).go i H/\∃ N:St->Hp->Prop,(∀ σ' H',N σ' H'->∃ m',m' < m/\W (i+1) m' σ' H')/\∀ x H',(Itk a o kvs).yld i H x H'->g x σ H' fun σ2 H2=>tb { D with nx:=N,ct:=N,bk:=D.nx } σ2 H2):=by
 refine⟨fun i m σ H=>m=kvs.length-i/\i<=kvs.length/\Pv i σ H,⟨kvs.length,by simp,zqo _,h0⟩,?_⟩;rintro i m σ H ⟨rfl,hi,p⟩;have q:=hl i σ H hi p;by_cases hlt:i<kvs.length
 ·refine .inr ⟨⟨q,hlt⟩,Pv (i+1),fun σ' H' p'=>⟨kvs.length-(i+1),by omega,rfl,hlt,p'⟩,fun x H' y=>?_⟩;obtain⟨e,⟨k,v⟩,y,rfl⟩:=y;subst e;exact hs i k v σ _ y p
 ·have e:i=kvs.length:=by omega
  subst e;exact .inl ⟨⟨q,zqa _⟩,hd σ H p⟩
theorem Bo(hc:X.calm=true):Wv X (.builtin "max") (fun xs H Q=>∃ (l:Addr) (kvs:List (Key×V)) (ns:List Int),xs=[.ref l]/\Rd H l (.dK kvs)/\kvs.map (·.1)=ns.map inl/\0<ns.length/\∀ M,M∈ns->(∀ a∈ns,a<=M)->Q (.int M) H):=by
 intro pins s σ H xs us Q I r h;obtain⟨l,kvs,ns,rfl,hl,hns,hpos,q⟩:=h;obtain⟨u,rfl,ru⟩:=Sm r;cases ru;obtain⟨hz,hm,vs,kv,o,es,ep,h2,h3,h4,h5⟩:=R9 I.hok hl;have hlen:vs.length=ns.length:=by
  have e1:=KV.length kv;have e2:=congrArg List.length hns;rw[zp3,zp3] at e2;omega
 have hlt:l<s.heap.objs.size:=Heap.lt_size h2;have da:s.heap.DictAt (Yg X.prog X.w) l vs ep:=⟨o,es,h2,h3,h4,h5⟩;have val:∀ (i:Nat) (v:Value),(∃ k y,vs[i]?=some (k,y)/\(Yg X.prog X.w).is k v=true)->∃ t,v=.int (ns.getD i 0) t:=fun i v ⟨k,y,hk,hv⟩=>by
  have e1:=congrArg (·[i]?) (KV.keys kv);have e2:=congrArg (·[i]?) hns;simp only[zqb,hk,zq6] at e1 e2;rw[e1] at e2;have hi:i<ns.length:=by
   rw[<- hlen];exact(zp4.mp hk).1
  rw[zp5 hi] at e2;have e3:k=inl (ns[i]'hi):=Option.some.inj e2;have e4:ns.getD i 0=ns[i]'hi:=by rw[zqm,zp5 hi];rfl
  rw[e4];rcases Yo hv with ⟨j,t,rfl,rfl⟩|⟨z,t,rfl,rfl⟩
  ·cases e3;exact⟨t,rfl⟩
  ·cases e3
 refine call_max_walk (wpAny_pyIter_dict hm da ?_);refine⟨s.heap.objs.size,[s.heap.objs.size,l],[s.heap.objs.size],vs.length,_,_,_,rfl,Walks.dictKeys (knd:=Yg X.prog X.w) (A:=X.A.in1) (I.ok.hd hc) _ l (zqu hlt) vs ep,⟨⟨_,Heap.get?_push_size _ rfl,rfl,rfl⟩,da.push _⟩,fun b hb=>?_,by omega,CmpOf.ints_gt (fun i=>ns.getD i 0) (fun i v hv=>val i v hv),fun v h' tk hP hk=>?_⟩
 ·show b<(s.heap.push _).objs.size;rw[Heap.size_push];rcases zp7.mp hb with rfl|hb
  ·exact Nat.lt_succ_self _
  ·rcases zp7.mp hb with rfl|hb
   ·exact zrr hlt
   ·cases hb
 ·obtain⟨h1,h2⟩:=argBest_gt (fun i=>ns.getD i 0) (vs.length-1);obtain⟨t,rfl⟩:=val _ v hP;rw[hlen] at h1 h2 ⊢;generalize argBest (fun i j=>decide ((fun i=>ns.getD i 0) i>(fun i=>ns.getD i 0) j)) (ns.length-1)=b at h1 h2 ⊢;have hb:b<ns.length:=by omega
  have eg:∀ (k:Nat) (hk:k<ns.length),ns.getD k 0=ns[k]'hk:=fun k hk=>by rw[zqm,zp5 hk];rfl
  refine⟨.int (ns.getD b 0),H,I.kept fun c o e=>?_,⟨_,rfl⟩,q _ (by rw[eg b hb];exact zq7 hb) fun x hx=>?_⟩
  ·refine hk c o (fun hm=>?_) (Heap.get?_push_of_some _ e);rw[zp9.mp hm] at e;exact zrh _ (Heap.lt_size e)
  ·obtain⟨k,hk',rfl⟩:=zrg hx;have:=h2 k ⋯;show ns[k]<=_;rw[<- eg k hk'];exact this
theorem Qp(I:Nat->Shared->Prop)
  (turn:∀ (n:Nat) (s:Shared),I n s->wpAny (model prog w) A (pyNext it) (fun r s₁=>match r with
   | none=>R (.ok .next) s₁
   | some v=>wpAny (model prog w) A (letOwnedTupleGo target it v) (fun _ s₁'=>wpAny (model prog w) A (assign target env v) (fun _ s₂=>wpAny (model prog w) A (forIn ifs true fun c r=>if r=true then do let ok <- isTrue c env (eval c env);pure (ForInStep.yield ok) else pure (ForInStep.yield r)) (fun ok s₃=>if ok=true then wpAny (model prog w) A (eval elt env) (fun x s₄=>wpAny (model prog w) A (call (.builtin "list.append") [acc,x]) (fun _ s₅=>∃ m,m<n/\I m s₅) (notedBy (model prog w) A env fun e s'=>R (.error e) s') s₄) (notedBy (model prog w) A env fun e s'=>R (.error e) s') s₃ else ∃ m,m<n/\I m s₃) (notedBy (model prog w) A env fun e s'=>R (.error e) s') s₂) (notedBy (model prog w) A env fun e s'=>R (.error e) s') s₁') (notedBy (model prog w) A env fun e s'=>R (.error e) s') s₁) (notedBy (model prog w) A env fun e s'=>R (.error e) s') s)
  (n:Nat) (h:I n s):codeAny (model prog w) A (.compLoop (.ListComp elt [⟨target,iter,ifs,0⟩] scope pos) 0 it acc env) R s:=by
 refine codeAny_loop rfl I (fun n s hI=>?_) n h;refine wpAny_noted ?_;rw[compTurn_list];refine wpAny_bind (wpAny_standAt (wpAny_bind (wpAny_mono (turn n s hI) (fun r s₁ h₁=>?_) fun _ _ z=>z)));cases r with
 | none=>exact wpAny_pure h₁
 | some v =>
   refine wpAny_bind (wpAny_mono h₁ (fun _ s₁' h₂=>wpAny_bind (wpAny_mono h₂ (fun _ s₂ h₃=>wpAny_bind (wpAny_mono h₃ (fun ok s₃ h₄=>?_) fun _ _ z=>z)) fun _ _ z=>z)) fun _ _ z=>z);cases ok with
   | false =>
     simp only[zra,if_false] at h₄ ⊢;exact wpAny_pure ⟨rfl,h₄⟩
   | true =>
     simp only[if_true] at h₄ ⊢;refine wpAny_bind (wpAny_bind (wpAny_mono h₄ (fun x s₄ h₅=>wpAny_bind (wpAny_mono h₅ (fun _ s₅ h₆=>wpAny_pure (wpAny_pure ⟨rfl,h₆⟩)) fun _ _ z=>z)) fun _ _ z=>z))
def cs0(xo:List Str)(js:List Nat)(σ:St):St:=(xo.map fun _=>none)++js.map fun j=>(σ[j]?).getD none
def Ru(xo:List Str)(js:List Nat)(σ σ2:St):Prop:=∃ os:St,os.length=xo.length/\σ2=os++js.map fun j=>(σ[j]?).getD none
theorem Ru.weak(o:Ru xo js σ σ2)(I:Inv X pins σ2 H s):Inv X pins (cs0 xo js σ) H s:=by
 obtain⟨os,hl,rfl⟩:=o;refine I.weak (by unfold cs0;simp[hl]) fun i v e=>?_;unfold cs0 at e;by_cases hi:i<xo.length
 ·rw[zqw (by rw[zp3];exact hi),zqb,zp5 hi] at e;cases e
 ·rw[zqy (by rw[zp3];omega),zp3] at e;rw[zqy ⋯,hl];exact e
def E3(J:It)(xo:List Str)(js:List Nat)(g:TG)(tt:TT)(te:TE)(σ:St)(H:Hp)(Q:VK):Prop:=∃ W:Nat->Nat->List V->Hp->Prop,(∃ m,W 0 m [] H)/\∀ i m ys H,W i m ys H ->
 (J.stop i H/\ys.length<=sizeLine/\∀ p,H p=none->Q (.ref p) (upd H p (.lst ys))) \/
 (J.go i H/\ys.length<sizeLine/\∃ N:List V->Hp->Prop,(∀ ys' H',N ys' H'->∃ m',m' < m/\W (i+1) m' ys' H')/\∀ x H',J.yld i H x H'->g x (cs0 xo js σ) H' fun σ2 H1=>Ru xo js σ σ2/\tt σ2 H1 fun b H2=>if b=true then te σ2 H2 fun y H3=>N (ys++[y]) H3 else N ys H2)
def zew(wi:TI)(xo:List Str)(js:List Nat)(g:TG)(tt:TT)(te:TE):TE:=fun σ H Q=>wi σ H fun J H1=>E3 J xo js g tt te σ H1 Q
section
variable{X:Cx}{elt iter tg:Expr}{xo:List Str}{pos:Pos}{ifs:List Expr}{scope:Scope}{cl:List (Str×Addr)}{ys:List Str}{js:List Nat}{g:TG}
structure Pm(X:Cx)(xo:List Str)(scope:Scope)(cl:List (Str×Addr))(ys:List Str)(js:List Nat):Prop where
 clos:closureFor scope X.env=pure cl
 kind:scope.kind=.function
 names:∀ y∈scope.names,y.2=.local->scope.names.lookup y.1=some .local
 nocell:∀ y∈scope.names,y.2≠.cell
 at_:js.map (X.N[·]?)=ys.map some
 free:Km (fun y=>X.env.kindOf y=some .cell/\(relabel scope X.env).names.lookup y=some .cell/\cl.lookup y=X.env.cells.lookup y) ys
 only:Km (fun p=>X.env.cells.lookup p.1=some p.2) cl
 vis:∀ y∈scope.names,y.2=.free->y.1∈ys
theorem Pm.same(c:Pm X xo scope cl ys js)(h:cl.lookup y=some a):X.env.cells.lookup y=some a:=c.only.get (PySem.mem_of_lookup h)
theorem zaw(c:Pm X xo scope cl ys js)(I:Inv X pins σ H s)(hf:∀ b∈fp,FpOk X pins H b)(hex:∀ b∈fp,b<s.heap.objs.size)(hC:s.heap.objs.size<=C) :
  (Yn X pn Nc scope cl s H fp C).Ok where
 mod:=I.ok.mod
 kind:=c.kind
 glob:=I.ok.glob
 blt:=I.ok.blt
 above:=hC
 inj:=fun y z a h1 h2=>I.ok.inj y z a (c.same h1) (c.same h2)
 has:=fun y h=>by
  obtain⟨k,m,q⟩:=Pj h;rcases q with rfl|rfl
  ·exact absurd rfl (c.nocell _ m)
  ·obtain⟨a1,a2,a3⟩:=c.free.get (c.vis _ m rfl);obtain⟨a,ha⟩:=I.ok.has y (.inl a1);exact⟨a,a3.trans ha⟩
 cab:=fun _ _ h=>by cases h
 hd:=I.ok.hd
 frames:=I.ok.frames
 stk:=.inl rfl
 exf:=fun b hb=>by
  obtain⟨f0,f1,f2,f3,f4,f5⟩:=hf b hb;exact⟨zqu (zqk (hex b hb) hC),fun y a h=>f4 y a (c.same h)⟩
 bs:=I.bs
 bsz:=zqr I.ok.bsz I.sz
 noex:=fun b o q hb=>by
  obtain⟨f0,f1,f2,f3,f4,f5⟩:=hf b hb;rcases f3 with z|z
  ·exact I.ok.noex b o q z
  ·exact absurd (zqk (Heap.lt_size (I.ok.bs b o q).1) z) (zrh _)
 exfs:=fun b hb m=>by
  obtain⟨f0,f1,f2,f3,f4,f5⟩:=hf b hb;exact(zp7.mp (I.stkSub b m)).elim f1 f2
 funs:=I.stack
 frf:=I.stkFree
theorem Bp(c:Pm X xo scope cl ys js)(I:Inv X pins σ H s)(hf:∀ b∈fp,FpOk X pins H b)(hex:∀ b∈fp,b<s.heap.objs.size)(hC:s.heap.objs.size<=C)
  (hns:h1.Ns C m1) (old:∀ b o,s.heap.get? b=some o->h1.get? b=some o) :
  Inv (Yn X (X.pn++pins) (xo++ys) scope cl s H fp C) [] (cs0 xo js σ) H { s with heap:=h1,toks:=t1 }:=by
 obtain⟨m,hn,hl⟩:=I.loc;have jl:js.length=ys.length:=by have:=congrArg List.length c.at_;simpa using this
 refine⟨zaw c I hf hex hC,rfl,I.bare,Un.kept old,⟨m1,hns,fun i y v e1 e2 e3=>?_⟩,fun y a h=>?_,I.hok.fresh hC,fun y a h=>I.freeC y a (c.same h),fun p hp=>?_,I.hok.kept old,by simp[jl,Yn,cs0]⟩
 ·have e2:=e2.resolve_right (Xn _);unfold cs0 at e2;by_cases hi:i<xo.length
  ·rw[zqw (by rw[zp3];exact hi),zqb,zp5 hi] at e2;cases e2
  ·rw[zqy (by rw[zp3];omega),zp3] at e2;have e1:ys[i-xo.length]?=some y:=by
    have e1:(xo++ys)[i]?=some y:=e1;rw[zqy ⋯] at e1;exact e1
   generalize i-xo.length=k at e1 e2;rw[zqb] at e2;cases hj:js[k]? with
   | none=>rw[hj] at e2;cases e2
   | some j =>
     rw[hj] at e2;have ej:X.N[j]?=some y:=by
      have q:=congrArg (·[k]?) c.at_;simp only[zqb,hj,e1,zq6] at q;exact Option.some.inj q
     have ev:σ[j]?=some (some v):=by
      simp only[zq6,Option.some.injEq] at e2;cases hσ:σ[j]? with
      | none=>rw[hσ] at e2;cases e2
      | some o=>rw[hσ] at e2;rw[show o=some v from e2]
     obtain⟨a1,a2,a3⟩:=c.free.get (zqf e1);obtain⟨u,r,l⟩:=hl j y v ej (.inl ev) (.inr (.inl a1));refine⟨u,r,.inr ⟨.inl a2,?_⟩⟩;rcases l with ⟨k1,_⟩|⟨_,b,e,z⟩
     ·rw[a1] at k1;cases k1
     ·obtain⟨o,ho,hd⟩:=z;exact⟨b,a3.trans e,o,old _ _ ho,hd⟩
 ·obtain⟨v,o,ho,hd⟩:=I.cell y a (c.same h);exact⟨v,o,old _ _ ho,hd⟩
 ·obtain⟨e,n,ne,nf,d⟩:=I.pin p (by simpa [Yn] using hp);refine⟨old _ _ e,n,zqu (zqk (Heap.lt_size e) hC),fun m=>?_,d⟩;exact(zp7.mp (I.stkSub _ m)).elim ne nf
theorem M6{pins:List (Addr×Obj)}{σ:St}{H:Hp}{s:Shared}{tt:TT}{te:TE}{it:Addr}{fp:List Addr}{tn:Nat->Heap->Prop}{J:It}{W:Nat->Nat->List V->Hp->Prop}{m0:Nat}{Q:VK}{E:Value->Shared->Prop}{RR:Value->Addr->Result->Shared->Prop}
  (hcm:X.calm=true) (c:Pm X xo scope cl ys js) (ht:∀ pn s₀ H₀ fp C,PTs (Yn X pn (xo++ys) scope cl s₀ H₀ fp C) ifs tt) (hgt:∀ pn s₀ H₀ fp C,PG (Yn X pn (xo++ys) scope cl s₀ H₀ fp C) tg g) (he:∀ pn s₀ H₀ fp C,PE (Yn X pn (xo++ys) scope cl s₀ H₀ fp C) elt te)
  (I:Inv X pins σ H s) (T:Gk X.prog X.w X.K tg J fp it tn) (st0:tn 0 s.heap) (hf:∀ b∈fp,FpOk X pins H b) (w0:W 0 m0 [] H)
  (turn:∀ i m ys H,W i m ys H->(J.stop i H/\ys.length<=sizeLine/\∀ p,H p=none->Q (.ref p) (upd H p (.lst ys))) \/
   (J.go i H/\ys.length<sizeLine/\∃ N:List V->Hp->Prop,(∀ ys' H',N ys' H'->∃ m',m' < m/\W (i+1) m' ys' H')/\∀ x H',J.yld i H x H'->g x (cs0 xo js σ) H' fun σ2 H1=>Ru xo js σ σ2/\tt σ2 H1 fun b H2=>if b=true then te σ2 H2 fun y H3=>N (ys++[y]) H3 else N ys H2))
  (hRR:∀ D C s' m,s'.heap.Ns C m->(∀ h',Heap.SameBut C s'.heap h'->∃ H',Inv X pins σ H' { s' with heap:=h' }/\Q (.ref D) H')->(∃ H',Inv X pins σ H' s'/\Q (.ref D) H'/\H' C=none)->s.heap.objs.size<=C->RR (.ref D) C (.ok .next) s') :
  wpAny (model X.prog X.w) X.A (newList []) (fun acc s₃=>wpAny (model X.prog X.w) X.A (newFunctionEnv scope X.env.globals cl [] X.env.qual none .none (some X.env)) (fun cenv s₄ =>
   codeAny (model X.prog X.w) X.A (.compStart (.ListComp elt [⟨tg,iter,ifs,0⟩] scope pos) 0 (.ref it) acc { cenv with scope:=relabel scope X.env }) (RR acc cenv.locals) s₄) E s₃) E s:=by
 refine wpAny_newObj_type (wpAny_newFunctionEnv c.nocell (by intro y hy;simp at hy) (fun h₁ hns₁ hsb₁=>?_) c.kind);dsimp only at hns₁ hsb₁ ⊢;generalize hH2:s.heap.push { cls:=.type "list",dict:=none,data:=.seq ([]:List Value).toArray }=G at hns₁ hsb₁ ⊢;generalize hD:s.heap.objs.size=D;have hC:G.objs.size=D+1:=by rw[<- hH2,Heap.size_push,hD]
 generalize hCe:G.objs.size=C at hns₁ hsb₁ ⊢;have hCD:C=D+1:=hCe.symm.trans hC;have hDC:D≠C:=by omega
 have below:∀ b o,s.heap.get? b=some o->b<D:=fun b o e=>by rw[<- hD];exact Heap.lt_size e
 have ltC:∀ b:Addr,b<D->b≠C:=fun b h=>zqu (hCD▸zrr h);have ltD:∀ b:Addr,b<D->b≠D:=fun b h=>zqu h;have old:∀ b o,s.heap.get? b=some o->h₁.get? b=some o:=fun b o e=>hsb₁.extBut b o (ltC b (below b o e)) (Heap.get?_push_of_some _ (hH2▸Heap.get?_push_of_some _ e));have hacc:h₁.PlainList D #[]:=⟨_,hsb₁.extBut _ _ hDC (Heap.get?_push_of_some _ (by rw[<- hH2,<- hD];exact Heap.get?_push_size _ rfl))⟩;have hex:∀ b∈fp,b<s.heap.objs.size:=fun b hb=>by
  obtain⟨o,e,_⟩:=T.obj _ _ st0 b hb;exact Heap.lt_size e
 have lt0:∀ b∈fp,b<D:=fun b hb=>by rw[<- hD];exact hex b hb
 have freshD:s.heap.get? D=none:=Heap.get?_none_of_le ⋯;have freshC:s.heap.get? C=none:=Heap.get?_none_of_le ⋯;have frE:∀ {H':Hp},(∀ b∈fp,H' b=none)->∀ {o:Obj} {b:Addr},b∈fp->FpOk (Yn X (X.pn++pins) (xo++ys) scope cl s H fp C) [(D,o)] H' b:=fun {H'} hn {o b} hb=>by
  obtain⟨f0,f1,f2,f3,f4,f5⟩:=hf b hb;refine⟨hn b hb,?_,?_,.inl hb,fun y a h=>f4 y a (c.same h),fun p hp=>?_⟩
  ·exact ltC b (lt0 b hb)
  ·exact fun m=>(zp7.mp (I.stkSub b m)).elim f1 f2
  ·rcases zqi.mp hp with z|z
   ·exact f5 p z
   ·rw[zp9.mp z];exact Ne.symm (ltD b (lt0 b hb))
 have pinD:∀ {σ':St} {H':Hp} {s':Shared} {o:Obj},Inv (Yn X (X.pn++pins) (xo++ys) scope cl s H fp C) [] σ' H' s'->s'.heap.get? D=some o->(∀ v,o.data≠.cell v)->H' D=none->Inv (Yn X (X.pn++pins) (xo++ys) scope cl s H fp C) [(D,o)] σ' H' s':=fun {σ' H' s' o} Ic e nc n =>
  Ic.pins_of fun p hp=>by
   rw[zp9.mp hp];refine⟨e,n,hDC,fun m=>?_,nc⟩;obtain⟨_,ob,hob,_⟩:=I.stack.mem m;exact absurd (below D ob hob) (zrh _)
 have loop:∀ s₃:Shared,s₃={ s with heap:=h₁,toks:=s.toks+([]:List (Str×Value)).length } ->
   codeAny (model X.prog X.w) X.A (.compLoop (.ListComp elt [⟨tg,iter,ifs,0⟩] scope pos) 0 (.ref it) (.ref D) (compEnvC scope cl C X.env)) (RR (.ref D) C) s₃:=by
  rintro s₃ rfl;have I0:=Bp (t1:=s.toks+([]:List (Str×Value)).length) c I hf hex (by omega:s.heap.objs.size<=C) hns₁ old;refine Qp (fun n s'=>∃ i H' zs its,Inv (Yn X (X.pn++pins) (xo++ys) scope cl s H fp C) [] (cs0 xo js σ) H' s'/\tn i s'.heap/\(∀ b∈fp,H' b=none)/\s'.heap.PlainList D (its:List Value).toArray/\Vals zs its/\H' D=none/\W i n zs H') ?_ m0
   ⟨0,H,[],[],I0,T.keep _ _ _ st0 fun b hb o e=>old b o e,fun b hb=>(hf b hb).1,hacc,.nil,I.hok.fresh ⋯,w0⟩
  rintro n s3 ⟨i,H3,zs,its,I3,st3,fr3,⟨n3,pl3⟩,rv3,fD3,w3⟩;have I3':=pinD I3 pl3 (by intro v z;cases z) fD3;rcases turn i n zs H3 w3 with ⟨stop,hsz,fin⟩|⟨go,hsz,Nx,hNx,step⟩
  ·refine wpAny_mono (T.done (Yn X (X.pn++pins) (xo++ys) scope cl s H fp C) rfl rfl rfl hcm i _ s3 _ H3 (fun _ _=>False) I3' (fun b hb=>frE fr3 hb) st3 stop) (fun r s4 ⟨hr,I4⟩=>?_) fun _ _ z=>z.elim;subst hr;have plD:s4.heap.get? D=some _:=(I4.pin (D,{ cls:=Value.type "list",data:=.seq its.toArray n3 }) (zqq _ zqp)).1;obtain⟨m4,hn4,_⟩:=I4.loc;have okU:∀ h',(∀ b o,b≠C->s4.heap.get? b=some o->h'.get? b=some o)->Inv X pins σ (upd H3 D (.lst zs)) { s4 with heap:=h' }:=fun h' k1=>by
    have u4:Un (frs X.stack) fp H H3 s.heap s4.heap:=I4.base;have neC:∀ b o,s.heap.get? b=some o->b≠C:=fun b o e=>ltC b (below b o e);have neD:∀ b o,s.heap.get? b=some o->b≠D:=fun b o e=>ltD b (below b o e);have trD:∀ b u,H3 b=some u->b≠D:=fun b u e z=>by rw[z,fD3] at e;cases e
    have trC:∀ b u,H3 b=some u->b≠C:=fun b u e z=>by rw[z,show H3 C=none from I4.free] at e;cases e
    have un:Un (frs X.stack) fp H (upd H3 D (.lst zs)) s.heap h':=by
     refine⟨fun b o e n hb hx=>k1 b o (neC b o e) (u4.keep b o e n hb hx),fun b o e n hb hx=>?_,fun b o e n hx=>?_,fun b o e hx=>?_,fun b xs e=>?_,fun b ob u e=>?_,fun b ps e=>?_⟩
     ·obtain⟨sl,z⟩:=u4.slot b o e n hb hx;exact⟨sl,k1 b _ (neC b o e) z⟩
     ·rw[Zh (neD b o e)];exact u4.free b o e n hx
     ·obtain⟨o',z⟩:=u4.there b o e hx;exact⟨o',k1 b o' (neC b o e) z⟩
     ·have z:=u4.tups b xs e;rw[Zh (trD b _ z)];exact z
     ·have z:=u4.frzs b ob u e;rw[Zh (trD b _ z)];exact z
     ·obtain⟨more,z⟩:=u4.tbls b ps e;exact⟨more,by rw[Zh (trD b _ z)];exact z⟩
    refine I.call' (s':={ s4 with heap:=h' }) (ch:=fp) (show s4.os=s.os from I4.os) un (fun b u e=>?_) I4.bare fun b hb=>?_
    ·by_cases hb:b=D
     ·subst hb;rw[Zb] at e;cases e;exact⟨hsz,its,n3,rv3,k1 _ _ hDC plD⟩
     ·rw[Zh hb] at e;refine(I4.hok b u e).stay (fun d v hd q=>?_) (fun d q=>by rw[Zh (trD d _ q)];exact q) fun d xs q=>by rw[Zh (trD d _ q)];exact q
      rcases hd with z|z
      ·exact k1 d v (by rw[z];exact trC b u e) q
      ·exact k1 d v (trC d _ z) q
    ·obtain⟨f0,f1,f2,f3,f4,f5⟩:=hf b hb;exact⟨f3,f1,f4,f5⟩
   refine hRR D C s4 m4 hn4 (fun h' hs'=>⟨_,okU h' (fun b o hb e=>hs'.extBut b o hb e),fin D fD3⟩) ⟨_,okU s4.heap (fun _ _ _ e=>e),fin D fD3,?_⟩ ⋯
   ·rw[Zh (Ne.symm hDC)];exact I4.free
  ·refine wpAny_mono (T.item (Yn X (X.pn++pins) (xo++ys) scope cl s H fp C) rfl rfl rfl hcm i _ s3 _ H3 (fun _ _=>False) I3' (fun b hb=>frE fr3 hb) st3 go) (fun r s4 ⟨u,hr,h4⟩=>?_) fun _ _ z=>z.elim;subst hr;refine wpAny_mono h4 (fun _ s5 h5=>?_) fun _ _ z=>z.elim;obtain⟨xv,H5,I5,r5,y5,st5,fr5⟩:=h5;have I5':=I5.pinned (fun b hb=>frE fr5 hb) (T.obj _ _ st5);refine wpAny_mono (hgt _ _ _ _ _ _ s5 _ H5 xv u _ I5' r5 (step xv H5 y5)) (fun _ s6 ⟨σ6,H6,I6,own6,q6⟩=>?_) fun _ _ z=>z.elim;refine wpAny_mono (ht _ _ _ _ _ _ s6 _ H6 _ I6 q6) (fun ok s7 ⟨H7,I7,q7⟩=>?_) fun _ _ z=>z.elim;have keepF:∀ {σ8:St} {H8:Hp} {s8:Shared},Inv (Yn X (X.pn++pins) (xo++ys) scope cl s H fp C) ([(D,{ cls:=Value.type "list",data:=.seq its.toArray n3 })]++P7 fp s5.heap) σ8 H8 s8->tn (i+1) s8.heap/\(∀ b∈fp,H8 b=none)/\s8.heap.PlainList D its.toArray/\H8 D=none:=fun {σ8 H8 s8} I8=>by
    refine⟨T.keep _ _ _ st5 fun b hb o e=>(I8.pin (b,o) (zqq _ (zqq _ (T7 hb e)))).1,fun b hb=>?_,⟨n3,(I8.pin (D,_) (zqq _ zqp)).1⟩,(I8.pin (D,_) (zqq _ zqp)).2.1⟩;obtain⟨o,e,d⟩:=T.obj _ _ st5 b hb;exact(I8.pin (b,o) (zqq _ (zqq _ (T7 hb e)))).2.1
   have bare:∀ {σ8:St} {H8:Hp} {s8:Shared},Inv (Yn X (X.pn++pins) (xo++ys) scope cl s H fp C) ([(D,{ cls:=Value.type "list",data:=.seq its.toArray n3 })]++P7 fp s5.heap) σ8 H8 s8->Inv (Yn X (X.pn++pins) (xo++ys) scope cl s H fp C) [] σ8 H8 s8:=fun I8=>I8.pins_of fun _ z=>(nomatch z)
   cases ok with
   | false =>
     simp only[zra,if_false] at q7 ⊢;obtain⟨m',hm',w7⟩:=hNx _ _ q7;obtain⟨a1,a2,a3,a4⟩:=keepF I7;exact⟨m',hm',i+1,H7,zs,its,own6.weak (bare I7),a1,a2,a3,rv3,a4,w7⟩
   | true =>
     simp only[if_true] at q7 ⊢;refine wpAny_mono (he _ _ _ _ _ _ s7 _ H7 _ I7 q7) (fun y s8 ⟨yv,H8,I8,r8,q8⟩=>?_) fun _ _ z=>z.elim;obtain⟨m',hm',w8⟩:=hNx _ _ q8;obtain⟨a1,a2,a3,a4⟩:=keepF I8;have szI:its.toArray.size<=sizeLine:=by rw[zqe,<- rv3.length];omega
     refine wpAny_list_append_plain (hsz:=szI) a3 fun h9 pl9 sb9=>?_;have I8b:=own6.weak (bare I8);refine⟨m',hm',i+1,H8,zs++[yv],its++[y],?_,T.keep _ _ _ a1 fun b hb o e=>(sb9.2 b (ltD b (lt0 b hb))).trans e,a2,by rw[List.push_toArray] at pl9;exact pl9,rv3.append (.cons r8 .nil),a4,w8⟩;refine I8b.turned (t':=s8.toks) (it:=D) (fun b o hb e=>(sb9.2 b hb).trans e) a4 hDC (.inr (show s.heap.objs.size<=D by omega)) (fun y' a h=>?_) fun p hp=>?_
     ·obtain⟨v,o,ho,_⟩:=I.cell y' a (c.same h);exact ltD a (below a o ho)
     ·obtain⟨e,_⟩:=I.pin p (by simpa [Yn] using hp);exact ltD _ (below _ _ e)
 exact codeAny_compStart_list (loop _ rfl) (T.self _ 0 _ _ _ (T.keep _ _ _ st0 fun b hb o e=>old b o e) (loop _ rfl))
variable{wi:TI}{tt:TT}{te:TE}
theorem M7(hcm:X.calm=true)(c:Pm X xo scope cl ys js)(hi:PI X tg iter wi)(ht:∀ pn s₀ H₀ fp C,PTs (Yn X pn (xo++ys) scope cl s₀ H₀ fp C) ifs tt)(hgt:∀ pn s₀ H₀ fp C,PG (Yn X pn (xo++ys) scope cl s₀ H₀ fp C) tg g)(he:∀ pn s₀ H₀ fp C,PE (Yn X pn (xo++ys) scope cl s₀ H₀ fp C) elt te)
  (hs:∀ x,foldedSetIterable iter X.env x=pure x:=by intro _;rfl):PE X (.ListComp elt [⟨tg,iter,ifs,0⟩] scope pos) (zew wi xo js g tt te):=by
 intro pins s σ H Q I h;rw[eval_ListComp];refine wpAny_comprehension_free (use:=none) rfl hs c.clos c.kind c.names (thn (hi pins s σ H _ I h) fun v s1 h1=>thn h1 fun itv s2 h2=>?_);obtain⟨it,fp,tn,J,H2,e,I2,T,st2,f2,W,⟨m0,w0⟩,turn⟩:=h2;subst e;exact M6 (RR:=fun acc C=>compPost (model X.prog X.w) X.A X.xe none (EP X pins σ Q) acc C) hcm c ht hgt he I2 T st2 f2 w0 turn fun D C s' m hn hS _ _=>⟨m,hn,fun h' hs'=>let ⟨H',I',q⟩:=hS h' hs';⟨.ref D,H',I',rfl,q⟩⟩
end
end L2
namespace G
open PySem PySem.Spec PyProof.Rows L2
theorem Jn:∀ (a b:List (Nat×Option Int)) (xs:List V),Ym (a++b) xs=Ym b (Ym a xs)
 | [],_,_=>rfl
 | (p,w) :: r,b,xs=>by rw[List.cons_append,Ym,Ym,Jn r b]
structure Md(kvs:List (Key×V))(gs:List V):Prop where
 has:∀ (n:Int) (j:Nat),gs[j]?=some (.int n)->valV kvs (inl n:Key)=some (.int (j:Nat))
 not:∀ n:Int,(∀ j:Nat,gs[j]?≠some (.int n))->valV kvs (inl n:Key)=none
theorem Md.iff(t:Md kvs gs)(n:Int):(∃ j:Nat,gs[j]?=some (.int n)/\valV kvs (inl n:Key)=some (.int (j:Nat)))\/((∀ j:Nat,gs[j]?≠some (.int n))/\valV kvs (inl n:Key)=none):=by
 by_cases h:∃ j:Nat,gs[j]?=some (.int n)
 ·obtain⟨j,hj⟩:=h;exact .inl ⟨j,hj,t.has n j hj⟩
 ·have h':∀ j:Nat,gs[j]?≠some (.int n):=fun j hj=>h ⟨j,hj⟩;exact .inr ⟨h',t.not n h'⟩
inductive D8(K:Frag)(vs:List V)(H:Hp)(Q:VK)(_:XK):Prop where
 | mk(b:Addr)(gs:List V)(_:vs=[.ref b])(_:H b=some (.lst gs))(_:(∀ x∈gs,oneV x))(_:(∀ (j k:Nat) (n:Int),gs[j]?=some (.int n)->gs[k]?=some (.int n)->j=k))(_:gs.length<=100)(_:∀ d kvs H',H' d=some (.dK kvs)->Md kvs gs->Same H H'->H d=none->Q (.ref d) H')
structure Xd(H:Hp)(into:List (Key×V))(line:List Nat)(fr:Nat->Option (Nat×Int)):Prop where
 keys:into.map (·.1)=line.map fun q:Nat=>(inl (q:Int):Key)
 none:∀ q∈line,fr q=Option.none->valV into (inl (q:Int):Key)=some .non
 some:∀ q∈line,∀ par n,fr q=Option.some (par,n)->∃ t,valV into (inl (q:Int):Key)=Option.some (.ref t)/\H t=Option.some (.tup [.int (par:Nat),.int n])
theorem Xd.same(e:Same H H')(h:Xd H into line fr):Xd H' into line fr :=
 ⟨h.keys,h.none,fun q hq par n hf=>let ⟨t,a,b⟩:=h.some q hq par n hf;⟨t,a,e _ _ b⟩⟩
theorem Xd.len(h:Xd H into line fr):into.length=line.length:=by
 have:=congrArg List.length h.keys;rw[zp3,zp3] at this;exact this
theorem zax{into:List (Key×V)}{k:Key}:(valV into k).isSome=true↔k∈into.map Prod.fst:=by
 unfold valV;rw[Option.isSome_map,List.find?_isSome];constructor
 ·rintro⟨p,hp,e⟩;exact zqh.mpr ⟨p,hp,of_decide_eq_true e⟩
 ·intro h;obtain⟨p,hp,rfl⟩:=zqh.mp h;exact⟨p,hp,zp8 rfl⟩
theorem Xd.has{H:Hp}{into:List (Key×V)}{line:List Nat}{fr:Nat->Option (Nat×Int)}(h:Xd H into line fr)(q:Nat):(valV into (inl (q:Int):Key)).isSome=true↔q∈line:=by
 rw[zax,h.keys];constructor
 ·intro z;obtain⟨q',h1,h2⟩:=zqh.mp z;have:(q':Int)=q:=inl.inj h2;have:q'=q:=by omega
  rw[<- this];exact h1
 ·intro hq;exact zqh.mpr ⟨q,hq,rfl⟩
inductive zay(K:Frag)(vs:List V)(H:Hp)(Q:VK)(_:XK):Prop where
 | mk(l d:Addr)(ls:List Addr)(rows:List (List Int))(kvs:List (Key×V))(gs:List V)(p:Nat)(_:vs=[.ref l,.ref d,.int p])(_:H l=some (.lst (ls.map V.ref)))(_:ILs H ls rows)(_:rows.length<=100)(_:H d=some (.dK kvs))(_:Md kvs gs)(_:Yp rows gs)(_:p<rows.length)(_:∀ t into line dep fr H',H' t=some (.dK into)->Xd H' into line fr->Bfs rows gs p line dep->Done rows gs line dep line.length->Ui rows gs p line dep fr->(∀ q∈line,q<rows.length)->Same H H'->H t=none->Q (.ref t) H')
inductive Jo(K:Frag)(vs:List V)(H:Hp)(Q:VK)(_:XK):Prop where
 | mk(l d:Addr)(r:List Int)(kvs:List (Key×V))(_:vs=[.ref l,.ref d])(_:H l=some (.lst (r.map V.int)))(_:H d=some (.dK kvs))(_:∀ w:Option Int,(∀ n,w=some n->n∈r/\valV kvs (inl n:Key)=none)->(w=none->∀ n∈r,(valV kvs (inl n:Key)).isSome=true)->Q (oV w) H)
inductive G9(K:Frag)(vs:List V)(H:Hp)(Q:VK)(_:XK):Prop where
 | mk(t:Addr)(q p:Nat)(w:Option Int)(rows:List (List Int))(gs:List V)(into:List (Key×V))(line:List Nat)(dep:Nat->Nat)(fr:Nat->Option (Nat×Int))(_:vs=[.ref t,.int q,oV w])(_:Rd H t (.dK into))(_:Xd H into line fr)(_:Ui rows gs p line dep fr)(_:dep p=0)(_:p∈line)(_:q∈line)(_:dep q<=100)(_:∀ lt ts st H',H' lt=some (.lst ts)->Z0 H' ts (st.map Vf)->Ch rows gs p st q w->st.length=dep q+1->Same H H'->H lt=none->Q (.ref lt) H')
section
variable{rows:List (List Int)}{gs:List V}{p:Nat}{line:List Nat}{dep:Nat->Nat}{fr:Nat->Option (Nat×Int)}{H H':Hp}{into:List (Key×V)}
def Nf(fr:Nat->Option (Nat×Int))(q:Nat)(x:Nat×Int):Nat->Option (Nat×Int):=fun y=>if y=q then some x else fr y
theorem Qq:Nf fr q x q=some x:=by unfold Nf;rw[if_pos rfl]
theorem Pn(h:y≠q):Nf fr q x y=fr y:=by unfold Nf;rw[if_neg h]
theorem Ui.app(F:Ui rows gs p line dep fr)(hn:q'∉line)(hp:p∈line)(hh:here∈line)(a:adjN rows gs here n q'):Ui rows gs p (line++[q']) (Wz dep q' (dep here+1)) (Nf fr q' (here,n)):=by
 have ne:∀ x∈line,x≠q':=fun x hx z=>hn (by rw[<- z];exact hx);have old:∀ x∈line,Wz dep q' (dep here+1) x=dep x:=fun x hx=>by unfold Wz;rw[if_neg (ne x hx)]
 have new:Wz dep q' (dep here+1) q'=dep here+1:=by unfold Wz;rw[if_pos rfl]
 refine⟨by rw[Pn (ne p hp)];exact F.1,fun q hq hqp=>?_⟩;rcases zqi.mp hq with z|z
 ·obtain⟨par,m,h1,h2,h3,h4⟩:=F.2 q z hqp;exact⟨par,m,by rw[Pn (ne q z)];exact h1,zqv _ h2,h3,by rw[old q z,old par h2];exact h4⟩
 ·rw[zp9.mp z];exact⟨here,n,Qq,zqv _ hh,a,by rw[new,old here hh]⟩
theorem Xd.mono(e:∀ t xs,H t=Option.some (.tup xs)->H' t=Option.some (.tup xs))(h:Xd H into line fr):Xd H' into line fr :=
 ⟨h.keys,h.none,fun q hq par n hf=>let ⟨t,a,b⟩:=h.some q hq par n hf;⟨t,a,e _ _ b⟩⟩
theorem Xd.app(I:Xd H into line fr)(hn:q'∉line)(ht:H t=Option.some (.tup [.int (here:Nat),.int n])):Xd H (putK into (inl (q':Int)) (.ref t)) (line++[q']) (Nf fr q' (here,n)):=by
 have ne:∀ x∈line,x≠q':=fun x hx z=>hn (by rw[<- z];exact hx);have hv:valV into (inl (q':Int):Key)=Option.none:=by
  cases e:valV into (inl (q':Int):Key) with
  | none=>rfl
  | some y=>exact absurd ((I.has q').mp (by rw[e];rfl)) hn
 have val:∀ x∈line,valV (putK into (inl (q':Int)) (.ref t)) (inl (x:Int):Key)=valV into (inl (x:Int):Key):=fun x hx=>by
  rw[Tq,if_neg (fun z=>ne x hx (by have:=inl.inj z;omega))]
 have valn:valV (putK into (inl (q':Int)) (.ref t)) (inl (q':Int):Key)=Option.some (.ref t):=by rw[Tq,if_pos rfl]
 refine⟨?_,fun q hq hf=>?_,fun q hq par m hf=>?_⟩
 ·rw[As _ hv,zqg,zqg,I.keys];rfl
 ·rcases zqi.mp hq with z|z
  ·rw[Pn (ne q z)] at hf;rw[val q z];exact I.none q z hf
  ·rw[zp9.mp z,Qq] at hf;cases hf
 ·rcases zqi.mp hq with z|z
  ·rw[Pn (ne q z)] at hf;rw[val q z];exact I.some q z par m hf
  ·rw[zp9.mp z,Qq] at hf;cases hf;rw[zp9.mp z];exact⟨t,valn,ht⟩
theorem E4(H:Hp)(p:Nat):Xd H [((inl (p:Int):Key),V.non)] [p] (fun _=>none) :=
 ⟨rfl,fun q hq _=>by rw[zp9.mp hq];exact Yu rfl,fun q _ par n hf=>nomatch hf⟩
theorem E5:Ui rows gs p [p] (fun _=>0) (fun _=>none):=⟨rfl,fun q hq hne=>absurd (zp9.mp hq) hne⟩
end
section
variable{rows:List (List Int)}{gs:List V}
theorem Ch.somes{q e:Nat}{st:List (Nat×Option Int)}{w:Option Int}(h:Ch rows gs q st e w):w≠none->∀ s∈st,s.2≠none:=by
 induction h with
 | one q w=>intro hw s hs;simp at hs;subst hs;exact hw
 | step a h ih =>
   intro hw s hs;rcases zp7.mp hs with rfl|z
   ·exact fun z=>nomatch z
   ·exact ih hw s z
theorem Ch.near{q e:Nat}{st:List (Nat×Option Int)}{w:Option Int}(h:Ch rows gs q st e w):∀ s∈st,s.1=q\/∃ m,gs[s.1]?=some (V.int m):=by
 induction h with
 | one q w=>intro s hs;simp at hs;subst hs;exact .inl rfl
 | @step q q' e n st w a h ih =>
   intro s hs;rcases zp7.mp hs with rfl|z
   ·exact .inl rfl
   ·rcases ih s z with z|z
    ·exact .inr ⟨n,by rw[z];exact a.2⟩
    ·exact .inr z
theorem Ch.single{q e:Nat}{st:List (Nat×Option Int)}{w:Option Int}(h:Ch rows gs q st e w)(hl:st.length<=1):st=[(q,w)]/\e=q:=by
 cases h with
 | one=>exact⟨rfl,rfl⟩
 | step a h=>have:=h.pos;rw[zqs] at hl;omega
structure V5(rows:List (List Int))(gs:List V)(i:Nat):Prop where
 fill:Yp rows gs
 ahead:∀ q n,gs[q]?=some (V.int n)->q<i
 stuck:∀ p,p<i->gs[p]?=some .non->Rt rows gs p
theorem V5.non(F:V5 rows gs i)(hk:i<=k)(hr:k<rows.length):gs[k]?=some .non:=by
 have hl:k<gs.length:=by rw[F.fill.len];exact hr
 have e:=zp5 hl;rcases F.fill.one _ (zq7 hl) with z|⟨n,z⟩
 ·rw[e,z]
 ·rw[z] at e;have:=F.ahead k n e;omega
theorem V5.step{i e:Nat}{st:List (Nat×Option Int)}{w:Option Int}(F:V5 rows gs i)(hi:i<rows.length)(c:Y3 rows gs i st e w):V5 rows (Ym st gs) (i+1):=by
 have hnon:=F.non (zqa i) hi;cases w with
 | none =>
   obtain⟨h1,h2,h3⟩:=c.none rfl;have hei:e=i:=by
    have hge:=h2 i 0 .nil;rcases(show e=i\/∃ m,gs[e]?=some (V.int m) by
     obtain⟨s,hs,rfl⟩:=zqh.mp c.ch.last;exact c.ch.near s hs) with z|⟨m,z⟩
    ·exact z
    ·have:=F.ahead e m z;omega
   have hst:st=[(i,none)]:=(c.ch.single (by have:=h3 0 (hei▸.nil);omega)).1;have hl:i<gs.length:=by rw[F.fill.len];exact hi
   have same:Ym st gs=gs:=by
    rw[hst];show gs.set i .non=gs;refine List.ext_getElem? fun k=>?_;by_cases hk:i=k
    ·subst hk;rw[zq1 hl,hnon]
    ·rw[zqx hk]
   rw[same];refine⟨F.fill,fun q n hq=>zrr (F.ahead q n hq),fun p hp hpn=>?_⟩;by_cases hpi:p=i
   ·subst hpi;exact zap F.fill hi F.ahead h1
   ·exact F.stuck p ⋯ hpn
 | some n0 =>
   obtain⟨hf,_⟩:=c.free n0 rfl;have nd:=c.nodup;have FP':=c.fill F.fill hi;have at_:∀ k,k<gs.length->(k∉st.map (·.1)/\(Ym st gs)[k]?=gs[k]?)\/∃ w,(k,w)∈st/\(Ym st gs)[k]?=some (oV w):=fun k hk=>X3 nd hk;have lt:∀ {k:Nat} {v:V},(Ym st gs)[k]?=some v->k<gs.length:=fun {k v} hk=>by
    have:=(zp4.mp hk).1;rw[Xp] at this;exact this
   refine⟨FP',fun q n hq=>?_,fun p hp hpn=>?_⟩
   ·rcases at_ q (lt hq) with ⟨_,h2⟩|⟨w',h1,_⟩
    ·rw[h2] at hq;exact zrr (F.ahead q n hq)
    ·rcases c.ch.near _ h1 with z|⟨m,z⟩
     ·have:q=i:=z;omega
     ·exact zrr (F.ahead q m z)
   ·rcases at_ p (lt hpn) with ⟨h1,h2⟩|⟨w',h1,h2⟩
    ·rw[h2] at hpn;have hpi:p≠i:=fun z=>by
      obtain⟨x,r,e⟩:=c.ch.hd;exact h1 (by rw[z,e];simp)
     exact(F.stuck p ⋯ hpn).behind F.fill c.ch hf hi nd
    ·have:=c.ch.somes (by simp) _ h1;rw[h2] at hpn;cases w' with
     | none=>exact absurd rfl this
     | some m=>cases hpn
theorem Ko(rows:List (List Int)):V5 rows (rows.map fun _=>V.non) 0:=by
 have h0:∀ (k:Nat) (n:Int),(rows.map fun _=>V.non)[k]?≠some (V.int n):=fun k n h=>by
  rw[zqb] at h;cases e:rows[k]? with
  | none=>rw[e] at h;cases h
  | some r=>rw[e] at h;cases h
 exact⟨⟨by rw[zp3],fun x hx=>by obtain⟨_,_,rfl⟩:=zqh.mp hx;exact .inl rfl,fun k n h=>absurd h (h0 k n),fun j k n h=>absurd h (h0 j n)⟩,fun q n h=>absurd h (h0 q n),fun p hp=>absurd hp (zrw _)⟩
theorem V5.last(F:V5 rows gs rows.length):Vh rows gs:=fun p hp=>F.stuck p (by have:=(zp4.mp hp).1;rw[F.fill.len] at this;exact this) hp
end
end G
namespace G
open PySem PySem.Spec PyProof.Rows L2
section
variable{rows:List (List Int)}{gs:List V}
theorem Ch.pred{q e:Nat}{st:List (Nat×Option Int)}{w:Option Int}(h:Ch rows gs q st e w):∀ q'∈st.map (·.1),q'=q\/∃ q0 n,(q0,some n)∈st/\gs[q']?=some (V.int n):=by
 induction h with
 | one q w=>intro q' hq;simp at hq;exact .inl hq
 | @step q q1 e n st w a h ih =>
   intro q' hq;rw[zqc] at hq;rcases zp7.mp hq with z|z
   ·exact .inl z
   ·rcases ih q' z with z|⟨q0,m,h1,h2⟩
    ·exact .inr ⟨q,n,zqp,by rw[z];exact a.2⟩
    ·exact .inr ⟨q0,m,zql _ h1,h2⟩
theorem Ch.reach{q e:Nat}{st:List (Nat×Option Int)}{w:Option Int}(h:Ch rows gs q st e w):∀ q'∈st.map (·.1),∃ k,Walk rows gs q q' k:=by
 induction h with
 | one q w=>intro q' hq;simp at hq;rw[hq];exact⟨0,.nil⟩
 | @step q q1 e n st w a h ih =>
   intro q' hq;rw[zqc] at hq;rcases zp7.mp hq with z|z
   ·rw[z];exact⟨0,.nil⟩
   ·obtain⟨k,hk⟩:=ih q' z;exact⟨k+1,.cons a hk⟩
theorem Ch.noneLast{q e:Nat}{st:List (Nat×Option Int)}{w:Option Int}(h:Ch rows gs q st e w):∀ k,(k,none)∈st->k=e/\w=none:=by
 induction h with
 | one q w=>intro k hk;simp at hk;exact⟨hk.1,hk.2.symm⟩
 | @step q q1 e n st w a h ih =>
   intro k hk;rcases zp7.mp hk with z|z
   ·cases z
   ·exact ih k z
theorem Ch.along{R:Nat->Prop}(hs:∀ q n q',adjN rows gs q n q'->R q->R q'){q e:Nat}{st:List (Nat×Option Int)}{w:Option Int}(h:Ch rows gs q st e w):R q->R e:=by
 induction h with
 | one q w=>exact fun z=>z
 | step a h ih=>exact fun z=>ih (hs _ _ _ a z)
theorem Ch.lastMem{q e:Nat}{st:List (Nat×Option Int)}{w:Option Int}(h:Ch rows gs q st e w):(e,w)∈st:=by
 induction h with
 | one q w=>simp
 | step a h ih=>exact zql _ ih
theorem zaz{st:List (Nat×Option Int)}(nd:(st.map (·.1)).Nodup){k:Nat}{w w':Option Int}(h:(k,w)∈st)(h':(k,w')∈st):w=w':=by
 induction st with
 | nil=>cases h
 | cons s r ih =>
   rw[zqc,zqt] at nd;rcases zp7.mp h with z|z<;>rcases zp7.mp h' with z'|z'
   ·rw[<- z] at z';exact(Prod.mk.inj z').2.symm
   ·exact absurd (zqh.mpr ⟨_,z',by rw[<- z]⟩) nd.1
   ·exact absurd (zqh.mpr ⟨_,z,by rw[<- z']⟩) nd.1
   ·exact ih nd.2 z z'
theorem zcl{st:List (Nat×Option Int)}{xs:List V}(nd:(st.map (·.1)).Nodup){k:Nat}{w:Option Int}(h:(k,w)∈st)(hk:k<xs.length):(Ym st xs)[k]?=some (oV w):=by
 rcases X3 nd hk with ⟨h1,_⟩|⟨w',h1,h2⟩
 ·exact absurd (zqh.mpr ⟨_,h,rfl⟩) h1
 ·rw[h2,zaz nd h1 h]
theorem Ch.moved{p e:Nat}{st:List (Nat×Option Int)}{w:Option Int}(FP:Yp rows gs)(h:Ch rows gs p st e w)(hp:p<rows.length)(hn:gs[p]?=some .non)(nd:(st.map (·.1)).Nodup){q':Nat}{n:Int}(hq:gs[q']?=some (V.int n)) :
  (q'∉st.map (·.1)/\(Ym st gs)[q']?=some (V.int n))\/∃ q0,(q0,some n)∈st/\(Ym st gs)[q0]?=some (V.int n):=by
 have hl:q' < gs.length:=(zp4.mp hq).1;by_cases hm:q'∈st.map (·.1)
 ·rcases h.pred q' hm with z|⟨q0,m,h1,h2⟩
  ·rw[z,hn] at hq;cases hq
  ·rw[hq] at h2;cases h2;refine .inr ⟨q0,h1,?_⟩;have:=h.lt FP hp _ h1;exact zcl nd h1 (by rw[FP.len];exact this)
 ·rcases X3 nd hl with ⟨_,h2⟩|⟨w',h1,_⟩
  ·exact .inl ⟨hm,by rw[h2];exact hq⟩
  ·exact absurd (zqh.mpr ⟨_,h1,rfl⟩) hm
end
section
variable{rows:List (List Int)}{gs:List V}{p e:Nat}{x:Int}{st:List (Nat×Option Int)}{w:Option Int}
def without(rows:List (List Int))(x:Int):List (List Int):=rows.map fun r=>r.filter fun n=>decide (n≠x)
theorem U4{q:Nat}{r':List Int}(h:(without rows x)[q]?=some r'):∃ r,rows[q]?=some r/\∀ n∈r',n∈r/\n≠x:=by
 unfold without at h;rw[zqb] at h;cases e:rows[q]? with
 | none=>rw[e] at h;cases h
 | some r =>
   rw[e] at h;cases h;exact⟨r,rfl,fun n hn=>⟨(zq9.mp hn).1,of_decide_eq_true (zq9.mp hn).2⟩⟩
theorem V6(FP:Yp rows gs)(hx:gs[p]?=some (.int x)):Yp (without rows x) (gs.set p .non):=FP.without hx _ fun n hn=>by
 have:=of_decide_eq_false hn;rw[Classical.not_not.mp this]
theorem za0(hx:gs[p]?=some (.int x)):(gs.set p V.non)[p]?=some .non:=by rw[zq1 (zp4.mp hx).1]
theorem D9(hx:gs[p]?=some (.int x))(h:(gs.set p V.non)[q]?=some (.int n)):gs[q]?=some (.int n)/\q≠p:=by
 by_cases e:p=q
 ·subst e;rw[za0 hx] at h;cases h
 ·rw[zqx e] at h;exact⟨h,Ne.symm e⟩
theorem Po{q:Nat}{n:Int}(hx:gs[p]?=some (.int x))(h:gs[q]?=some (.int n))(hn:n≠x):(gs.set p V.non)[q]?=some (.int n):=by
 rw[zqx (fun z=>by subst z;rw[hx] at h;cases h;exact hn rfl)];exact h
theorem Fb(FP:Yp rows gs)(SP:Vh rows gs)(hx:gs[p]?=some (.int x))(C:Y3 (without rows x) (gs.set p .non) p st e w):Vh (without rows x) (Ym st (gs.set p .non)):=by
 have FP0:=V6 FP hx;have hRl:(without rows x).length=rows.length:=by unfold without;rw[zp3]
 have hp:p<rows.length:=by have:=(zp4.mp hx).1;rw[FP.len] at this;exact this
 have hp0:p<(without rows x).length:=by rw[hRl];exact hp
 have nd:=C.nodup;have hpm:p∈st.map (·.1):=by obtain⟨y,r,e'⟩:=C.ch.hd;rw[e'];simp
 have moved:=fun {q':Nat} {n:Int} (hq:(gs.set p V.non)[q']?=some (V.int n))=>C.ch.moved FP0 hp0 (za0 hx) nd hq;have closedT:w=none->∀ q,(∃ k,Walk (without rows x) (gs.set p .non) p q k)->q<(without rows x).length/\∀ r,(without rows x)[q]?=some r->∀ n∈r,∃ q2,q2<e/\(Ym st (gs.set p .non))[q2]?=some (.int n)/\∃ k,Walk (without rows x) (gs.set p .non) p q2 k:=by
  rintro hw q ⟨k,hk⟩;obtain⟨c1,c2,c3⟩:=C.none hw;refine⟨?_,fun r hr n hn=>?_⟩
  ·cases hk with
   | nil=>exact hp0
   | snoc _ a =>
     have:=(zp4.mp a.2).1;rw[FP0.len] at this;exact this
  ·by_cases hf:∃ j:Nat,(gs.set p V.non)[j]?=some (V.int n)
   ·obtain⟨q1,hq1⟩:=hf;have w1:Walk (without rows x) (gs.set p .non) p q1 (k+1):=.snoc hk ⟨⟨r,hr,hn⟩,hq1⟩;rcases moved hq1 with ⟨m1,m2⟩|⟨q0,m1,m2⟩
    ·refine⟨q1,?_,m2,_,w1⟩;have:=c2 q1 _ w1;have hne:q1≠e:=fun z=>m1 (by rw[z];exact C.ch.last);omega
    ·obtain⟨k0,hk0⟩:=C.ch.reach q0 (zqh.mpr ⟨_,m1,rfl⟩);refine⟨q0,?_,m2,k0,hk0⟩;have:=c2 q0 _ hk0;have hne:q0≠e:=fun z=>by
      have hl:=C.ch.lastMem;rw[z] at m1;rw[hw] at hl;have:=zaz nd m1 hl;cases this
     omega
   ·exact absurd ⟨n,⟨r,hr,hn⟩,fun j hj=>hf ⟨j,hj⟩⟩ (c1 q k hk)
 intro p0 hpn;have hl0:p0<(gs.set p V.non).length:=by have:=(zp4.mp hpn).1;rw[Xp] at this;exact this
 rcases X3 nd hl0 with ⟨a1,a2⟩|⟨w',a1,a2⟩
 ·rw[a2] at hpn;have hpp:p≠p0:=fun z=>a1 (by rw[<- z];exact hpm);rw[zqx hpp] at hpn;obtain⟨S0,hS,cl⟩:=SP p0 hpn;have inS:∀ q k,Walk rows gs p0 q k->S0 q:=fun q k hk=>by
   induction hk with
   | nil=>exact hS
   | @snoc q q' k n h a ih =>
     obtain⟨r,h1,h2⟩:=a.1;obtain⟨q'',_,h3,h4⟩:=(cl q ih).2 r h1 n h2;rw[<- FP.inj q'' q' n h3 a.2];exact h4
  have closed0:∀ q,(∃ k,Walk rows gs p0 q k)->q<rows.length/\∀ r,rows[q]?=some r->∀ n∈r,∃ q',q' < p0/\gs[q']?=some (.int n)/\∃ k,Walk rows gs p0 q' k:=by
   rintro q ⟨k,hk⟩;refine⟨(cl q (inS q k hk)).1,fun r hr n hn=>?_⟩;obtain⟨q',h1,h2,_⟩:=(cl q (inS q k hk)).2 r hr n hn;exact⟨q',h1,h2,k+1,.snoc hk ⟨⟨r,hr,hn⟩,h2⟩⟩
  have lt0:∀ q,(∃ k,Walk rows gs p0 q k)->q=p0\/q<p0:=by
   rintro q ⟨k,hk⟩;cases hk with
   | nil=>exact .inl rfl
   | @snoc q1 _ k n h a =>
     obtain⟨r,h1,h2⟩:=a.1;obtain⟨q',h3,h4,_⟩:=(closed0 q1 ⟨k,h⟩).2 r h1 n h2;rw[<- FP.inj q' q n h4 a.2];exact .inr h3
  have along:∀ {q:Nat} {st':List (Nat×Option Int)} {w':Option Int},Ch (without rows x) (gs.set p .non) q st' e w'->(∃ k,Walk rows gs p0 q k)->∃ k,Walk rows gs p0 e k:=fun {q st' w'} hc =>
   hc.along (R:=fun q=>∃ k,Walk rows gs p0 q k) fun q n q' a ⟨k,hk⟩=>by
    obtain⟨r',h1,h2⟩:=a.1;obtain⟨r,h3,h4⟩:=U4 h1;exact⟨k+1,.snoc hk ⟨⟨r,h3,(h4 n h2).1⟩,(D9 hx a.2).1⟩⟩
  by_cases hpath:∃ q∈st.map (·.1),∃ k,Walk rows gs p0 q k
  ·obtain⟨q1,hq1,hk1⟩:=hpath;obtain⟨st',c1,_⟩:=C.ch.drop q1 hq1;have hRe:=along c1 hk1;cases hw:w with
   | some n0 =>
     obtain⟨⟨r',f1,f2⟩,f3⟩:=(C.free n0 hw).1;obtain⟨r,g1,g2⟩:=U4 f1;obtain⟨q',_,h2,_⟩:=(closed0 e hRe).2 r g1 n0 (g2 n0 f2).1;exact absurd (Po hx h2 (g2 n0 f2).2) (f3 q')
   | none =>
     have clT:=closedT hw;obtain⟨_,cmax,_⟩:=C.none hw;have hep:e<p0:=by
      have hfe:∃ m,gs[e]?=some (V.int m):=by
       obtain⟨s,hs,hse⟩:=zqh.mp C.ch.last;rcases C.ch.near s hs with z|⟨m,z⟩
       ·rw[<- hse,z];exact⟨x,hx⟩
       ·rw[hse] at z;exact⟨m,(D9 hx z).1⟩
      obtain⟨m,hm⟩:=hfe;rcases lt0 e hRe with z|z
      ·rw[z,hpn] at hm;cases hm
      ·exact z
     refine⟨fun q=>(∃ k,Walk rows gs p0 q k)\/∃ k,Walk (without rows x) (gs.set p .non) p q k,.inl ⟨0,.nil⟩,fun q hq=>?_⟩;rcases hq with hq|hq
     ·refine⟨by rw[hRl];exact(closed0 q hq).1,fun r' hr' n hn=>?_⟩;obtain⟨r,g1,g2⟩:=U4 hr';obtain⟨q',h1,h2,h3⟩:=(closed0 q hq).2 r g1 n (g2 n hn).1;rcases moved (Po hx h2 (g2 n hn).2) with ⟨_,m2⟩|⟨q0,m1,m2⟩
      ·exact⟨q',h1,m2,.inl h3⟩
      ·obtain⟨k0,hk0⟩:=C.ch.reach q0 (zqh.mpr ⟨_,m1,rfl⟩);have:=cmax q0 k0 hk0;exact⟨q0,by omega,m2,.inr ⟨k0,hk0⟩⟩
     ·obtain⟨t1,t2⟩:=clT q hq;refine⟨t1,fun r hr n hn=>?_⟩;obtain⟨q2,h1,h2,h3⟩:=t2 r hr n hn;exact⟨q2,by omega,h2,.inr h3⟩
  ·refine⟨fun q=>∃ k,Walk rows gs p0 q k,⟨0,.nil⟩,fun q hq=>⟨by rw[hRl];exact(closed0 q hq).1,fun r' hr' n hn=>?_⟩⟩;obtain⟨r,g1,g2⟩:=U4 hr';obtain⟨q',h1,h2,h3⟩:=(closed0 q hq).2 r g1 n (g2 n hn).1;rcases moved (Po hx h2 (g2 n hn).2) with ⟨_,m2⟩|⟨q0,m1,m2⟩
   ·exact⟨q',h1,m2,h3⟩
   ·rcases X3 nd (show q' < (gs.set p V.non).length from(zp4.mp (Po hx h2 (g2 n hn).2)).1) with ⟨_,b2⟩|⟨w2,b1,_⟩
    ·exact⟨q',h1,by rw[b2];exact Po hx h2 (g2 n hn).2,h3⟩
    ·exact absurd ⟨q',zqh.mpr ⟨_,b1,rfl⟩,h3⟩ hpath
 ·rw[a2] at hpn;cases w' with
  | some n=>cases hpn
  | none =>
    obtain⟨b1,b2⟩:=C.ch.noneLast p0 a1;subst b1;exact⟨_,⟨0+(C.ch.reach p0 (zqh.mpr ⟨_,a1,rfl⟩)).choose,by rw[Nat.zero_add];exact(C.ch.reach p0 (zqh.mpr ⟨_,a1,rfl⟩)).choose_spec⟩,closedT b2⟩
end
end G
namespace L2
open PySem PySem.Spec PyProof.Rows
section
variable{prog:Program}{w:World}{A:Around}{E:Value->Shared->Prop}{s:Shared}{T:String}{r d:Addr}{n:Nat}{P:Nat->Value->Prop}{OK:Heap->Prop}
open PySem.W in
end
end L2
namespace G
open PySem PySem.Spec PyProof.Rows L2
section
variable{rows:List (List Int)}{gs:List V}
structure zha(rows:List (List Int))(gs:List V)(ps:List Nat)(rs:List Int):Prop where
 up:ps.Pairwise (· < ·)
 lt:∀ p∈ps,p<rows.length
 rup:rs.Pairwise (· < ·)
 all:∀ n,n∈rs↔∃ p∈ps,∃ r,rows[p]?=some r/\n∈r
 cnt:ps.length=rs.length+(zdb gs).length
 nil:zdb gs=[]->ps=[]
 gap:∀ p,gs[p]?=some .non->p∈ps
 has:∀ n∈rs,∃ p∈ps,gs[p]?=some (.int n)
def zgb(x:Option V):Option Int:=match x with|some (.int n)=>some n|_=>none
end
section
variable{rows:List (List Int)}{gs:List V}{p:Nat}{line:List Nat}{dep:Nat->Nat}{fr:Nat->Option (Nat×Int)}
def byV(x:Option (Nat×Int)):V:=match x with|none=>.non|some y=>.int (y.1:Nat)
structure zhp(by_:List (Key×V))(line:List Nat)(fr:Nat->Option (Nat×Int)):Prop where
 keys:by_.map (·.1)=line.map fun q:Nat=>(inl (q:Int):Key)
 val:∀ q∈line,valV by_ (inl (q:Int):Key)=some (byV (fr q))
structure zhq(rows:List (List Int))(gs:List V)(dep:Nat->Nat)(q:Nat)(x:Int)(tl:List (Nat×Option Int))(e:Nat)(n:Int):Prop where
 ch:Ch rows gs q ((q,some x) :: tl) e (some n)
 nd:(((q,some x) :: tl).map (·.1)).Nodup
 far:∀ s∈tl,dep q<dep s.1
end
section
variable{rows:List (List Int)}{gs:List V}
def zex(rows:List (List Int))(gs:List V)(p:Nat):Prop:=∀ q k,Walk rows gs p q k->¬ V4 rows gs q
structure zgc(rows:List (List Int))(f k:Nat)(gs:List V):Prop where
 fill:Yp rows gs
 seen:∀ j,j<k->(∃ n,gs[(f+j)%rows.length]?=some (.int n))\/zex rows gs ((f+j)%rows.length)
 later:∀ p,(∀ j,j<k->(f+j)%rows.length≠p)->p<rows.length->gs[p]?=some .non
end
end G
namespace PySem
theorem Jp(f:α->β):∀ (l:List α) (j:Nat),(l.map f).eraseIdx j=(l.eraseIdx j).map f
 | [],_=>rfl
 | _ :: _,0=>rfl
 | x :: l,j+1=>by
   show f x :: (l.map f).eraseIdx j=f x :: (l.eraseIdx j).map f;rw[Jp f l j]
section
variable{prog:Program}{w:World}{K:Type}[DecidableEq K]{knd:HeapKind prog w K}{A:Around}{E:Value->Shared->Prop}{s:Shared}
theorem Qr(hu:knd.room A)(hkey:knd.is s.heap k a)(hm:s.heap.DictOfH knd d xs)(hj:xs[j]?=some (k,p))(hsz:xs.length<=sizeLine)
  (hQ:∀ h',h'.DictOfH knd d (xs.eraseIdx j)->Heap.SameBut d s.heap h'->Q (some (entryOfKey knd (k,p))) { s with heap:=h',toks:=s.toks+knd.draws k }) :
  wpAny (model prog w) A (Builtin.Dict.takeOut d (.ref a)) Q E s:=by
 obtain⟨o,es,ep,ho,hc,hd,he,his,hn⟩:=hm;unfold Builtin.Dict.takeOut
 try with_reducible refine wpAny_holding ?_
 refine wpAny_bind (knd.pyHash hu hkey (wpAny_bind (wpAny_dictFind_heap (s:={ s with toks:=s.toks+knd.draws k }) hu hkey ho hd he his hn ?_ ?_)))
 ·intro hno;exact absurd hj (hno j p)
 ·intro j' p' hj';have ej:=idxH_unique hn hj' hj;subst ej;refine wpAny_bind (wpAny_dictEntries (s:={ s with toks:=s.toks+knd.draws k }) ho hd ?_);rw[entry_at he j',hj];refine wpAny_bind (wpAny_updateDictKeys (hz:=by have e:=size_of_entries he;omega) (s:={ s with toks:=s.toks+knd.draws k }) ho hd (wpAny_pure (hQ _ ⟨_,_,ep+1,Heap.get?_update_self _ ho (Obj.isFreed_of_dict (Obj.data_mapDictKeys hd _)),
   hc.mapDictKeys _,Obj.data_mapDictKeys hd _,?_,?_,?_⟩ (Heap.SameBut.update ..))))
  ·obtain⟨l⟩:=es;simp only at he;simp[he,Jp]
  ·intro x hx;exact knd.keeps (his x (List.mem_of_mem_eraseIdx hx)) ho hd (Heap.SameBut.update ..)
  ·have:=hn.sublist (List.Sublist.map (·.1) (List.eraseIdx_sublist xs j'));exact this
theorem Nm(d a:Addr)(k:K) :
  MeetsIn prog w (Builtin.«dict.pop» ⟨[.ref d,.ref a],[]⟩) (fun A R s=>knd.room A.in1/\knd.is s.heap k a/\∃ xs j p,s.heap.DictOfH knd d xs/\xs.length<=sizeLine/\xs[j]?=some (k,p) /\
   ∀ h' t',h'.DictOfH knd d (xs.eraseIdx j)->Heap.SameBut d s.heap h'->R (.ok (.ret p.2)) { s with heap:=h',toks:=t' }) :=
 .of_wp fun A R s ⟨hu,hkey,xs,j,p,hm,hsz,hj,h⟩=>by
  obtain⟨o,es,ep,ho,hc,hd,he,his,hn⟩:=id hm;unfold Builtin.«dict.pop»;refine wpAny_bind ?_;unfold Builtin.Dict.keyAndDefault;refine wpAny_bind (wpAny_notOrdered_dict hm.typeIs ?_);show wpAny _ _ (pure (d,Value.ref a,none)) _ _ s;refine wpAny_pure ?_;have hp:(keyPart (Value.ref a)).isSome=false:=rfl;simp only[hp,zra,if_false];refine wpAny_bind (wpAny_dictEntries ho hd (wpAny_bind (wpAny_pure ?_)));have hne:es.isEmpty=false:=by
   have h1:=size_of_entries he;have h2:=(zp4.mp hj).1;rw[Array.isEmpty_eq_false_iff_exists_mem];exact⟨es[0]'⋯,Array.getElem_mem _⟩
  simp only[hne,zra,if_false];refine wpAny_bind (Qr hu hkey hm hj hsz fun h' hm' hs'=>?_);simp only[Option.isNone_some,zra,if_false];exact wpAny_bind (wpAny_letGo (wpAny_pure ⟨p.2,rfl,h h' _ hm' hs'⟩))
end
end PySem
namespace L2
open PySem PySem.Spec PyProof.Rows
theorem KT.drop:∀ {kvs:List (List Key×V)} {xs:List (List Key×Addr×Value)},KT H kvs xs->(xs.map (·.1)).Nodup->valV kvs k=some v->∃ j p,xs[j]?=some (k,p)/\RelV v p.2/\KT H (Xh kvs k) (xs.eraseIdx j)
 | [],[],_,_,hv=>by cases hv
 | p :: kvs,q :: xs,r,nd,hv=>by
   cases r with
   | cons h t =>
     rw[zqc,zqt] at nd;obtain⟨h1,h2,h3⟩:=h;by_cases e:p.1=k
     ·rw[Yu e] at hv;cases hv;refine⟨0,q.2,by rw[<- e,h1];rfl,h3,?_⟩;show KT H (Xh (p :: kvs) k) xs;have hd:Xh (p :: kvs) k=kvs:=by
       unfold Xh;rw[List.filter_cons_of_neg (by simp[e])];rw[List.filter_eq_self];intro kv hkv;refine zp8 fun z=>nd.1 ?_;have:∀ {l:List (List Key×V)} {m:List (List Key×Addr×Value)},KT H l m->kv∈l->kv.1∈m.map (·.1):=by
        intro l m q
        induction q with
        | nil=>intro hx;cases hx
        | @cons p' q' ps qs hq t ih =>
          intro hx;rcases zp7.mp hx with z|z
          ·rw[z,hq.1];exact zqp
          ·exact zql _ (ih z)
       have h9:=this t hkv;rw[z,<- e,h1] at h9;exact h9
      rw[hd];exact t
     ·rw[Ys e] at hv;obtain⟨j,pp,h4,h5,h6⟩:=KT.drop t nd.2 hv;refine⟨j+1,pp,h4,h5,?_⟩;have hd:Xh (p :: kvs) k=p :: Xh kvs k:=by
       unfold Xh;rw[List.filter_cons_of_pos (by simp[e])]
      rw[hd];exact .cons ⟨h1,h2,h3⟩ h6
inductive zcm(ty:TE)(σ:L2.St)(Q:VK)(x:V)(H1:Hp):Prop where
 | mk(a)(_:x=.ref a)(_:IsD H1 a)(_:ty σ H1 fun y H2=>∃ (kvs:List (List Key×V)) (k:List Key) (b:Addr) (v:V),H2 a=some (.dT kvs)/\y=.ref b/\H2 b=some (.tup (k.map kV))/\valV kvs k=some v/\Q v (upd H2 a (.dT (Xh kvs k))))
def zey(td ty:TE):TE:=fun σ H Q=>td σ H fun x H1=>zcm ty σ Q x H1
theorem za1(hu:X.A.units+1<cLine)(ho:PE X o td)(he:PE X e ty)(m:M1 X o "pop" apos e cpos):PE X (.Call (.Attribute o "pop" apos) [e] [] cpos) (zey td ty):=by
 intro pins s σ H Q I h;refine wpAny_Call_method m.base m.few m.line PySem.F.plainAttrs_dict PySem.F.slot_dict_pop PySem.F.type_dict_pop (thn (ho pins s σ H _ I h) fun u s1 ⟨x,H1,I1,rx,a,ex,d,q1⟩=>?_);subst ex;obtain rfl:u=Value.ref a:=rx;obtain⟨t1,t2,_⟩:=En I1 d;refine⟨t1,t2,?_⟩;rw[m.trees];refine Calls.callWith_builtin rfl (Calls.evalArgs_plain (Calls.spliced_cons (thn (he pins s1 σ H1 _ I1 q1) fun iv s2 ⟨y,H2,I2,ry,kvs,k,b,v,ea,ey,eb,l,q2⟩=>Calls.spliced_nil ?_)));subst ey;cases (show iv=Value.ref b from ry);obtain⟨z,hd,xs,rel,dd⟩:=zc4 I2.hok ea;have hz:xs.length<=sizeLine:=by rw[<- Paired.length rel];exact z
 obtain⟨j,p,hj,rv,rel'⟩:=KT.drop rel (by obtain⟨_,_,_,_,_,_,_,_,hn⟩:=dd;exact hn) l;refine call_meetsIn PySem.F.slot_dict_pop dd.typeIs PySem.F.entry_dict_pop (PySem.F.args_dict_pop_2 _ _) (Nm (knd:=tupleKind (Yg X.prog X.w)) a b k) ⟨tupleKind_room_in1 hu,Qk I2.hok eb,xs,j,p,dd,hz,hj,fun h' t' dd' hs=>⟨v,_,?_,rv,q2⟩⟩;obtain⟨q,es,ep,hq,h2,h3,h4,_,h5⟩:=dd';refine Pe I2 (by rw[ea];exact True.intro) hs ⟨q,hq⟩ ⟨zqr (Gs kvs k) z,hd,_,rel'.keeps fun c ys ec=>?_,q,es,ep,hq,h2,h3,h4,h5⟩;rw[Zh (Z9 ec ea (fun z=>nomatch z))];exact ec
end L2
namespace G
open PySem PySem.Spec PyProof.Rows L2
structure CA where
 season:Addr
 sheet:Addr
 roster:Addr
 ledger:Addr
 out:Addr
 known:Addr
 many:Addr
 unk:Addr
 manyM:Addr
 same:Addr
 noMatch:Addr
 noRound:Addr
 over:Addr
 seaOver:Addr
 away:Addr
 drawn:Addr
 notDrawn:Addr
 nothing:Addr
 manyD:Addr
theorem Tv:1000000<sizeLine:=by rw[sizeLine_eq];decide
abbrev RL:=List (Int×Int×Int)
inductive Wk(H:Hp):RL->List (Key×V)->Prop where
 | nil:Wk H [] []
 | cons {n g c:Int} {t:Addr} {R:RL} {kvs:List (Key×V)} (h:H t=some (.tup [.int g,.int c])) (r:Wk H R kvs):Wk H ((n,g,c) :: R) ((.inl n,.ref t) :: kvs)
theorem Wk.mono(k:∀ t xs,H t=some (.tup xs)->H' t=some (.tup xs)):∀ {R:RL} {kvs:List (Key×V)},Wk H R kvs->Wk H' R kvs
 | _,_,.nil=>.nil
 | _,_,.cons h r=>.cons (k _ _ h) (Wk.mono k r)
theorem Wk.length:∀ {R:RL} {kvs:List (Key×V)},Wk H R kvs->kvs.length=R.length
 | _,_,.nil=>rfl
 | _,_,.cons _ r=>by simp[Wk.length r]
theorem Wk.keys:∀ {R:RL} {kvs:List (Key×V)},Wk H R kvs->(kvs.map fun kv=>kV kv.1)=R.map fun x=>V.int x.1
 | _,_,.nil=>rfl
 | _,_,.cons _ r=>by rw[zqc,zqc,Wk.keys r];rfl
theorem Wk.snoc(h:H t=some (.tup [.int g,.int c])):∀ {R:RL} {kvs:List (Key×V)},Wk H R kvs->Wk H (R++[(n,g,c)]) (kvs++[(.inl n,.ref t)])
 | _,_,.nil=>.cons h .nil
 | _,_,.cons h' r=>.cons h' (Wk.snoc h r)
theorem Wk.val_none:∀ {R:RL} {kvs:List (Key×V)},Wk H R kvs->n∉R.map (·.1)->valV kvs (inl n:Key)=none
 | _,_,.nil,_=>rfl
 | _,_,.cons (n:=m) _ r,h=>by
   rw[zqc,zp7,not_or] at h;rw[Ys (fun e=>h.1 (inl.inj e).symm)];exact Wk.val_none r h.2
theorem Wk.val_some:∀ {R:RL} {kvs:List (Key×V)},Wk H R kvs->(R.map (·.1)).Nodup->(n,g,c)∈R->∃ t,valV kvs (inl n:Key)=some (.ref t)/\H t=some (.tup [.int g,.int c])
 | _,_,.nil,_,h=>by simp at h
 | _,_,.cons (n:=m) (g:=g') (c:=c') (t:=t) ht r,nd,h=>by
   rw[zqc,zqt] at nd;by_cases e:m=n
   ·subst e;rcases zp7.mp h with q|q
    ·cases q;exact⟨t,Yu rfl,ht⟩
    ·exact absurd (zqh.mpr ⟨_,q,rfl⟩) nd.1
   ·rcases zp7.mp h with q|q
    ·cases q;exact absurd rfl e
    ·obtain⟨t',h1,h2⟩:=Wk.val_some r nd.2 q;exact⟨t',by rw[Ys (fun z=>e (inl.inj z))];exact h1,h2⟩
theorem Wk.isSome(e:Wk H R kvs)(nd:(R.map (·.1)).Nodup):(valV kvs (inl n:Key)).isSome=decide (n∈R.map (·.1)):=by
 by_cases h:n∈R.map (·.1)
 ·obtain⟨⟨m,g,c⟩,q,rfl⟩:=zqh.mp h;obtain⟨t,h1,_⟩:=e.val_some nd q;rw[h1,zp8 h];rfl
 ·rw[e.val_none h,zqd h];rfl
theorem Wk.unsnoc:∀ {R:RL} {kvs:List (Key×V)},Wk H (R++[(n,g,c)]) kvs->n∉R.map (·.1)->Wk H R (Xh kvs (inl n))
 | [],_,.cons h .nil,_=>by
   unfold Xh;rw[List.filter_cons_of_neg (by simp)];exact .nil
 | (m,g',c') :: R,_,.cons h r,hn=>by
   rw[zqc,zp7,not_or] at hn;unfold Xh;rw[List.filter_cons_of_pos (by
    refine zp8 fun z=>hn.1 ?_;exact(inl.inj z).symm)]
   exact .cons h (Wk.unsnoc r hn.2)
structure Yy(C:Addr)(H:Hp)(p d:Addr)(R:RL):Prop where
 ex:∃ dx kvs,H p=some (.ins C dx [("entries",.ref d)])/\H d=some (.dK kvs)/\Wk H R kvs
 nd:(R.map (·.1)).Nodup
theorem Wl:List.lookup ("entries":Str) ([("entries",V.ref d)]:List (Str×V))=some (.ref d):=by simp only[zq3,beq_self_eq_true]
theorem Yy.no{d:Addr}{m:Str}(h:¬ m="entries"):List.lookup m ([("entries",V.ref d)]:List (Str×V))=none:=by
 have e:(m == "entries")=false:=zqn.mpr h;simp only[zq3,e,List.lookup_nil]
theorem Yy.keep(h:Yy C H p d R)(kp:∀ o,H p=some o->H' p=some o)(kd:∀ o,H d=some o->H' d=some o)(kt:∀ t xs,H t=some (.tup xs)->H' t=some (.tup xs)):Yy C H' p d R:=by
 obtain⟨⟨dx,kvs,h1,h2,h3⟩,nd⟩:=h;exact⟨⟨dx,kvs,kp _ h1,kd _ h2,h3.mono kt⟩,nd⟩
theorem Yy.same(h:Yy C H p d R)(e:Same H H'):Yy C H' p d R:=h.keep (fun _ q=>e _ _ q) (fun _ q=>e _ _ q) fun _ _ q=>e _ _ q
def badI(n g c:Int):Prop:=n<1\/999<n\/g<1\/9<g\/c<1\/99<c
instance {n g c:Int}:Decidable (badI n g c):=by unfold badI;infer_instance
def Hj(n g c:Int):Prop:=Z6 n/\Z6 g/\Z6 c
inductive Pp(x:Addr)(vs:List V)(H:Hp)(Q:VK)(E:XK):Prop where
 | mk(v)(lo)(m)(_:vs=[.int v,.int lo,.int m])(_:Z6 v)(_:Z6 lo)(_:Z6 m)(_:(if v<lo\/m<v then E (.ref x) none H else Q .non H))
inductive Ca(ca:CA)(vs:List V)(H:Hp)(Q:VK)(_:XK):Prop where
 | mk(p)(dx)(_:vs=[.ref p])(_:H p=some (.ins ca.roster dx []))(_:∀ d,H d=none->Q .non (upd (upd H d (.dK [])) p (.ins ca.roster dx [("entries",.ref d)])))
inductive Qs(ca:CA)(vs:List V)(H:Hp)(Q:VK)(E:XK):Prop where
 | mk(p)(d)(R)(n)(g)(c)(_:vs=[.ref p,.int n,.int g,.int c])(_:Yy ca.roster H p d R)(_:Hj n g c)(_:if badI n g c then E (.ref ca.out) none H else if n∈R.map (·.1) then E (.ref ca.known) none H else if 30<=R.length then E (.ref ca.many) none H else Q .non H)
inductive V7(ca:CA)(vs:List V)(H:Hp)(Q:VK)(E:XK):Prop where
 | mk(p)(d)(R)(n)(_:vs=[.ref p,.int n])(_:Yy ca.roster H p d R)(_:Z6 n)(_:if n∈R.map (·.1) then Q .non H else E (.ref ca.unk) none H)
inductive za2(ca:CA)(vs:List V)(H:Hp)(Q:VK)(E:XK):Prop where
 | mk(p)(d)(R)(n)(g)(c)(_:vs=[.ref p,.int n,.int g,.int c])(_:Yy ca.roster H p d R)(_:Hj n g c)(_:R.length<=1000)(_:if badI n g c then E (.ref ca.out) none H else if n∈R.map (·.1) then E (.ref ca.known) none H else if 30<=R.length then E (.ref ca.many) none H else ∀ H',Yy ca.roster H' p d (R++[(n,g,c)])->(∀ b o,H b=some o->b≠d->H' b=some o)->Q .non H')
inductive Fc(ca:CA)(vs:List V)(H:Hp)(Q:VK)(_:XK):Prop where
 | mk(p)(d)(R)(n)(g)(c)(_:vs=[.ref p,.int n])(_:Yy ca.roster H p d (R++[(n,g,c)]))(_:∀ H',Yy ca.roster H' p d R->(∀ b o,H b=some o->b≠d->H' b=some o)->Q .non H')
inductive M8(ca:CA)(vs:List V)(H:Hp)(Q:VK)(_:XK):Prop where
 | mk(p)(d)(R)(_:vs=[.ref p])(_:Yy ca.roster H p d R)(_:∀ l,H l=none->Q (.ref l) (upd H l (.lst (R.map fun x=>V.int x.1))))
inductive Fd(ca:CA)(vs:List V)(H:Hp)(Q:VK)(E:XK):Prop where
 | mk(p)(d)(R)(n)(_:vs=[.ref p,.int n])(_:Yy ca.roster H p d R)(_:Z6 n)(_:(n∉R.map (·.1)->E (.ref ca.unk) none H))(_:∀ g c t,(n,g,c)∈R->H t=some (.tup [.int g,.int c])->Q (.ref t) H)
inductive Fe(ca:CA)(vs:List V)(H:Hp)(Q:VK)(E:XK):Prop where
 | mk(p)(d)(R)(n)(_:vs=[.ref p,.int n])(_:Yy ca.roster H p d R)(_:Z6 n)(_:(n∉R.map (·.1)->∀ H',Same H H'->E (.ref ca.unk) none H'))(_:∀ g c t H',(n,g,c)∈R->H' t=some (.tup (pV (n,g,c)))->Same H H'->H t=none->Q (.ref t) H')
structure Z5 where
 ms:List (Int×Int×Int)
 may:List (List Int)
 gv:List V
 gaps:List (Int×List (Nat×Option Int))
inductive Wm(ok:Addr->Prop)(H:Hp):List V->List (Int×List (Nat×Option Int))->Prop where
 | nil:Wm ok H [] []
 | cons {t l:Addr} {n:Int} {us:List V} {st:List (Nat×Option Int)} {ts:List V} {G:List (Int×List (Nat×Option Int))} (h:H t=some (.tup [.int n,.ref l])) (hl:H l=some (.lst us)) (tl:Z0 H us (st.map Vf)) (o:ok l) (r:Wm ok H ts G):Wm ok H (.ref t :: ts) ((n,st) :: G)
theorem Wm.keep(k:∀ x o,ok x->H x=some o->H' x=some o)(kt:∀ t xs,H t=some (.tup xs)->H' t=some (.tup xs)):∀ {ts:List V} {G:List (Int×List (Nat×Option Int))},Wm ok H ts G->Wm ok H' ts G
 | _,_,.nil=>.nil
 | _,_,.cons h hl tl o r=>.cons (kt _ _ h) (k _ _ o hl) (tl.mono kt) o (Wm.keep k kt r)
theorem Wm.imp(k:∀ x,(∃ o,H x=some o)->ok x->ok' x):∀ {ts:List V} {G:List (Int×List (Nat×Option Int))},Wm ok H ts G->Wm ok' H ts G
 | _,_,.nil=>.nil
 | _,_,.cons h hl tl o r=>.cons h hl tl (k _ ⟨_,hl⟩ o) (Wm.imp k r)
theorem Wm.length:∀ {ts:List V} {G:List (Int×List (Nat×Option Int))},Wm ok H ts G->ts.length=G.length
 | _,_,.nil=>rfl
 | _,_,.cons _ _ _ _ r=>by simp[Wm.length r]
theorem Wm.snoc{ok:Addr->Prop}{H:Hp}{t l:Addr}{n:Int}{us:List V}{st:List (Nat×Option Int)}(h:H t=some (.tup [.int n,.ref l]))(hl:H l=some (.lst us))(tl:Z0 H us (st.map Vf))(o:ok l):∀ {ts:List V} {G:List (Int×List (Nat×Option Int))},Wm ok H ts G->Wm ok H (ts++[.ref t]) (G++[(n,st)])
 | _,_,.nil=>.cons h hl tl o .nil
 | _,_,.cons h' hl' tl' o' r=>.cons h' hl' tl' o' (Wm.snoc h hl tl o r)
theorem Wm.get:∀ {ts:List V} {G:List (Int×List (Nat×Option Int))} {i:Nat} {x:V},Wm ok H ts G->ts[i]?=some x->∃ t l n us st,x=.ref t/\G[i]?=some (n,st)/\H t=some (.tup [.int n,.ref l])/\H l=some (.lst us)/\Z0 H us (st.map Vf)/\ok l
 | _,_,_,_,.nil,e=>by simp at e
 | _,_,0,_,.cons h hl tl o _,e=>by simp at e;subst e;exact⟨_,_,_,_,_,rfl,rfl,h,hl,tl,o⟩
 | _,_,i+1,x,.cons _ _ _ _ r,e=>by
   obtain⟨t,l,n,us,st,h1,h2,h3⟩:=Wm.get (i:=i) (x:=x) r (by simpa using e);exact⟨t,l,n,us,st,h1,by simpa using h2,h3⟩
def shF(l1 l2 l3 l4:Addr):List (Str×V):=[("listed",.ref l1),("lists",.ref l2),("given",.ref l3),("gaps",.ref l4)]
structure ShAt(C:Addr)(ok:Addr->Prop)(H:Hp)(q:Addr)(s:Z5):Prop where
 ex:∃ dx l1 l2 l3 l4 ts ls gts,H q=some (.ins C dx (shF l1 l2 l3 l4))/\H l1=some (.lst ts)/\Z0 H ts (s.ms.map pV)/\H l2=some (.lst (ls.map V.ref))/\ILs H ls s.may/\H l3=some (.lst s.gv)/\H l4=some (.lst gts)/\Wm ok H gts s.gaps/\(ok q/\ok l1/\ok l2/\ok l3/\ok l4/\∀ x∈ls,ok x)
theorem ShAt.keep(h:ShAt C ok H q s)(k:∀ x o,ok x->H x=some o->H' x=some o)(kt:∀ t xs,H t=some (.tup xs)->H' t=some (.tup xs)):ShAt C ok H' q s:=by
 obtain⟨dx,l1,l2,l3,l4,ts,ls,gts,a1,a2,a3,a4,a5,a6,a7,a8,o1,o2,o3,o4,o5,o6⟩:=h;exact⟨dx,l1,l2,l3,l4,ts,ls,gts,k _ _ o1 a1,k _ _ o2 a2,a3.mono kt,k _ _ o3 a4,a5.keep fun x hx o q=>k _ _ (o6 x hx) q,k _ _ o4 a6,k _ _ o5 a7,a8.keep k kt,o1,o2,o3,o4,o5,o6⟩
theorem ShAt.imp(h:ShAt C ok H q s)(k:∀ x,(∃ o,H x=some o)->ok x->ok' x):ShAt C ok' H q s:=by
 obtain⟨dx,l1,l2,l3,l4,ts,ls,gts,a1,a2,a3,a4,a5,a6,a7,a8,o1,o2,o3,o4,o5,o6⟩:=h;exact⟨dx,l1,l2,l3,l4,ts,ls,gts,a1,a2,a3,a4,a5,a6,a7,a8.imp k,k _ ⟨_,a1⟩ o1,k _ ⟨_,a2⟩ o2,k _ ⟨_,a4⟩ o3,k _ ⟨_,a6⟩ o4,k _ ⟨_,a7⟩ o5,fun x hx=>k _ (let ⟨_,z⟩:=a5.has hx;⟨_,z⟩) (o6 x hx)⟩
theorem ShAt.same(h:ShAt C ok H q s)(e:Same H H'):ShAt C ok H' q s:=h.keep (fun _ _ _ q=>e _ _ q) fun _ _ q=>e _ _ q
def ShO(C:Addr)(ok:Addr->Prop)(H:Hp)(v:V)(s:Option Z5):Prop:=match s with|none=>v=.non|some s=>∃ q,v=.ref q/\ShAt C ok H q s
theorem ShO.keep(h:ShO C ok H v s)(k:∀ x o,ok x->H x=some o->H' x=some o)(kt:∀ t xs,H t=some (.tup xs)->H' t=some (.tup xs)):ShO C ok H' v s:=by
 cases s with
 | none=>exact h
 | some s=>obtain⟨q,e,h⟩:=h;exact⟨q,e,h.keep k kt⟩
theorem ShO.imp(h:ShO C ok H v s)(k:∀ x,(∃ o,H x=some o)->ok x->ok' x):ShO C ok' H v s:=by
 cases s with
 | none=>exact h
 | some s=>obtain⟨q,e,h⟩:=h;exact⟨q,e,h.imp k⟩
inductive ShL(C:Addr)(ok:Addr->Prop)(H:Hp):List V->List Z5->Prop where
 | nil:ShL C ok H [] []
 | cons {q:Addr} {s:Z5} {vs:List V} {ss:List Z5} (h:ShAt C ok H q s) (r:ShL C ok H vs ss):ShL C ok H (.ref q :: vs) (s :: ss)
theorem ShL.keep(k:∀ x o,ok x->H x=some o->H' x=some o)(kt:∀ t xs,H t=some (.tup xs)->H' t=some (.tup xs)):∀ {vs:List V} {ss:List Z5},ShL C ok H vs ss->ShL C ok H' vs ss
 | _,_,.nil=>.nil
 | _,_,.cons h r=>.cons (h.keep k kt) (ShL.keep k kt r)
theorem ShL.imp(k:∀ x,(∃ o,H x=some o)->ok x->ok' x):∀ {vs:List V} {ss:List Z5},ShL C ok H vs ss->ShL C ok' H vs ss
 | _,_,.nil=>.nil
 | _,_,.cons h r=>.cons (h.imp k) (ShL.imp k r)
theorem ShL.length:∀ {vs:List V} {ss:List Z5},ShL C ok H vs ss->vs.length=ss.length
 | _,_,.nil=>rfl
 | _,_,.cons _ r=>by simp[ShL.length r]
theorem ShL.snoc(h:ShAt C ok H q s):∀ {vs:List V} {ss:List Z5},ShL C ok H vs ss->ShL C ok H (vs++[.ref q]) (ss++[s])
 | _,_,.nil=>.cons h .nil
 | _,_,.cons h' r=>.cons h' (ShL.snoc h r)
theorem ShL.getR:∀ {vs:List V} {ss:List Z5} {i:Nat} {s:Z5},ShL C ok H vs ss->ss[i]?=some s->∃ q,vs[i]?=some (.ref q)/\ShAt C ok H q s
 | _,_,_,_,.nil,e=>by simp at e
 | _,_,0,_,.cons h _,e=>by simp at e;subst e;exact⟨_,rfl,h⟩
 | _,_,i+1,x,.cons _ r,e=>by
   obtain⟨t,h1,h2⟩:=ShL.getR (i:=i) (s:=x) r (by simpa using e);exact⟨t,by simpa using h1,h2⟩
abbrev Vi:=Str×Int×Int
def Y9(d:Vi):List V:=[.str d.1,.int d.2.1,.int d.2.2]
inductive Vs(C:Addr)(ok:Addr->Prop)(H:Hp):List V->List (Vi×Option Z5)->Prop where
 | nil:Vs C ok H [] []
 | cons {t u:Addr} {v:V} {d:Vi} {s:Option Z5} {vs:List V} {ss:List (Vi×Option Z5)} (h:H t=some (.tup [.ref u,v])) (hu:H u=some (.tup (Y9 d))) (hs:ShO C ok H v s) (r:Vs C ok H vs ss):Vs C ok H (.ref t :: vs) ((d,s) :: ss)
theorem Vs.keep(k:∀ x o,ok x->H x=some o->H' x=some o)(kt:∀ t xs,H t=some (.tup xs)->H' t=some (.tup xs)):∀ {vs:List V} {ss:List (Vi×Option Z5)},Vs C ok H vs ss->Vs C ok H' vs ss
 | _,_,.nil=>.nil
 | _,_,.cons h hu hs r=>.cons (kt _ _ h) (kt _ _ hu) (hs.keep k kt) (Vs.keep k kt r)
theorem Vs.length:∀ {vs:List V} {ss:List (Vi×Option Z5)},Vs C ok H vs ss->vs.length=ss.length
 | _,_,.nil=>rfl
 | _,_,.cons _ _ _ r=>by simp[Vs.length r]
theorem Vs.snoc(h:H t=some (.tup [.ref u,v]))(hu:H u=some (.tup (Y9 d)))(hs:ShO C ok H v s):∀ {vs:List V} {ss:List (Vi×Option Z5)},Vs C ok H vs ss->Vs C ok H (vs++[.ref t]) (ss++[(d,s)])
 | _,_,.nil=>.cons h hu hs .nil
 | _,_,.cons h' hu' hs' r=>.cons h' hu' hs' (Vs.snoc h hu hs r)
theorem Vs.unsnoc:∀ {vs:List V} {ss:List (Vi×Option Z5)},Vs C ok H vs (ss++[(d,s)])->∃ vs' t u v,vs=vs'++[.ref t]/\H t=some (.tup [.ref u,v])/\H u=some (.tup (Y9 d))/\ShO C ok H v s/\Vs C ok H vs' ss
 | _,[],.cons h hu hs .nil=>⟨[],_,_,_,rfl,h,hu,hs,.nil⟩
 | _,_ :: _,.cons h hu hs r=>by
   obtain⟨vs',t,u,v,e,a1,a2,a3,a4⟩:=Vs.unsnoc r;exact⟨_ :: vs',t,u,v,by rw[e];rfl,a1,a2,a3,.cons h hu hs a4⟩
theorem Vs.get:∀ {vs:List V} {ss:List (Vi×Option Z5)} {i:Nat} {x:V},Vs C ok H vs ss->vs[i]?=some x->∃ t u v d s,x=.ref t/\ss[i]?=some (d,s)/\H t=some (.tup [.ref u,v])/\H u=some (.tup (Y9 d))
 | _,_,_,_,.nil,e=>by simp at e
 | _,_,0,_,.cons h hu _ _,e=>by simp at e;subst e;exact⟨_,_,_,_,_,rfl,rfl,h,hu⟩
 | _,_,i+1,x,.cons _ _ _ r,e=>by
   obtain⟨t,u,v,d,s,h1,h2,h3⟩:=Vs.get (i:=i) (x:=x) r (by simpa using e);exact⟨t,u,v,d,s,h1,by simpa using h2,h3⟩
structure Sea where
 len:Nat
 rest:Nat
 ppl:RL
 led:List (List Row)
 out:List (Int×Int)
 old:List Z5
 cur:Option Z5
 std:List (Vi×Option Z5)
structure SAd where
 p:Addr
 pr:Addr
 dr:Addr
 pl:Addr
 lr:Addr
 ld:Addr
 da:Addr
 ls:Addr
 lt:Addr
def SAd.fp(A:SAd):List Addr:=[A.p,A.dr,A.lr,A.ld,A.da,A.ls,A.lt]
def seaF(A:SAd)(len rest:Nat)(v:V):List (Str×V):=[("length",.int len),("rest",.int rest),("roster",.ref A.pr),("ledger",.ref A.pl),("absent",.ref A.da),("sheets",.ref A.ls),("sheet",v),("standing",.ref A.lt)]
def S5(kvs:List (List Key×V))(out:List (Int×Int)):Prop:=(∀ at_ n:Int,(valV kvs [inl at_,inl n]).isSome=decide ((at_,n)∈out))/\kvs.length<=out.length
structure Zu(ca:CA)(H:Hp)(A:SAd)(S:Sea):Prop where
 obj:∃ dx v,H A.p=some (.ins ca.season dx (seaF A S.len S.rest v))/\ShO ca.sheet (·∉A.fp) H v S.cur
 ros:Yy ca.roster H A.pr A.dr S.ppl
 led:Vr ca.ledger H A.pl A.lr A.ld S.led
 out:∃ kvs,H A.da=some (.dT kvs)/\S5 kvs S.out
 old:∃ vs,H A.ls=some (.lst vs)/\ShL ca.sheet (·∉A.fp) H vs S.old
 std:∃ vs,H A.lt=some (.lst vs)/\Vs ca.sheet (·∉A.fp) H vs S.std
 nd:A.fp.Nodup
 np:A.pr∉A.fp/\A.pl∉A.fp
def FrS(A:SAd)(H H':Hp):Prop:=∀ b o,H b=some o->b∉A.fp->H' b=some o
end G
namespace L2
open PySem PySem.Spec PyProof.Rows
theorem Ff{X:Cx}{K:Frag}(hK:X.K=K):OpR X (binaryOp .Add) (zc6 K):=hK▸zb4
end L2
namespace G
open PySem PySem.Spec PyProof.Rows L2
theorem it2{p:Prop}[Decidable p]{A B A' B':Prop}(h:if p then A else B)(h1:p->A->A')(h2:¬ p->B->B'):if p then A' else B':=by
 by_cases z:p
 ·rw[if_pos z] at h ⊢;exact h1 z h
 ·rw[if_neg z] at h ⊢;exact h2 z h
theorem Bq{κ:Type}[DecidableEq κ]{kvs:List (κ×V)}{k:κ}{v:V}(h:valV kvs k=none):putK kvs k v=kvs++[(k,v)]:=by
 unfold putK;rw[if_neg];intro z;rw[Tp,h] at z;cases z
inductive Fg(C:Addr)(vs:List V)(H:Hp)(Q:VK)(_:XK):Prop where
 | mk(p lr ld:Addr)(Rs:List (List Row))(b:Addr)(ts:List V)(rs:List Row)(_:vs=[.ref p,.ref b])(_:Vr C H p lr ld Rs)(_:H b=some (.lst ts))(_:b≠lr)(_:Z0 H ts (rs.map Ir))(_:2*(tot Rs+rs.length)<=100000)(_:Rs.length<=1000)(_:∀ H',Vr C H' p lr ld (Rs++[rs])->(∀ b o,H b=some o->b≠lr->b≠ld->H' b=some o)->Q .non H')
def Cb(ok:Addr->Prop)(H:Hp):Prop:=∀ x,H x=none->ok x
inductive Pq(ca:CA)(vs:List V)(H:Hp)(Q:VK)(_:XK):Prop where
 | mk(q)(dx)(l1)(l2)(l3)(l4)(_:vs=[.ref q,.ref l1,.ref l2,.ref l3,.ref l4])(_:H q=some (.ins ca.sheet dx []))(_:∀ H',H'=upd H q (.ins ca.sheet dx (shF l1 l2 l3 l4))->Q .non H')
theorem Rv:List.lookup ("listed":Str) (shF l1 l2 l3 l4)=some (.ref l1):=by unfold shF;simp only[zq3,beq_self_eq_true]
theorem S6:List.lookup ("given":Str) (shF l1 l2 l3 l4)=some (.ref l3):=by
 have e:(("given":Str) == "listed")=false:=by decide +kernel
 have e2:(("given":Str) == "lists")=false:=by decide +kernel
 unfold shF;simp only[zq3,e,e2,beq_self_eq_true]
theorem Hk:List.lookup ("gaps":Str) (shF l1 l2 l3 l4)=some (.ref l4):=by
 have e:(("gaps":Str) == "listed")=false:=by decide +kernel
 have e2:(("gaps":Str) == "lists")=false:=by decide +kernel
 have e3:(("gaps":Str) == "given")=false:=by decide +kernel
 unfold shF;simp only[zq3,e,e2,e3,beq_self_eq_true]
theorem Sa{l1 l2 l3 l4:Addr}{m:Str}(h1:¬ m="listed")(h2:¬ m="lists")(h3:¬ m="given")(h4:¬ m="gaps"):List.lookup m (shF l1 l2 l3 l4)=none:=by
 have e1:(m == "listed")=false:=zqn.mpr h1;have e2:(m == "lists")=false:=zqn.mpr h2;have e3:(m == "given")=false:=zqn.mpr h3;have e4:(m == "gaps")=false:=zqn.mpr h4;unfold shF;simp only[zq3,e1,e2,e3,e4,List.lookup_nil]
theorem zhb:putF "lists" y [(("listed":Str),x)]=([("listed",x),("lists",y)]:List (Str×V)):=by
 have n1:¬ (("listed":Str)="lists"):=by decide +kernel
 simp only[putF,if_neg n1]
theorem zhc:putF "given" z [(("listed":Str),x),("lists",y)]=([("listed",x),("lists",y),("given",z)]:List (Str×V)):=by
 have n1:¬ (("listed":Str)="given"):=by decide +kernel
 have n2:¬ (("lists":Str)="given"):=by decide +kernel
 simp only[putF,if_neg n1,if_neg n2]
theorem zhd:putF "gaps" w [(("listed":Str),x),("lists",y),("given",z)]=([("listed",x),("lists",y),("given",z),("gaps",w)]:List (Str×V)):=by
 have n1:¬ (("listed":Str)="gaps"):=by decide +kernel
 have n2:¬ (("lists":Str)="gaps"):=by decide +kernel
 have n3:¬ (("given":Str)="gaps"):=by decide +kernel
 simp only[putF,if_neg n1,if_neg n2,if_neg n3]
theorem Qt(hq:H1 q=none)(hdx:H1 dx=none)(ne:dx≠q):Same H1 (upd (upd (upd H1 dx (.own q)) q (.ins C dx [])) q (.ins C dx (shF l1 l2 l3 l4)))/\upd (upd (upd H1 dx (.own q)) q (.ins C dx [])) q (.ins C dx (shF l1 l2 l3 l4)) q=some (.ins C dx (shF l1 l2 l3 l4)):=by
 refine⟨fun b o e=>?_,Zb⟩;rw[Zh (Zg e hq),Zh (Zg e hq),Zh (Zg e hdx)];exact e
inductive Fh(ca:CA)(vs:List V)(H:Hp)(Q:VK)(_:XK):Prop where
 | mk(ok:Addr->Prop)(q l2:Addr)(ls:List Addr)(rows:List (List Int))(s:Z5)(_:vs=[.ref q,.ref l2])(_:ShAt ca.sheet ok H q s)(_:H l2=some (.lst (ls.map V.ref)))(_:ILs H ls rows)(_:ok l2)(_:(∀ x∈ls,ok x))(_:Cb ok H)(_:∀ q' H',ShAt ca.sheet ok H' q' { s with may:=rows }->Same H H'->H q'=none->Q (.ref q') H')
inductive Fi(ca:CA)(vs:List V)(H:Hp)(Q:VK)(_:XK):Prop where
 | mk(ok:Addr->Prop)(q l2:Addr)(ls:List Addr)(rows:List (List Int))(nu:List Int)(s:Z5)(n:Int)(p:Nat)(_:vs=[.ref q,.int n,.ref l2])(_:ShAt ca.sheet ok H q s)(_:H l2=some (.lst (ls.map V.ref)))(_:ILs H ls rows)(_:ok l2)(_:(∀ x∈ls,ok x))(_:Cb ok H)(_:Nd rows nu)(_:(∀ x∈s.gv,oneV x))(_:s.gv[p]?=some (.int n))(_:(∀ j:Nat,s.gv[j]?=some (.int n)->j=p))(_:Yp rows (s.gv.set p .non))(_:s.gaps.length<=1000)(_:∀ q' st e w H',ShAt ca.sheet ok H' q' ⟨s.ms,rows,Ym st (s.gv.set p .non),s.gaps++[(n,st)]⟩->Y3 rows (s.gv.set p .non) p st e w->Same H H'->H q'=none->Q (.ref q') H')
inductive Cc(ca:CA)(vs:List V)(H:Hp)(Q:VK)(_:XK):Prop where
 | mk(ok:Addr->Prop)(l1 l2:Addr)(ts:List V)(ls:List Addr)(ms:List (Int×Int×Int))(rows:List (List Int))(nu:List Int)(_:vs=[.ref l1,.ref l2])(_:H l1=some (.lst ts))(_:Z0 H ts (ms.map pV))(_:H l2=some (.lst (ls.map V.ref)))(_:ILs H ls rows)(_:ok l1)(_:ok l2)(_:(∀ x∈ls,ok x))(_:Cb ok H)(_:Nd rows nu)(_:∀ q gv H',ShAt ca.sheet ok H' q ⟨ms,rows,gv,[]⟩->Yp rows gv->Vh rows gv->Same H H'->H q=none->Q (.ref q) H')
inductive Ng(ca:CA)(vs:List V)(H:Hp)(Q:VK)(_:XK):Prop where
 | mk(ok:Addr->Prop)(q:Addr)(s:Z5)(_:vs=[.ref q])(_:ShAt ca.sheet ok H q s)(_:∀ l ts H',H' l=some (.lst ts)->Z0 H' ts (s.ms.map pV)->Same H H'->H l=none->Q (.ref l) H')
inductive M9(ca:CA)(vs:List V)(H:Hp)(Q:VK)(_:XK):Prop where
 | mk(ok:Addr->Prop)(q:Addr)(s:Z5)(_:vs=[.ref q])(_:ShAt ca.sheet ok H q s)(_:∀ l H',H' l=some (.lst s.gv)->Same H H'->H l=none->Q (.ref l) H')
inductive Oh(ca:CA)(vs:List V)(H:Hp)(Q:VK)(_:XK):Prop where
 | mk(ok:Addr->Prop)(q:Addr)(s:Z5)(n:Int)(_:vs=[.ref q,.int n])(_:ShAt ca.sheet ok H q s)(_:(∀ x∈s.gv,oneV x))(_:s.gv.length<=100)(_:∀ H',Same H H'->Q (oN (X2 s.gv n)) H')
def Cd(m:Int×Int×Int)(x:V):Row:=⟨m.1,m.2.1,m.2.2,zgb (some x)⟩
def X4(s:Z5):List Row:=List.zipWith Cd s.ms s.gv
inductive Fj(ca:CA)(vs:List V)(H:Hp)(Q:VK)(_:XK):Prop where
 | mk(ok:Addr->Prop)(q:Addr)(s:Z5)(_:vs=[.ref q])(_:ShAt ca.sheet ok H q s)(_:(∀ x∈s.gv,oneV x))(_:s.gv.length=s.ms.length)(_:s.ms.length<=1000)(_:∀ l ts H',H' l=some (.lst ts)->Z0 H' ts ((X4 s).map Ir)->Same H H'->H l=none->Q (.ref l) H')
inductive Lb(ca:CA)(vs:List V)(H:Hp)(Q:VK)(_:XK):Prop where
 | mk(ok:Addr->Prop)(q:Addr)(s:Z5)(_:vs=[.ref q])(_:ShAt ca.sheet ok H q s)(_:s.gaps.length<=1000)(_:∀ l ts H',H' l=some (.lst ts)->Wm (fun x=>H x=none/\x≠l) H' ts s.gaps->Same H H'->H l=none->Q (.ref l) H')
theorem Lc{K:Frag}{a:Addr}{xs:List V}{xo:List Str}{js:List Nat}{g:TG}{tt:TT}{te:TE}{σ:L2.St}{H:Hp}{Q:VK}(Pv:Nat->List V->Hp->Prop)(h0:Pv 0 [] H)(hl:∀ i ys H,i<=xs.length->Pv i ys H->SqL K H a xs)(hz:xs.length<=sizeLine)(hy:∀ i ys H,Pv i ys H->ys.length<=i)
  (hs:∀ i x ys H,xs[i]?=some x->Pv i ys H->g x (cs0 xo js σ) H fun σ2 H1=>Ru xo js σ σ2/\tt σ2 H1 fun b H2=>if b=true then te σ2 H2 fun y H3=>Pv (i+1) (ys++[y]) H3 else Pv (i+1) ys H2)
  (hd:∀ ys H,Pv xs.length ys H->∀ p,H p=none->Q (.ref p) (upd H p (.lst ys))):E3 (Itl K a) xo js g tt te σ H Q:=by
 refine⟨fun i m ys H=>m=xs.length-i/\i<=xs.length/\Pv i ys H,⟨xs.length,by simp,zqo _,h0⟩,?_⟩;rintro i m ys H ⟨rfl,hi,p⟩;have q:=hl i ys H hi p;have ly:=hy i ys H p;by_cases hlt:i<xs.length
 ·refine .inr ⟨⟨xs,xs[i],q,by simp[hlt]⟩,by omega,Pv (i+1),fun ys' H' p'=>⟨xs.length-(i+1),by omega,rfl,hlt,p'⟩,fun x H' y=>?_⟩;obtain⟨e,y⟩:=y;subst e;exact hs i x ys _ (y xs q) p
 ·have e:i=xs.length:=by omega
  subst e;exact .inl ⟨⟨xs,q,zqa _⟩,by omega,hd ys H p⟩
theorem Br{K:Frag}{a b:Addr}{xs zs:List V}{xo:List Str}{js:List Nat}{g:TG}{tt:TT}{te:TE}{σ:L2.St}{H:Hp}{Q:VK}(Pv:Nat->List V->Hp->Prop)(h0:Pv 0 [] H)(he:xs.length=zs.length)(hl:∀ i ys H,i<=xs.length->Pv i ys H->SqL K H a xs/\SqL K H b zs)(hz:xs.length<=sizeLine)(hy:∀ i ys H,Pv i ys H->ys.length<=i)
  (hs:∀ i x z t ys H,xs[i]?=some x->zs[i]?=some z->Pv i ys H->H t=none->g (.ref t) (cs0 xo js σ) (upd H t (.tup [x,z])) fun σ2 H1=>Ru xo js σ σ2/\tt σ2 H1 fun b H2=>if b=true then te σ2 H2 fun y H3=>Pv (i+1) (ys++[y]) H3 else Pv (i+1) ys H2)
  (hd:∀ ys H,Pv xs.length ys H->∀ p,H p=none->Q (.ref p) (upd H p (.lst ys))):E3 (Itz K a b) xo js g tt te σ H Q:=by
 refine⟨fun i m ys H=>m=xs.length-i/\i<=xs.length/\Pv i ys H,⟨xs.length,by simp,zqo _,h0⟩,?_⟩;rintro i m ys H ⟨rfl,hi,p⟩;obtain⟨q1,q2⟩:=hl i ys H hi p;have ly:=hy i ys H p;by_cases hlt:i<xs.length
 ·refine .inr ⟨⟨xs,zs,xs[i],zs[i]'⋯,q1,q2,by simp[hlt],by rw[zp5 ⋯]⟩,by omega,Pv (i+1),fun ys' H' p'=>⟨xs.length-(i+1),by omega,rfl,hlt,p'⟩,fun x H' y=>?_⟩;obtain⟨t,y,z,h1,h2,h3,rfl,rfl⟩:=y;exact hs i y z t ys _ (h2 xs q1) (h3 zs q2) p h1
 ·have e:i=xs.length:=by omega
  subst e;exact .inl ⟨⟨xs,zs,q1,q2,.inl (zqa _)⟩,by omega,hd ys H p⟩
theorem zez(m:Int×Int×Int)(h:oneV x):Ir (Cd m x)=[V.int m.1,V.int m.2.1,V.int m.2.2,x]:=by
 rcases h with rfl|⟨i,rfl⟩<;>rfl
theorem Bs(hm:s.ms[i]?=some m)(hx:s.gv[i]?=some x):(X4 s).take (i+1)=(X4 s).take i++[Cd m x]:=by
 have:(X4 s)[i]?=some (Cd m x):=by
  unfold X4;rw[List.getElem?_zipWith,hm,hx]
 rw[zre,this];rfl
theorem Fl(h:s.gv.length=s.ms.length):(X4 s).length=s.ms.length:=by
 unfold X4;rw[List.length_zipWith,h,Nat.min_self]
section
variable{ca:CA}{H H':Hp}{A:SAd}{S:Sea}{l:Nat}{r:Nat}{v:V}
theorem Fm(A:SAd)(l r:Nat)(v:V):List.lookup ("length":Str) (seaF A l r v)=some (.int l)/\List.lookup ("rest":Str) (seaF A l r v)=some (.int r)/\List.lookup ("roster":Str) (seaF A l r v)=some (.ref A.pr)/\List.lookup ("ledger":Str) (seaF A l r v)=some (.ref A.pl)/\List.lookup ("absent":Str) (seaF A l r v)=some (.ref A.da)/\List.lookup ("sheets":Str) (seaF A l r v)=some (.ref A.ls)/\List.lookup ("sheet":Str) (seaF A l r v)=some v/\List.lookup ("standing":Str) (seaF A l r v)=some (.ref A.lt):=by
 have d:∀ a b:Str,decide (a=b)=false->(a == b)=false:=fun a b h=>zqn.mpr (of_decide_eq_false h);have e1:=d "rest" "length" ⋯;have e2:=d "roster" "length" ⋯;have e3:=d "roster" "rest" ⋯;have f1:=d "ledger" "length" ⋯;have f2:=d "ledger" "rest" ⋯;have f3:=d "ledger" "roster" ⋯;have g1:=d "absent" "length" ⋯;have g2:=d "absent" "rest" ⋯;have g3:=d "absent" "roster" ⋯;have g4:=d "absent" "ledger" ⋯;have h1:=d "sheets" "length" ⋯;have h2:=d "sheets" "rest" ⋯;have h3:=d "sheets" "roster" ⋯;have h4:=d "sheets" "ledger" ⋯;have h5:=d "sheets" "absent" ⋯;have i1:=d "sheet" "length" ⋯;have i2:=d "sheet" "rest" ⋯;have i3:=d "sheet" "roster" ⋯;have i4:=d "sheet" "ledger" ⋯;have i5:=d "sheet" "absent" ⋯;have i6:=d "sheet" "sheets" ⋯;have j1:=d "standing" "length" ⋯;have j2:=d "standing" "rest" ⋯;have j3:=d "standing" "roster" ⋯;have j4:=d "standing" "ledger" ⋯;have j5:=d "standing" "absent" ⋯;have j6:=d "standing" "sheets" ⋯;have j7:=d "standing" "sheet" ⋯;unfold seaF;refine⟨?_,?_,?_,?_,?_,?_,?_,?_⟩<;>simp only[zq3,beq_self_eq_true,e1,e2,e3,f1,f2,f3,g1,g2,g3,g4,h1,h2,h3,h4,h5,i1,i2,i3,i4,i5,i6,j1,j2,j3,j4,j5,j6,j7]
theorem Jq:List.lookup ("length":Str) (seaF A l r v)=some (.int l):=(Fm A l r v).1
theorem zcn:List.lookup ("rest":Str) (seaF A l r v)=some (.int r):=(Fm A l r v).2.1
theorem Wt:List.lookup ("roster":Str) (seaF A l r v)=some (.ref A.pr):=(Fm A l r v).2.2.1
theorem Ub:List.lookup ("ledger":Str) (seaF A l r v)=some (.ref A.pl):=(Fm A l r v).2.2.2.1
theorem Tw:List.lookup ("absent":Str) (seaF A l r v)=some (.ref A.da):=(Fm A l r v).2.2.2.2.1
theorem Jr:List.lookup ("sheets":Str) (seaF A l r v)=some (.ref A.ls):=(Fm A l r v).2.2.2.2.2.1
theorem X5:List.lookup ("sheet":Str) (seaF A l r v)=some v:=(Fm A l r v).2.2.2.2.2.2.1
theorem Vt:List.lookup ("standing":Str) (seaF A l r v)=some (.ref A.lt):=(Fm A l r v).2.2.2.2.2.2.2
theorem Ye(h:(["length","rest","roster","ledger","absent","sheets","sheet","standing"]:List Str).all (fun x=>!decide (m=x))=true):List.lookup m (seaF A l r v)=none:=by
 simp only[List.all_cons,List.all_nil,Bool.and_true,zrm,Bool.not_eq_true',decide_eq_false_iff_not] at h;obtain⟨h1,h2,h3,h4,h5,h6,h7,h8⟩:=h;have e:∀ x:Str,¬ m=x->(m == x)=false:=fun x z=>zqn.mpr z;unfold seaF;simp only[zq3,e _ h1,e _ h2,e _ h3,e _ h4,e _ h5,e _ h6,e _ h7,e _ h8,List.lookup_nil]
theorem Zu.same(h:Zu ca H A S)(e:Same H H'):Zu ca H' A S:=by
 obtain⟨⟨dx,v,a1,a2⟩,b,c,⟨kvs,d1,d2⟩,⟨vs,f1,f2⟩,⟨us,g1,g2⟩,nd,np⟩:=h;have k:∀ x o,x∉A.fp->H x=some o->H' x=some o:=fun _ _ _ q=>e _ _ q;have kt:∀ t xs,H t=some (.tup xs)->H' t=some (.tup xs):=fun _ _ q=>e _ _ q;exact⟨⟨dx,v,e _ _ a1,a2.keep k kt⟩,b.same e,c.same e,⟨kvs,e _ _ d1,d2⟩,⟨vs,e _ _ f1,f2.keep k kt⟩,⟨us,e _ _ g1,g2.keep k kt⟩,nd,np⟩
theorem FrS.of(A:SAd)(e:Same H H'):FrS A H H':=fun b o q _=>e b o q
theorem FrS.trans(h1:FrS A H H')(h2:FrS A H' H2):FrS A H H2:=fun b o e n=>h2 b o (h1 b o e n) n
theorem Zu.there(h:Zu ca H A S):∀ x∈A.fp,∃ o,H x=some o:=by
 obtain⟨⟨dx,v,a1,_⟩,⟨⟨_,_,_,b2,_⟩,_⟩,⟨_,⟨rs,c2,_⟩,⟨ks,c3,_⟩⟩,⟨kvs,d1,_⟩,⟨vs,f1,_⟩,⟨us,g1,_⟩,nd,np⟩:=h;intro x hx;simp only[SAd.fp,zp7,zq2,or_false] at hx;rcases hx with rfl|rfl|rfl|rfl|rfl|rfl|rfl
 ·exact⟨_,a1⟩
 ·exact⟨_,b2⟩
 ·exact⟨_,c2⟩
 ·exact⟨_,c3⟩
 ·exact⟨_,d1⟩
 ·exact⟨_,f1⟩
 ·exact⟨_,g1⟩
theorem Zu.newOk(h:Zu ca H A S):Cb (·∉A.fp) H:=fun x hx hm=>by
 obtain⟨o,e⟩:=h.there x hm;rw[e] at hx;cases hx
theorem Zu.tups(h:Zu ca H A S)(f:FrS A H H'):∀ t xs,H t=some (.tup xs)->H' t=some (.tup xs):=fun t xs e=>f t _ e fun hm=>by
 obtain⟨⟨dx,v,a1,_⟩,⟨⟨_,_,_,b2,_⟩,_⟩,⟨_,⟨rs,c2,_⟩,⟨ks,c3,_⟩⟩,⟨kvs,d1,_⟩,⟨vs,f1,_⟩,⟨us,g1,_⟩,nd,np⟩:=h;simp only[SAd.fp,zp7,zq2,or_false] at hm;rcases hm with rfl|rfl|rfl|rfl|rfl|rfl|rfl
 ·rw[a1] at e;cases e
 ·rw[b2] at e;cases e
 ·rw[c2] at e;cases e
 ·rw[c3] at e;cases e
 ·rw[d1] at e;cases e
 ·rw[f1] at e;cases e
 ·rw[g1] at e;cases e
end
def atV(S:Sea):Int:=(S.led.length:Int)+1
inductive Uj(ca:CA)(vs:List V)(H:Hp)(Q:VK)(_:XK):Prop where
 | mk(A:SAd)(S:Sea)(_:vs=[.ref A.p])(_:Zu ca H A S)(_:Q (.int (atV S)) H)
inductive Oi(ca:CA)(vs:List V)(H:Hp)(Q:VK)(E:XK):Prop where
 | mk(A:SAd)(S:Sea)(_:vs=[.ref A.p])(_:Zu ca H A S)(_:if S.len<=S.led.length then E (.ref ca.seaOver) none H else Q .non H)
inductive Oj(ca:CA)(vs:List V)(H:Hp)(Q:VK)(E:XK):Prop where
 | mk(A:SAd)(S:Sea)(_:vs=[.ref A.p])(_:Zu ca H A S)(_:if S.len<=S.led.length then E (.ref ca.seaOver) none H else if S.cur.isSome then E (.ref ca.drawn) none H else Q .non H)
inductive Me(ca:CA)(vs:List V)(H:Hp)(Q:VK)(E:XK):Prop where
 | mk(A:SAd)(S:Sea)(at_:Int)(_:vs=[.ref A.p,.int at_])(_:Zu ca H A S)(_:Z6 at_)(_:if at_<1\/(S.len:Int)<at_ then E (.ref ca.noRound) none H else Q .non H)
inductive Hl(ca:CA)(vs:List V)(H:Hp)(Q:VK)(E:XK):Prop where
 | mk(A:SAd)(S:Sea)(_:vs=[.ref A.p])(_:Zu ca H A S)(_:if 100<=S.std.length then E (.ref ca.manyD) none H else Q .non H)
inductive Hm(ca:CA)(vs:List V)(H:Hp)(Q:VK)(_:XK):Prop where
 | mk(A:SAd)(S:Sea)(w:Str)(n at_:Int)(_:vs=[.ref A.p,.str w,.int n,.int at_])(_:Zu ca H A S)(_:S.std.length<=1000)(_:∀ H',Zu ca H' A { S with std:=S.std++[((w,n,at_),S.cur)] }->FrS A H H'->Q .non H')
inductive Qu(ca:CA)(vs:List V)(H:Hp)(Q:VK)(E:XK):Prop where
 | mk(A:SAd)(S:Sea)(_:vs=[.ref A.p])(_:Zu ca H A S)(_:(S.cur=none->E (.ref ca.notDrawn) none H))(_:∀ s q,S.cur=some s->ShAt ca.sheet (·∉A.fp) H q s->Q (.ref q) H)
def V8(S:Sea)(at_:Int):Option Z5:=if at_<=S.led.length then S.old[(at_-1).toNat]? else if (S.led.length:Int)+1<at_ then none else S.cur
inductive Js(ca:CA)(vs:List V)(H:Hp)(Q:VK)(E:XK):Prop where
 | mk(A:SAd)(S:Sea)(at_:Int)(_:vs=[.ref A.p,.int at_])(_:Zu ca H A S)(_:Z6 at_)(_:S.old.length=S.led.length)(_:if at_<1\/(S.len:Int)<at_ then E (.ref ca.noRound) none H else (V8 S at_=none->E (.ref ca.notDrawn) none H)/\∀ s q,V8 S at_=some s->ShAt ca.sheet (·∉A.fp) H q s->Q (.ref q) H)
def pIn(out:List (Int×Int))(at_:Int)(m:P3):Bool:=decide ((at_,m.1)∈out)
def Hn(S:Sea)(m:P3):List Int:=(S.ppl.filter fun x=>(Iv S.led x.1 x.2.1 x.2.2 m.1 m.2.1 m.2.2 (pIn S.out (atV S) x) S.rest).isEmpty).map (·.1)
def mayS(S:Sea)(ms:List P3):List (List Int):=ms.map (Hn S)
inductive Qv(ca:CA)(vs:List V)(H:Hp)(Q:VK)(_:XK):Prop where
 | mk(A:SAd)(S:Sea)(l:Addr)(ts:List V)(ms:List P3)(_:vs=[.ref A.p,.ref l])(_:Zu ca H A S)(_:H l=some (.lst ts))(_:Z0 H ts (ms.map pV))(_:ms.length<=100)(_:S.ppl.length<=100)(_:(∀ x∈S.ppl,Z6 x.1))(_:∀ l' ls H',H' l'=some (.lst (ls.map V.ref))->ILs H' ls (mayS S ms)->Same H H'->H l'=none->(∀ x∈ls,H x=none)->Q (.ref l') H')
def badM(m:P3):Prop:=m.1<1\/99<m.1\/m.2.1<1\/99<m.2.1\/m.2.2<1\/9<m.2.2
def Uk(Ms:List P3):Prop:=∃ m∈Ms,badM m
def V9(Ms:List P3):Prop:=∃ m∈Ms,m.1=m.2.1
def Ol(m:P3):Prop:=Z6 m.1/\Z6 m.2.1/\Z6 m.2.2
theorem Jt{p:P3->Prop}{Ms:List P3}{i:Nat}{m:P3}(e:Ms[i]?=some m)(h:∀ x∈Ms.take i,¬ p x)(hm:¬ p m):∀ x∈Ms.take (i+1),¬ p x:=fun x hx=>by
 rw[zre,e] at hx;rcases zqi.mp hx with q|q
 ·exact h x q
 ·simp at q;subst q;exact hm
inductive Fn(K:Frag)(ca:CA)(vs:List V)(H:Hp)(Q:VK)(E:XK):Prop where
 | mk(b)(ts)(_:vs=[.ref b])(_:SqL K H b ts)(_:ts.length<=1000)(_:(20<ts.length->E (.ref ca.manyM) none H))(_:(ts.length<=20->Q .non H))
inductive Ju(K:Frag)(ca:CA)(vs:List V)(H:Hp)(Q:VK)(E:XK):Prop where
 | mk(b:Addr)(ts:List V)(Ms:List P3)(_:vs=[.ref b])(_:SqL K H b ts)(_:Z0 H ts (Ms.map pV))(_:(∀ m∈Ms,Ol m))(_:(Uk Ms->E (.ref ca.out) none H))(_:(¬ Uk Ms->Q .non H))
inductive Fo(K:Frag)(ca:CA)(vs:List V)(H:Hp)(Q:VK)(E:XK):Prop where
 | mk(b:Addr)(ts:List V)(Ms:List P3)(_:vs=[.ref b])(_:SqL K H b ts)(_:Z0 H ts (Ms.map pV))(_:(∀ m∈Ms,Ol m))(_:(V9 Ms->E (.ref ca.same) none H))(_:(¬ V9 Ms->Q .non H))
inductive Ld(K:Frag)(ca:CA)(vs:List V)(H:Hp)(Q:VK)(E:XK):Prop where
 | mk(b:Addr)(ts:List V)(Ms:List P3)(_:vs=[.ref b])(_:SqL K H b ts)(_:Z0 H ts (Ms.map pV))(_:(∀ m∈Ms,Ol m))(_:Ms.length<=1000)(_:(20<Ms.length->E (.ref ca.manyM) none H))(_:(Ms.length<=20->Uk Ms->E (.ref ca.out) none H))(_:(Ms.length<=20->¬ Uk Ms->V9 Ms->E (.ref ca.same) none H))(_:(Ms.length<=20->¬ Uk Ms->¬ V9 Ms->∀ l,H l=none->Q (.ref l) (upd H l (.lst ts))))
theorem S5.isSome(h:S5 kvs out)(i n:Int):(valV kvs [inl i,inl n]).isSome=decide ((i,n)∈out):=h.1 i n
theorem Le{A:SAd}(nd:A.fp.Nodup):(A.p≠A.dr/\A.p≠A.lr/\A.p≠A.ld/\A.p≠A.da/\A.p≠A.ls/\A.p≠A.lt)/\(A.dr≠A.lr/\A.dr≠A.ld/\A.dr≠A.da/\A.dr≠A.ls/\A.dr≠A.lt)/\(A.lr≠A.ld/\A.lr≠A.da/\A.lr≠A.ls/\A.lr≠A.lt)/\(A.ld≠A.da/\A.ld≠A.ls/\A.ld≠A.lt)/\(A.da≠A.ls/\A.da≠A.lt)/\A.ls≠A.lt:=by
 simp only[SAd.fp,zqt,zp7,zq2,or_false,not_or] at nd;obtain⟨⟨n1,n2,n3,n4,n5,n6⟩,⟨n7,n8,n9,n10,n11⟩,⟨n12,n13,n14,n15⟩,⟨n16,n17,n18⟩,⟨n19,n20⟩,n21,_⟩:=nd;exact⟨⟨n1,n2,n3,n4,n5,n6⟩,⟨n7,n8,n9,n10,n11⟩,⟨n12,n13,n14,n15⟩,⟨n16,n17,n18⟩,⟨n19,n20⟩,n21⟩
theorem zco{R:RL}(nd:(R.map (·.1)).Nodup){x y:P3}(hx:x∈R)(hy:y∈R)(h:x.1=y.1):x=y:=by
 induction R with
 | nil=>cases hx
 | cons z R ih =>
   rw[zqc,zqt] at nd;rcases zp7.mp hx with e|e<;>rcases zp7.mp hy with e'|e'
   ·rw[e,e']
   ·exact absurd (zqh.mpr ⟨y,e',by rw[<- h,e]⟩) nd.1
   ·exact absurd (zqh.mpr ⟨x,e,by rw[h,e']⟩) nd.1
   ·exact ih nd.2 e e'
def outV(S:Sea):List V:=(S.ppl.filter (pIn S.out (atV S))).map fun x=>V.int x.1
theorem za3(S:Sea):∀ x∈outV S,oneV x:=fun x hx=>by
 unfold outV at hx;obtain⟨m,_,rfl⟩:=zqh.mp hx;exact .inr ⟨_,rfl⟩
theorem zcp(hx:x∈S.ppl):inV (.int x.1) (outV S)=pIn S.out (atV S) x:=by
 unfold outV;rw[show ((S.ppl.filter (pIn S.out (atV S))).map fun x=>V.int x.1)=((S.ppl.filter (pIn S.out (atV S))).map (·.1)).map V.int by rw[zrj];rfl,Iz];unfold pIn;by_cases h:(atV S,x.1)∈S.out
 ·rw[zp8 h,zp8];exact zqh.mpr ⟨x,zq9.mpr ⟨hx,zp8 h⟩,rfl⟩
 ·rw[zqd h,zqd];intro z;obtain⟨y,h1,h2⟩:=zqh.mp z;have:=of_decide_eq_true (zq9.mp h1).2;rw[h2] at this;exact h this
theorem ze0(S:Sea)(m:P3):((S.ppl.filter (S4 S.led m.1 m.2.1 m.2.2 (outV S) S.rest)).map fun x=>V.int x.1)=(Hn S m).map V.int:=by
 unfold Hn;rw[zrj];have:S.ppl.filter (S4 S.led m.1 m.2.1 m.2.2 (outV S) S.rest)=S.ppl.filter fun x=>(Iv S.led x.1 x.2.1 x.2.2 m.1 m.2.1 m.2.2 (pIn S.out (atV S) x) S.rest).isEmpty:=by
  refine List.filter_congr fun x hx=>?_;unfold S4;rw[zcp hx]
 rw[this];rfl
theorem za4:atI (xs++[x]) (-1)=some x:=by
 have hl:(xs++[x]).length=xs.length+1:=by rw[zp6];rfl
 unfold atI ixN;rw[if_neg ⋯,if_pos ⋯];show (xs++[x])[((-1:Int)+(xs++[x]).length).toNat]?=_;rw[show ((-1:Int)+(xs++[x]).length).toNat=xs.length by omega,zqy (zqa _),Nat.sub_self];rfl
theorem Wm.unsnoc{ok:Addr->Prop}{H:Hp}{n:Int}{st:List (Nat×Option Int)}:∀ {vs:List V} {G:List (Int×List (Nat×Option Int))},Wm ok H vs (G++[(n,st)])->∃ vs' t l us,vs=vs'++[.ref t]/\H t=some (.tup [.int n,.ref l])/\H l=some (.lst us)/\Z0 H us (st.map Vf)/\ok l
 | _,[],.cons h hl tl o .nil=>⟨[],_,_,_,rfl,h,hl,tl,o⟩
 | _,_ :: _,.cons h hl tl o r=>by
   obtain⟨vs',t,l,us,e,a⟩:=Wm.unsnoc r;exact⟨_ :: vs',t,l,us,by rw[e];rfl,a⟩
def S7(S:Sea):Prop:=(∀ x∈S.ppl,¬ badI x.1 x.2.1 x.2.2)/\S.ppl.length<=30
theorem S7.small(h:S7 S):∀ x∈S.ppl,Z6 x.1:=fun x hx=>by
 have:=h.1 x hx;unfold badI at this;exact Yj ⋯ ⋯
theorem S7.may(h:S7 S)(nd:(S.ppl.map (·.1)).Nodup)(hm:ms.length<=20):Nd (mayS S ms) (S.ppl.map (·.1)):=by
 refine⟨by unfold mayS;rw[zp3];exact hm,by rw[zp3];exact h.2,nd,fun n hn=>?_,fun r hr=>?_⟩
 ·obtain⟨x,hx,rfl⟩:=zqh.mp hn;have:=h.1 x hx;unfold badI at this;omega
 ·unfold mayS at hr;obtain⟨m,_,rfl⟩:=zqh.mp hr;unfold Hn;exact⟨nd.sublist (List.Sublist.map _ List.filter_sublist),fun n hn=>by
   obtain⟨x,hx,rfl⟩:=zqh.mp hn;exact zqh.mpr ⟨x,(zq9.mp hx).1,rfl⟩⟩
section
variable{ca:CA}{H H':Hp}{A:SAd}{S:Sea}
theorem Nh(h:Zu ca H A S)(hx:x∈A.fp):A.pr≠x/\A.pl≠x:=⟨fun z=>h.np.1 (by rw[z];exact hx),fun z=>h.np.2 (by rw[z];exact hx)⟩
theorem FrS.one(hx:x∈A.fp)(k:∀ b o,H b=some o->b≠x->H' b=some o):FrS A H H':=fun b o e hb=>k b o e fun z=>hb (by rw[z];exact hx)
theorem Zu.setRos(h:Zu ca H A S)(r:Yy ca.roster H' A.pr A.dr R)(k:∀ b o,H b=some o->b≠A.dr->H' b=some o):Zu ca H' A { S with ppl:=R }/\FrS A H H':=by
 have f:FrS A H H':=.one (by simp[SAd.fp]) k;have kt:=h.tups f;have ko:∀ x o,x∉A.fp->H x=some o->H' x=some o:=fun x o hx e=>f x o e hx;obtain⟨⟨n1,n2,n3,n4,n5,n6⟩,⟨n7,n8,n9,n10,n11⟩,⟨n12,n13,n14,n15⟩,⟨n16,n17,n18⟩,⟨n19,n20⟩,n21⟩:=Le h.nd;have np:=Nh h (show A.dr∈A.fp by simp[SAd.fp]);obtain⟨⟨dx,v,a1,a2⟩,b,c,⟨kvs,d1,d2⟩,⟨vs,f1,f2⟩,⟨us,g1,g2⟩,nd,np'⟩:=h;exact⟨⟨⟨dx,v,k _ _ a1 n1,a2.keep ko kt⟩,r,c.keep (fun o e=>k _ o e np.2) (fun o e=>k _ o e (Ne.symm n7)) (fun o e=>k _ o e (Ne.symm n8)) kt,⟨kvs,k _ _ d1 (Ne.symm n9),d2⟩,⟨vs,k _ _ f1 (Ne.symm n10),f2.keep ko kt⟩,⟨us,k _ _ g1 (Ne.symm n11),g2.keep ko kt⟩,nd,np'⟩,f⟩
theorem Zu.setOut{out:List (Int×Int)}{kvs:List (List Key×V)}(h:Zu ca H A S)(hd:H' A.da=some (.dT kvs))(ok:S5 kvs out)(k:∀ b o,H b=some o->b≠A.da->H' b=some o):Zu ca H' A { S with out:=out }/\FrS A H H':=by
 have f:FrS A H H':=.one (by simp[SAd.fp]) k;have kt:=h.tups f;have ko:∀ x o,x∉A.fp->H x=some o->H' x=some o:=fun x o hx e=>f x o e hx;obtain⟨⟨n1,n2,n3,n4,n5,n6⟩,⟨n7,n8,n9,n10,n11⟩,⟨n12,n13,n14,n15⟩,⟨n16,n17,n18⟩,⟨n19,n20⟩,n21⟩:=Le h.nd;have np:=Nh h (show A.da∈A.fp by simp[SAd.fp]);obtain⟨⟨dx,v,a1,a2⟩,b,c,⟨kvs',d1,d2⟩,⟨vs,f1,f2⟩,⟨us,g1,g2⟩,nd,np'⟩:=h;exact⟨⟨⟨dx,v,k _ _ a1 n4,a2.keep ko kt⟩,b.keep (fun o e=>k _ o e np.1) (fun o e=>k _ o e n9) kt,c.keep (fun o e=>k _ o e np.2) (fun o e=>k _ o e n13) (fun o e=>k _ o e n16) kt,⟨kvs,hd,ok⟩,⟨vs,k _ _ f1 (Ne.symm n19),f2.keep ko kt⟩,⟨us,k _ _ g1 (Ne.symm n20),g2.keep ko kt⟩,nd,np'⟩,f⟩
theorem Zu.setCur(h:Zu ca H A S)(hp:∃ dx,H' A.p=some (.ins ca.season dx (seaF A S.len S.rest v)))(sh:ShO ca.sheet (·∉A.fp) H' v cur)(k:∀ b o,H b=some o->b≠A.p->H' b=some o):Zu ca H' A { S with cur:=cur }/\FrS A H H':=by
 have f:FrS A H H':=.one (by simp[SAd.fp]) k;have kt:=h.tups f;have ko:∀ x o,x∉A.fp->H x=some o->H' x=some o:=fun x o hx e=>f x o e hx;obtain⟨⟨n1,n2,n3,n4,n5,n6⟩,⟨n7,n8,n9,n10,n11⟩,⟨n12,n13,n14,n15⟩,⟨n16,n17,n18⟩,⟨n19,n20⟩,n21⟩:=Le h.nd;have np:=Nh h (show A.p∈A.fp by simp[SAd.fp]);obtain⟨⟨dx,v',a1,a2⟩,b,c,⟨kvs',d1,d2⟩,⟨vs,f1,f2⟩,⟨us,g1,g2⟩,nd,np'⟩:=h;obtain⟨dx',hp⟩:=hp;exact⟨⟨⟨dx',v,hp,sh⟩,b.keep (fun o e=>k _ o e np.1) (fun o e=>k _ o e (Ne.symm n1)) kt,c.keep (fun o e=>k _ o e np.2) (fun o e=>k _ o e (Ne.symm n2)) (fun o e=>k _ o e (Ne.symm n3)) kt,⟨kvs',k _ _ d1 (Ne.symm n4),d2⟩,⟨vs,k _ _ f1 (Ne.symm n5),f2.keep ko kt⟩,⟨us,k _ _ g1 (Ne.symm n6),g2.keep ko kt⟩,nd,np'⟩,f⟩
theorem Zu.setStd{std:List (Vi×Option Z5)}{us:List V}(h:Zu ca H A S)(hd:H' A.lt=some (.lst us))(ok:Vs ca.sheet (·∉A.fp) H' us std)(k:∀ b o,H b=some o->b≠A.lt->H' b=some o):Zu ca H' A { S with std:=std }/\FrS A H H':=by
 have f:FrS A H H':=.one (by simp[SAd.fp]) k;have kt:=h.tups f;have ko:∀ x o,x∉A.fp->H x=some o->H' x=some o:=fun x o hx e=>f x o e hx;obtain⟨⟨n1,n2,n3,n4,n5,n6⟩,⟨n7,n8,n9,n10,n11⟩,⟨n12,n13,n14,n15⟩,⟨n16,n17,n18⟩,⟨n19,n20⟩,n21⟩:=Le h.nd;have np:=Nh h (show A.lt∈A.fp by simp[SAd.fp]);obtain⟨⟨dx,v,a1,a2⟩,b,c,⟨kvs,d1,d2⟩,⟨vs,f1,f2⟩,⟨us',g1,g2⟩,nd,np'⟩:=h;exact⟨⟨⟨dx,v,k _ _ a1 n6,a2.keep ko kt⟩,b.keep (fun o e=>k _ o e np.1) (fun o e=>k _ o e n11) kt,c.keep (fun o e=>k _ o e np.2) (fun o e=>k _ o e n15) (fun o e=>k _ o e n18) kt,⟨kvs,k _ _ d1 n20,d2⟩,⟨vs,k _ _ f1 n21,f2.keep ko kt⟩,⟨us,hd,ok⟩,nd,np'⟩,f⟩
theorem Zu.setOld{old:List Z5}{us:List V}(h:Zu ca H A S)(hd:H' A.ls=some (.lst us))(ok:ShL ca.sheet (·∉A.fp) H' us old)(k:∀ b o,H b=some o->b≠A.ls->H' b=some o):Zu ca H' A { S with old:=old }/\FrS A H H':=by
 have f:FrS A H H':=.one (by simp[SAd.fp]) k;have kt:=h.tups f;have ko:∀ x o,x∉A.fp->H x=some o->H' x=some o:=fun x o hx e=>f x o e hx;obtain⟨⟨n1,n2,n3,n4,n5,n6⟩,⟨n7,n8,n9,n10,n11⟩,⟨n12,n13,n14,n15⟩,⟨n16,n17,n18⟩,⟨n19,n20⟩,n21⟩:=Le h.nd;have np:=Nh h (show A.ls∈A.fp by simp[SAd.fp]);obtain⟨⟨dx,v,a1,a2⟩,b,c,⟨kvs,d1,d2⟩,⟨vs,f1,f2⟩,⟨us',g1,g2⟩,nd,np'⟩:=h;exact⟨⟨⟨dx,v,k _ _ a1 n5,a2.keep ko kt⟩,b.keep (fun o e=>k _ o e np.1) (fun o e=>k _ o e n10) kt,c.keep (fun o e=>k _ o e np.2) (fun o e=>k _ o e n14) (fun o e=>k _ o e n17) kt,⟨kvs,k _ _ d1 n19,d2⟩,⟨us,hd,ok⟩,⟨us',k _ _ g1 (Ne.symm n21),g2.keep ko kt⟩,nd,np'⟩,f⟩
theorem Zu.setLed(h:Zu ca H A S)(l:Vr ca.ledger H' A.pl A.lr A.ld Rs)(k:∀ b o,H b=some o->b≠A.lr->b≠A.ld->H' b=some o):Zu ca H' A { S with led:=Rs }/\FrS A H H':=by
 have f:FrS A H H':=fun b o e hb=>k b o e (fun z=>hb (by rw[z];simp[SAd.fp])) (fun z=>hb (by rw[z];simp[SAd.fp]));have kt:=h.tups f;have ko:∀ x o,x∉A.fp->H x=some o->H' x=some o:=fun x o hx e=>f x o e hx;obtain⟨⟨n1,n2,n3,n4,n5,n6⟩,⟨n7,n8,n9,n10,n11⟩,⟨n12,n13,n14,n15⟩,⟨n16,n17,n18⟩,⟨n19,n20⟩,n21⟩:=Le h.nd;have np:=Nh h (show A.lr∈A.fp by simp[SAd.fp]);have np2:=Nh h (show A.ld∈A.fp by simp[SAd.fp]);obtain⟨⟨dx,v,a1,a2⟩,b,c,⟨kvs,d1,d2⟩,⟨vs,f1,f2⟩,⟨us',g1,g2⟩,nd,np'⟩:=h;exact⟨⟨⟨dx,v,k _ _ a1 n2 n3,a2.keep ko kt⟩,b.keep (fun o e=>k _ o e np.1 np2.1) (fun o e=>k _ o e n7 n8) kt,l,⟨kvs,k _ _ d1 (Ne.symm n13) (Ne.symm n16),d2⟩,⟨vs,k _ _ f1 (Ne.symm n14) (Ne.symm n17),f2.keep ko kt⟩,⟨us',k _ _ g1 (Ne.symm n15) (Ne.symm n18),g2.keep ko kt⟩,nd,np'⟩,f⟩
theorem Qw:putF "sheet" v' (seaF A l r v)=seaF A l r v':=by
 have n1:¬ (("length":Str)="sheet"):=by decide +kernel
 have n2:¬ (("rest":Str)="sheet"):=by decide +kernel
 have n3:¬ (("roster":Str)="sheet"):=by decide +kernel
 have n4:¬ (("ledger":Str)="sheet"):=by decide +kernel
 have n5:¬ (("absent":Str)="sheet"):=by decide +kernel
 have n6:¬ (("sheets":Str)="sheet"):=by decide +kernel
 simp only[putF,seaF,if_neg n1,if_neg n2,if_neg n3,if_neg n4,if_neg n5,if_neg n6,if_true]
theorem FrS.free(f:FrS A H H')(h:Zu ca H' A S')(hl:H' l=none):H l=none:=by
 cases e:H l with
 | none=>rfl
 | some o =>
   by_cases hm:l∈A.fp
   ·obtain⟨o',e'⟩:=h.there l hm;rw[e'] at hl;cases hl
   ·rw[f l o e hm] at hl;cases hl
theorem ShAt.ins(h:ShAt ca.sheet (·∉A.fp) H q s):∃ dx l1 l2 l3 l4,H q=some (.ins ca.sheet dx (shF l1 l2 l3 l4)):=by
 obtain⟨dx,l1,l2,l3,l4,_,_,_,a1,_⟩:=h;exact⟨dx,l1,l2,l3,l4,a1⟩
theorem Zu.newSheet(h:Zu ca H A S)(hp:H A.p=some (.ins ca.season dx (seaF A S.len S.rest v)))(sh:ShAt ca.sheet (·∉A.fp) H q s) :
  Zu ca (upd H A.p (.ins ca.season dx (putF "sheet" (.ref q) (seaF A S.len S.rest v)))) A { S with cur:=some s }/\FrS A H (upd H A.p (.ins ca.season dx (putF "sheet" (.ref q) (seaF A S.len S.rest v))))/\ShAt ca.sheet (·∉A.fp) (upd H A.p (.ins ca.season dx (putF "sheet" (.ref q) (seaF A S.len S.rest v)))) q s:=by
 have k:∀ b o,H b=some o->b≠A.p->upd H A.p (.ins ca.season dx (putF "sheet" (.ref q) (seaF A S.len S.rest v))) b=some o:=fun b o e n=>by rw[Zh n];exact e
 have sh':=sh.keep (H':=upd H A.p (.ins ca.season dx (putF "sheet" (.ref q) (seaF A S.len S.rest v)))) (fun x o hx e=>k x o e fun z=>hx (by rw[z];simp[SAd.fp])) (fun t xs e=>k t _ e (Z9 e hp (fun z=>nomatch z)));obtain⟨h1,h2⟩:=h.setCur (cur:=some s) (v:=.ref q) ⟨dx,by rw[Zb];exact congrArg (fun x=>some (HO.ins ca.season dx x)) Qw⟩ ⟨q,rfl,sh'⟩ k;exact⟨h1,h2,sh'⟩
theorem Kp:putF "standing" (.ref x) (seaF A l r v)=seaF { A with lt:=x } l r v:=by
 have n1:¬ (("length":Str)="standing"):=by decide +kernel
 have n2:¬ (("rest":Str)="standing"):=by decide +kernel
 have n3:¬ (("roster":Str)="standing"):=by decide +kernel
 have n4:¬ (("ledger":Str)="standing"):=by decide +kernel
 have n5:¬ (("absent":Str)="standing"):=by decide +kernel
 have n6:¬ (("sheets":Str)="standing"):=by decide +kernel
 have n7:¬ (("sheet":Str)="standing"):=by decide +kernel
 simp only[putF,seaF,if_neg n1,if_neg n2,if_neg n3,if_neg n4,if_neg n5,if_neg n6,if_neg n7,if_true]
end
def Ho(r q:Nat):Sea:=⟨r,q,[],[],[],[],none,[]⟩
inductive Ce(ca:CA)(vs:List V)(H:Hp)(Q:VK)(E:XK):Prop where
 | mk(p dx:Addr)(r q:Int)(_:vs=[.ref p,.int r,.int q])(_:H p=some (.ins ca.season dx []))(_:Z6 r)(_:Z6 q)(_:if r<0\/60<r then E (.ref ca.out) none H else if q<0\/10<q then E (.ref ca.out) none H else ∀ A H',A.p=p->Zu ca H' A (Ho r.toNat q.toNat)->(∀ b o,H b=some o->b≠p->H' b=some o)->(∀ x∈A.fp,x≠p->H x=none)->Q .non H')
inductive Cf(ca:CA)(vs:List V)(H:Hp)(Q:VK)(E:XK):Prop where
 | mk(A:SAd)(S:Sea)(n g c:Int)(_:vs=[.ref A.p,.int n,.int g,.int c])(_:Zu ca H A S)(_:Hj n g c)(_:S.std.length<=1000)(_:S.ppl.length<=1000)(_:if S.len<=S.led.length then E (.ref ca.seaOver) none H else if S.cur.isSome then E (.ref ca.drawn) none H else if badI n g c then E (.ref ca.out) none H else if n∈S.ppl.map (·.1) then E (.ref ca.known) none H else if 30<=S.ppl.length then E (.ref ca.many) none H else if 100<=S.std.length then E (.ref ca.manyD) none H else ∀ H',Zu ca H' A { S with ppl:=S.ppl++[(n,g,c)],std:=S.std++[(((("enrol":Str),n,atV S):Vi),S.cur)] }->FrS A H H'->Q .non H')
def za5(S:Sea)(ms:List P3)(gv:List V):Sea:={ S with cur:=some ⟨ms,mayS S ms,gv,[]⟩,std:=S.std++[(((("draw up":Str),(ms.length:Int),atV S):Vi),S.cur)] }
inductive Fp(K:Frag)(ca:CA)(vs:List V)(H:Hp)(Q:VK)(E:XK):Prop where
 | mk(A:SAd)(S:Sea)(b:Addr)(ts:List V)(ms:List P3)(_:vs=[.ref A.p,.ref b])(_:Zu ca H A S)(_:SqL K H b ts)(_:Z0 H ts (ms.map pV))(_:(∀ m∈ms,Ol m))(_:ms.length<=1000)(_:S.std.length<=1000)(_:S7 S)(_:if S.len<=S.led.length then E (.ref ca.seaOver) none H else if S.cur.isSome then E (.ref ca.drawn) none H else (20<ms.length->E (.ref ca.manyM) none H)/\(ms.length<=20->Uk ms->E (.ref ca.out) none H)/\(ms.length<=20->¬ Uk ms->V9 ms->E (.ref ca.same) none H)/\(ms.length<=20->¬ Uk ms->¬ V9 ms->(100<=S.std.length->∀ H',Same H H'->E (.ref ca.manyD) none H')/\(S.std.length<100->∀ l gv H',H' l=some (.lst gv)->Zu ca H' A (za5 S ms gv)->Yp (mayS S ms) gv->Vh (mayS S ms) gv->FrS A H H'->H l=none->Q (.ref l) H')))
inductive Fq(ca:CA)(vs:List V)(H:Hp)(Q:VK)(_:XK):Prop where
 | mk(A:SAd)(S:Sea)(n:Int)(s:Z5)(nu:List Int)(_:vs=[.ref A.p,.int n])(_:Zu ca H A S)(_:S.cur=some s)(_:S7 S)(_:s.ms.length<=20)(_:(∀ x∈s.gv,oneV x))(_:s.gv.length<=100)(_:s.gaps.length<=500)(_:Nd (mayS S s.ms) nu)(_:(X2 s.gv n=none->∀ l H',H' l=some (.lst [])->Zu ca H' A { S with cur:=some { s with may:=mayS S s.ms } }->FrS A H H'->H l=none->Q (.ref l) H'))(_:∀ p,X2 s.gv n=some p->s.gv[p]?=some (.int n)/\(∀ j:Nat,s.gv[j]?=some (.int n)->j=p)/\Yp (mayS S s.ms) (s.gv.set p .non)/\∀ l us st e w H',H' l=some (.lst us)->Z0 H' us (st.map Vf)->Y3 (mayS S s.ms) (s.gv.set p .non) p st e w->Zu ca H' A { S with cur:=some ⟨s.ms,mayS S s.ms,Ym st (s.gv.set p .non),s.gaps++[(n,st)]⟩ }->FrS A H H'->H l=none->Q (.ref l) H')
def Xa(S:Sea)(i n:Int):Sea:={ S with out:=S.out++[(i,n)],std:=S.std++[((("away":Str),n,i),S.cur)] }
inductive za6(ca:CA)(vs:List V)(H:Hp)(Q:VK)(E:XK):Prop where
 | mk(A:SAd)(S:Sea)(i n:Int)(_:vs=[.ref A.p,.int i,.int n])(_:Zu ca H A S)(_:Z6 i)(_:Z6 n)(_:S.std.length<=1000)(_:S.out.length<=100000)(_:S7 S)(_:(∀ s,S.cur=some s->s.ms.length<=20/\Yp s.may s.gv/\s.may=mayS S s.ms/\s.gaps.length<=500))(_:if i<1\/(S.len:Int)<i then E (.ref ca.noRound) none H else if i<=S.led.length then E (.ref ca.over) none H else if n∈S.ppl.map (·.1) then (if (i,n)∈S.out then ∀ H',Same H H'->E (.ref ca.away) none H' else if 100<=S.std.length then ∀ H',Same H H'->E (.ref ca.manyD) none H' else (S.cur=none\/atV S<i->∀ l H',H' l=some (.lst [])->Zu ca H' A (Xa S i n)->FrS A H H'->H l=none->Q (.ref l) H')/\(∀ s,i=atV S->S.cur=some s->X2 s.gv n=none->∀ l H',H' l=some (.lst [])->Zu ca H' A { Xa S i n with cur:=some { s with may:=mayS (Xa S i n) s.ms } }->FrS A H H'->H l=none->Q (.ref l) H')/\(∀ s p,i=atV S->S.cur=some s->X2 s.gv n=some p->∀ l us st e w H',H' l=some (.lst us)->Z0 H' us (st.map Vf)->Y3 (mayS (Xa S i n) s.ms) (s.gv.set p .non) p st e w->Zu ca H' A { Xa S i n with cur:=some ⟨s.ms,mayS (Xa S i n) s.ms,Ym st (s.gv.set p .non),s.gaps++[(n,st)]⟩ }->FrS A H H'->H l=none->Q (.ref l) H')) else E (.ref ca.unk) none H)
theorem S5.put(h:S5 kvs out)(i n:Int):S5 (putK kvs [inl i,inl n] (.bl true)) (out++[(i,n)]):=by
 refine⟨fun j m=>?_,?_⟩
 ·rw[Tq];by_cases e:j=i/\m=n
  ·rw[if_pos (Rr.mpr e),zp8 (by rw[e.1,e.2];simp)];rfl
  ·rw[if_neg (fun z=>e (Rr.mp z)),h.1 j m];by_cases hm:(j,m)∈out
   ·rw[zp8 hm,zp8 (zqv _ hm)]
   ·rw[zqd hm,zqd];intro z;rcases zqi.mp z with q|q
    ·exact hm q
    ·have:=zp9.mp q;exact e (by cases this;exact⟨rfl,rfl⟩)
 ·have:=X1 kvs ([inl i,inl n]:List Key) (.bl true);have:=h.2;rw[zp6];show _<=out.length+1;omega
theorem S5.drop(h:S5 kvs (out++[(i,n)]))(hn:(i,n)∉out):S5 (Xh kvs [inl i,inl n]) out:=by
 have hv:∀ k:List Key,valV (Xh kvs [inl i,inl n]) k=if k=[inl i,inl n] then none else valV kvs k:=fun k=>by
  clear h
  induction kvs with
  | nil=>unfold Xh;simp[valV]
  | cons x kvs ih =>
    by_cases ex:x.1=[inl i,inl n]
    ·rw[Bc ex,ih];by_cases e:k=[inl i,inl n]
     ·rw[if_pos e,if_pos e]
     ·rw[if_neg e,if_neg e,Ys (fun z=>e (z.symm.trans ex))]
    ·rw[Bd ex];by_cases ek:x.1=k
     ·rw[Yu ek,Yu ek,if_neg (fun z=>ex (ek.trans z))]
     ·rw[Ys ek,Ys ek,ih]
 refine⟨fun j m=>?_,?_⟩
 ·rw[hv];by_cases e:j=i/\m=n
  ·rw[if_pos (Rr.mpr e),zqd (by rw[e.1,e.2];exact hn)];rfl
  ·rw[if_neg (fun z=>e (Rr.mp z)),h.1 j m];by_cases hm:(j,m)∈out
   ·rw[zp8 hm,zp8 (zqv _ hm)]
   ·rw[zqd hm,zqd];intro z;rcases zqi.mp z with q|q
    ·exact hm q
    ·have:=zp9.mp q;exact e (by cases this;exact⟨rfl,rfl⟩)
 ·have h1:=h.1 i n;rw[zp8 (show (i,n)∈out++[(i,n)] by simp)] at h1;have h2:=h.2;rw[zp6] at h2;have h2:kvs.length<=out.length+1:=h2;have h3:(Xh kvs [inl i,inl n]).length<kvs.length:=by
   unfold Xh;rw[List.length_filter_lt_length_iff_exists];obtain⟨v,hv'⟩:=zrc.mp h1;unfold valV at hv';obtain⟨x,hx,_⟩:=Option.map_eq_some_iff.mp hv';refine⟨x,List.mem_of_find?_eq_some hx,?_⟩;have:=List.find?_some hx;intro z;exact of_decide_eq_true z (of_decide_eq_true this)
  omega
theorem Qx(h:X2 gv n=some p):gv[p]?=some (.int n):=by
 unfold X2 at h;have h2:decide (gv[p]?=some (V.int n))=true:=List.find?_some (p:=fun i=>decide (gv[i]?=some (V.int n))) h;exact of_decide_eq_true h2
theorem Ul:mayS (Xa S (atV S) n) ms=without (mayS S ms) n:=by
 unfold mayS without;rw[zrj];refine List.map_congr_left fun m _=>?_;show Hn (Xa S (atV S) n) m=(Hn S m).filter fun x=>decide (x≠n);unfold Hn;rw[List.filter_map,List.filter_filter]
 congr 1
 refine List.filter_congr fun x _=>?_;show (Iv S.led x.1 x.2.1 x.2.2 m.1 m.2.1 m.2.2 (pIn (S.out++[(atV S,n)]) (atV S) x) S.rest).isEmpty=(decide (x.1≠n)&&(Iv S.led x.1 x.2.1 x.2.2 m.1 m.2.1 m.2.2 (pIn S.out (atV S) x) S.rest).isEmpty);unfold pIn;by_cases e:x.1=n
 ·have h1:decide ((atV S,x.1)∈S.out++[(atV S,n)])=true:=zp8 (by rw[e];simp);rw[h1,zqd (fun z=>z e),Bool.false_and];unfold Iv bw;simp
 ·have h1:decide ((atV S,x.1)∈S.out++[(atV S,n)])=decide ((atV S,x.1)∈S.out):=by
   by_cases hm:(atV S,x.1)∈S.out
   ·rw[zp8 hm,zp8 (zqv _ hm)]
   ·rw[zqd hm,zqd];intro z;rcases zqi.mp z with q|q
    ·exact hm q
    ·have:=zp9.mp q;cases this;exact e rfl
  rw[h1,zp8 e,Bool.true_and]
def Hq(S:Sea)(s:Z5):Sea:={ S with led:=S.led++[X4 s],old:=S.old++[s],cur:=none,std:=[] }
inductive Cg(ca:CA)(vs:List V)(H:Hp)(Q:VK)(E:XK):Prop where
 | mk(A:SAd)(S:Sea)(_:vs=[.ref A.p])(_:Zu ca H A S)(_:2*(tot S.led+1000)<=100000)(_:S.led.length<=1000)(_:S.old.length<=1000)(_:(∀ s,S.cur=some s->(∀ x∈s.gv,oneV x)/\s.gv.length=s.ms.length/\s.ms.length<=1000))(_:if S.len<=S.led.length then E (.ref ca.seaOver) none H else (S.cur=none->E (.ref ca.notDrawn) none H)/\∀ s x H',S.cur=some s->Zu ca H' { A with lt:=x } (Hq S s)->FrS A H H'->H x=none->Q (.int (atV S)) H')
theorem Zu.freshStd(h:Zu ca H A S)(hx:H x=none)(hp:H A.p=some (.ins ca.season dx (seaF A S.len S.rest v)))(hv:ShO ca.sheet (·∉A.fp) H v S.cur)
  (e:H'=upd (upd H x (.lst [])) A.p (.ins ca.season dx (putF "standing" (.ref x) (seaF A S.len S.rest v)))):Zu ca H' { A with lt:=x } { S with std:=[] }/\FrS A H H':=by
 have hpx:A.p≠x:=Zg hp hx;have k:∀ b o,H b=some o->b≠A.p->H' b=some o:=fun b o q n=>by rw[e,Zh n,Zh (Zg q hx)];exact q
 have f:FrS A H H':=.one (by simp[SAd.fp]) k;have kt:=h.tups f;have hnx:∀ y,(∃ o,H y=some o)->y≠x:=fun y ⟨o,q⟩=>Zg q hx;have okk:∀ y,(∃ o,H' y=some o)->y∉A.fp->(∃ o,H y=some o)->y∉({ A with lt:=x }:SAd).fp:=fun y _ hy hH hm=>by
  simp only[SAd.fp,zp7,zq2,or_false] at hm hy;rcases hm with q|q|q|q|q|q|q
  ·exact hy (.inl q)
  ·exact hy (.inr (.inl q))
  ·exact hy (.inr (.inr (.inl q)))
  ·exact hy (.inr (.inr (.inr (.inl q))))
  ·exact hy (.inr (.inr (.inr (.inr (.inl q)))))
  ·exact hy (.inr (.inr (.inr (.inr (.inr (.inl q))))))
  ·exact hnx y hH q
 have ok2:∀ y,(∃ o,H y=some o)->y∉A.fp->y∉({ A with lt:=x }:SAd).fp:=fun y hH hy hm=>by
  simp only[SAd.fp,zp7,zq2,or_false] at hm hy;rcases hm with q|q|q|q|q|q|q
  ·exact hy (.inl q)
  ·exact hy (.inr (.inl q))
  ·exact hy (.inr (.inr (.inl q)))
  ·exact hy (.inr (.inr (.inr (.inl q))))
  ·exact hy (.inr (.inr (.inr (.inr (.inl q)))))
  ·exact hy (.inr (.inr (.inr (.inr (.inr (.inl q))))))
  ·exact hnx y hH q
 have ko:∀ y o,y∉({ A with lt:=x }:SAd).fp->H y=some o->H' y=some o:=fun y o hy q=>k y o q fun z=>hy (by rw[z];simp[SAd.fp]);have there:=h.there;obtain⟨⟨n1,n2,n3,n4,n5,n6⟩,⟨n7,n8,n9,n10,n11⟩,⟨n12,n13,n14,n15⟩,⟨n16,n17,n18⟩,⟨n19,n20⟩,n21⟩:=Le h.nd;have np:=Nh h (show A.p∈A.fp by simp[SAd.fp]);have npp:=h.np;obtain⟨⟨dx',v',a1,a2⟩,b,c,⟨kvs',d1,d2⟩,⟨vs,f1,f2⟩,⟨us,g1,g2⟩,nd,np'⟩:=h;have hpr:∃ o,H A.pr=some o:=by obtain⟨⟨_,_,q,_⟩,_⟩:=b;exact⟨_,q⟩
 have hpl:∃ o,H A.pl=some o:=by obtain⟨⟨_,q⟩,_⟩:=c;exact⟨_,q⟩
 refine⟨⟨⟨dx,v,?_,(hv.imp ok2).keep ko kt⟩,b.keep (fun o q=>k _ o q np.1) (fun o q=>k _ o q (Ne.symm n1)) kt,c.keep (fun o q=>k _ o q np.2) (fun o q=>k _ o q (Ne.symm n2)) (fun o q=>k _ o q (Ne.symm n3)) kt,⟨kvs',k _ _ d1 (Ne.symm n4),d2⟩,⟨vs,k _ _ f1 (Ne.symm n5),(f2.imp ok2).keep ko kt⟩,⟨[],?_,?_⟩,?_,⟨ok2 _ hpr npp.1,ok2 _ hpl npp.2⟩⟩,f⟩
 ·rw[e,Zb];exact congrArg (fun z=>some (HO.ins ca.season dx z)) Kp
 ·show H' x=some (.lst []);rw[e,Zh (Ne.symm hpx),Zb]
 ·exact .nil
 ·show [A.p,A.dr,A.lr,A.ld,A.da,A.ls,x].Nodup;have m:∀ y∈A.fp,y≠x:=fun y hy=>hnx y (there y hy);simp only[zqt,zp7,zq2,or_false,not_or];exact⟨⟨n1,n2,n3,n4,n5,m _ (by simp[SAd.fp])⟩,⟨n7,n8,n9,n10,m _ (by simp[SAd.fp])⟩,⟨n12,n13,n14,m _ (by simp[SAd.fp])⟩,⟨n16,n17,m _ (by simp[SAd.fp])⟩,⟨n19,m _ (by simp[SAd.fp])⟩,m _ (by simp[SAd.fp]),by simp,List.nodup_nil⟩
def za7(S:Sea)(d:Vi)(ppl:RL)(out:List (Int×Int)):Prop:=(d.1="enrol"/\(∃ g c,S.ppl=ppl++[(d.2.1,g,c)])/\out=S.out)\/(d.1="away"/\ppl=S.ppl/\S.out=out++[(d.2.2,d.2.1)]/\(d.2.2,d.2.1)∉out)\/(d.1="draw up"/\ppl=S.ppl/\out=S.out)
inductive Lg(ca:CA)(vs:List V)(H:Hp)(Q:VK)(E:XK):Prop where
 | mk(A:SAd)(S:Sea)(_:vs=[.ref A.p])(_:Zu ca H A S)(_:(S.std=[]->E (.ref ca.nothing) none H))(_:∀ std d s,S.std=std++[(d,s)]->∃ ppl out,za7 S d ppl out/\∀ t H',H' t=some (.tup (Y9 d))->Zu ca H' A { S with ppl:=ppl,out:=out,cur:=s,std:=std }->FrS A H H'->Q (.ref t) H')
inductive Ci(ca:CA)(vs:List V)(H:Hp)(Q:VK)(_:XK):Prop where
 | mk(A:SAd)(S:Sea)(_:vs=[.ref A.p])(_:Zu ca H A S)(_:S.std.length<=1000)(_:∀ l ts H',H' l=some (.lst ts)->Z0 H' ts (S.std.map fun x=>Y9 x.1)->Same H H'->H l=none->Q (.ref l) H')
inductive Fs(ca:CA)(vs:List V)(H:Hp)(Q:VK)(E:XK):Prop where
 | mk(A:SAd)(S:Sea)(i n:Int)(_:vs=[.ref A.p,.int i,.int n])(_:Zu ca H A S)(_:Z6 i)(_:Z6 n)(_:if i<1\/(S.len:Int)<i then E (.ref ca.noRound) none H else if n∈S.ppl.map (·.1) then ∀ H',Same H H'->Q (.bl (decide ((i,n)∈S.out))) H' else E (.ref ca.unk) none H)
def zcq(ca:CA)(H:Hp)(S:Sea)(i:Int)(E:XK)(k:Z5->Prop):Prop:=Z6 i/\S.old.length=S.led.length/\if i<1\/(S.len:Int)<i then E (.ref ca.noRound) none H else (V8 S i=none->E (.ref ca.notDrawn) none H)/\∀ s,V8 S i=some s->k s
inductive ze1(ca:CA)(vs:List V)(H:Hp)(Q:VK)(E:XK):Prop where
 | mk(A:SAd)(S:Sea)(i:Int)(_:vs=[.ref A.p,.int i])(_:Zu ca H A S)(_:zcq ca H S i E fun s=>∀ l H',H' l=some (.lst s.gv)->Same H H'->H l=none->Q (.ref l) H')
theorem Um(ks:List Str):∀ {fs:List (Str×V)},fs.map (·.1)=ks->(ks.all fun x=>!decide (x=f))=true->putF f v fs=fs++[(f,v)]:=by
 intro fs hk h;subst hk
 induction fs with
 | nil=>rfl
 | cons x fs ih =>
   rw[zqc,List.all_cons,zrm,Bool.not_eq_true',decide_eq_false_iff_not] at h;obtain⟨k,y⟩:=x;show (if k=f then _ else _)=_;rw[if_neg h.1,ih h.2];rfl
def sF1(l:V):List (Str×V):=[("length",l)]
def sF2(l r:V):List (Str×V):=[("length",l),("rest",r)]
def sF3(l r a:V):List (Str×V):=[("length",l),("rest",r),("roster",a)]
def sF4(l r a b:V):List (Str×V):=[("length",l),("rest",r),("roster",a),("ledger",b)]
def sF5(l r a b c:V):List (Str×V):=[("length",l),("rest",r),("roster",a),("ledger",b),("absent",c)]
def sF6(l r a b c d:V):List (Str×V):=[("length",l),("rest",r),("roster",a),("ledger",b),("absent",c),("sheets",d)]
def sF7(l r a b c d e:V):List (Str×V):=[("length",l),("rest",r),("roster",a),("ledger",b),("absent",c),("sheets",d),("sheet",e)]
def sF8(l r a b c d e f:V):List (Str×V):=[("length",l),("rest",r),("roster",a),("ledger",b),("absent",c),("sheets",d),("sheet",e),("standing",f)]
theorem pF1:putF "length" l []=sF1 l:=rfl
theorem pF2:putF "rest" r (sF1 l)=sF2 l r:=Um ["length"] rfl ⋯
theorem pF3:putF "roster" a (sF2 l r)=sF3 l r a:=Um ["length","rest"] rfl ⋯
theorem pF4:putF "ledger" b (sF3 l r a)=sF4 l r a b:=Um ["length","rest","roster"] rfl ⋯
theorem pF5:putF "absent" c (sF4 l r a b)=sF5 l r a b c:=Um ["length","rest","roster","ledger"] rfl ⋯
theorem pF6:putF "sheets" d (sF5 l r a b c)=sF6 l r a b c d:=Um ["length","rest","roster","ledger","absent"] rfl ⋯
theorem pF7:putF "sheet" e (sF6 l r a b c d)=sF7 l r a b c d e:=Um ["length","rest","roster","ledger","absent","sheets"] rfl ⋯
theorem pF8:putF "standing" f (sF7 l r a b c d e)=sF8 l r a b c d e f:=Um ["length","rest","roster","ledger","absent","sheets","sheet"] rfl ⋯
theorem W0.free{p:Addr}{H H':Hp}{x:Addr}(hb:∀ b o,H b=some o->b≠p->H' b=some o)(hp:∃ o,H' p=some o)(hx:H' x=none):H x=none:=by
 cases e:H x with
 | none=>rfl
 | some o =>
   by_cases z:x=p
   ·subst z;obtain⟨o',q⟩:=hp;rw[q] at hx;cases hx
   ·rw[hb x o e z] at hx;cases hx
def W0(p:Addr)(H H':Hp):Prop:=∀ b o,H b=some o->b≠p->H' b=some o
theorem W0.trans(a:W0 p H1 H2)(b:W0 p H2 H3):W0 p H1 H3:=fun x o e n=>b x o (a x o e n) n
theorem W0.of(a:Same H1 H2):W0 p H1 H2:=fun x o e _=>a x o e
theorem W0.put:W0 p H (upd H p o):=fun x o e n=>by rw[Zh n];exact e
end G
namespace G
open PySem PySem.Spec PyProof.Rows L2
inductive Ft(K:Frag)(vs:List V)(H:Hp)(Q:VK)(_:XK):Prop where
 | mk(b:Addr)(ns:List Int)(k:Nat)(_:vs=[.ref b,.int k])(_:SqL K H b (ns.map V.int))(_:k<ns.length)(_:∀ c H',Same H H'->Q (.int c) H')
structure ze2(H:Hp)(t lc ln:Addr)(cs nu:List Int):Prop where
 tup:H t=some (.tup [.ref lc,.ref ln])
 clubs:H lc=some (.lst (cs.map V.int))
 nums:H ln=some (.lst (nu.map V.int))
 few:3<=cs.length/\cs.length<=10
 cnd:cs.Nodup
 crng:∀ c∈cs,1<=c/\c<=99
 nfew:1<=nu.length/\nu.length<=30
 nnd:nu.Nodup
 nrng:∀ n∈nu,1<=n/\n<=999
theorem Fu(c:Int)(hm:m<=40):(Pl c m).Nodup:=by
 unfold Pl;rw[List.nodup_iff_pairwise_ne,List.pairwise_map];refine List.Pairwise.imp_of_mem (fun {i j} hi hj (hne:i≠j) z=>?_) (List.nodup_iff_pairwise_ne.mp List.nodup_range);exact hne (zal c (by have:=zrb.mp hi;omega) (by have:=zrb.mp hj;omega) z)
theorem Bt(c:Int)(m:Nat):∀ n∈Pl c m,1<=n/\n<=999:=fun n hn=>by
 unfold Pl at hn;obtain⟨j,_,rfl⟩:=zqh.mp hn;unfold Bf;omega
inductive Xy where
 | enrol (n g c:Int)|away (i n:Int)|draw (ms:List P3)|close|back
def Y4(ok:Addr->Prop)(H:Hp)(t:Addr):Xy->Prop
 | .enrol n g c=>H t=some (.tup [.str "enrol",.int n,.int g,.int c])
 | .away i n=>H t=some (.tup [.str "away",.int i,.int n])
 | .draw ms=>∃ l ts,H t=some (.tup [.str "draw up",.ref l])/\H l=some (.lst ts)/\Z0 H ts (ms.map pV)/\ok l
 | .close=>H t=some (.tup [.str "close"])
 | .back=>H t=some (.tup [.str "take back"])
def Cj(S:Sea):Prop:=∀ s,S.cur=some s->s.ms.length<=20/\Yp s.may s.gv/\Vh s.may s.gv/\s.may=mayS S s.ms/\s.gaps.length<=S.std.length
def S8(S S':Sea):Prop:=∃ d:Vi,S'.std=S.std++[(d,S.cur)]/\za7 S' d S.ppl S.out/\S'.len=S.len/\S'.rest=S.rest/\S'.led=S.led/\S'.old=S.old
def Lh(S:Sea):Xy->Prop
 | .enrol n g c=>S.led.length<S.len/\S.cur=none/\¬ badI n g c/\n∉S.ppl.map (·.1)/\S.ppl.length<30
 | .away i n=>(S.led.length:Int)<i/\i<=S.len/\n∈S.ppl.map (·.1)/\(i,n)∉S.out
 | .draw ms=>S.led.length<S.len/\S.cur=none/\ms.length<=20/\(∀ m∈ms,¬ badM m)/\∀ m∈ms,m.1≠m.2.1
 | .close=>S.led.length<S.len/\S.cur≠none
 | .back=>S.std≠[]
inductive Xz(H':Hp)(S:Sea):Xy->Sea->V->Prop where
 | enrol (n g c:Int):Xz H' S (.enrol n g c) { S with ppl:=S.ppl++[(n,g,c)],std:=S.std++[(((("enrol":Str),n,atV S):Vi),S.cur)] } .non
 | awayN {i n:Int} {l:Addr} (h:S.cur=none\/atV S<i) (hl:H' l=some (.lst [])):Xz H' S (.away i n) (Xa S i n) (.ref l)
 | awayF {n:Int} {s:Z5} {l:Addr} (h:S.cur=some s) (hp:X2 s.gv n=none) (hl:H' l=some (.lst [])):Xz H' S (.away (atV S) n) { Xa S (atV S) n with cur:=some { s with may:=mayS (Xa S (atV S) n) s.ms } } (.ref l)
 | awayC {n:Int} {s:Z5} {p e:Nat} {l:Addr} {us:List V} {st:List (Nat×Option Int)} {w:Option Int} (h:S.cur=some s) (hp:X2 s.gv n=some p) (hl:H' l=some (.lst us)) (tl:Z0 H' us (st.map Vf)) (CR:Y3 (mayS (Xa S (atV S) n) s.ms) (s.gv.set p .non) p st e w) :
   Xz H' S (.away (atV S) n) { Xa S (atV S) n with cur:=some ⟨s.ms,mayS (Xa S (atV S) n) s.ms,Ym st (s.gv.set p .non),s.gaps++[(n,st)]⟩ } (.ref l)
 | draw {ms:List P3} {gv:List V} {l:Addr} (hl:H' l=some (.lst gv)) (F:Yp (mayS S ms) gv) (T:Vh (mayS S ms) gv):Xz H' S (.draw ms) (za5 S ms gv) (.ref l)
 | close {s:Z5} (h:S.cur=some s):Xz H' S .close (Hq S s) (.int (atV S))
 | back {S0:Sea} {d:Vi} {t:Addr} (h:S.std=S0.std++[(d,S0.cur)]) (ht:H' t=some (.tup (Y9 d))) (hs:S8 S0 S):Xz H' S .back S0 (.ref t)
def Qd(A A':SAd)(H:Hp):Prop:=∃ x,A'={ A with lt:=x }/\(x=A.lt\/H x=none)
abbrev E6(b:List Stmt)(i:Nat):Stmt:=b.getD i (.Pass ⟨0,0,0,0⟩)
def stP:Stmt->Pos|.Return _ p=>p|.Assign _ _ p=>p|_=>⟨0,0,0,0⟩
def zhe:Stmt->List Expr|.Assign ts _ _=>ts|_=>[]
def zcr:Stmt->Expr|.Assign _ v _=>v|_=>.Constant .none 0 ⟨0,0,0,0⟩
def zgd:Expr->Expr|.Subscript a _ _=>a|e=>e
def zhf:Expr->Expr|.Subscript _ b _=>b|e=>e
def zhg:Expr->Pos|.Subscript _ _ p=>p|_=>⟨0,0,0,0⟩
def zhh:Expr->List Expr|.List es _=>es|_=>[]
def zhi:Expr->Pos|.List _ p=>p|_=>⟨0,0,0,0⟩
def zdc:List Int->TA
 | []=>tNil
 | x :: xs=>U0 (tC (.int x)) (zdc xs)
structure zdd(es:List Expr)(xs:List Int):Prop where
 len:es.length=xs.length
 same:List.zipWith (fun i (e:Expr)=>Expr.Constant (.int i) 0 e.pos) xs es=es
theorem zcs(xs:List Int)(h:zdd es xs):PA X es (zdc xs):=by
 obtain⟨h1,h2⟩:=h
 induction xs generalizing es with
 | nil =>
   have:=List.length_eq_zero_iff.mp h1;subst this;exact Zd
 | cons x xs ih =>
   cases es with
   | nil=>cases h1
   | cons e es =>
     rw[List.zipWith_cons_cons] at h2;obtain⟨e1,e2⟩:=List.cons.inj h2;rw[<- e1];exact Za Zi (ih (Nat.succ.inj h1) e2) rfl
theorem S9:decide (V.str a=V.str a)=true:=zp8 rfl
theorem Xl(h:decide (a=b)=false):decide (V.str a=V.str b)=false:=zqd fun z=>of_decide_eq_false h (V.str.inj z)
theorem Qd.refl(A:SAd)(H:Hp):Qd A A H:=⟨A.lt,rfl,.inl rfl⟩
abbrev zge:=List (Int×List (Nat×Option Int))
structure Pg where
 len:Nat
 rest:Nat
 ppl:RL
 out:List (Int×Int)
 over:List Z5
 deed:Option Vi
 lis:Option (List P3)
 gv:List V
 mv:zge
def pgF(len rest:Nat)(lp lo lv:Addr)(dv li:V)(lg lm:Addr):List (Key×V):=[(.inr "rounds",.int len),(.inr "rest",.int rest),(.inr "people",.ref lp),(.inr "out",.ref lo),(.inr "over",.ref lv),(.inr "deed",dv),(.inr "listed",li),(.inr "goes",.ref lg),(.inr "moves",.ref lm)]
def oiV(x:Int×Int):List V:=[.int x.1,.int x.2]
def zgf(ok:Addr->Prop)(H:Hp)(v:V):Option (List P3)->Prop
 | none=>v=.non
 | some ms=>∃ l ts,v=.ref l/\H l=some (.lst ts)/\Z0 H ts (ms.map pV)/\ok l
def zde(H:Hp)(v:V):Option Vi->Prop
 | none=>v=.non
 | some d=>∃ t,v=.ref t/\H t=some (.tup (Y9 d))
inductive Fv(ok:Addr->Prop)(H:Hp):List V->List Z5->Prop where
 | nil:Fv ok H [] []
 | cons {t l g m y:Addr} {ts mts:List V} {ls:List Addr} {s:Z5} {vs:List V} {ss:List Z5} (h:H t=some (.tup [.ref l,.ref g,.ref m,.ref y])) (hl:H l=some (.lst ts)) (tl:Z0 H ts (s.ms.map pV)) (hg:H g=some (.lst s.gv)) (hm:H m=some (.lst mts)) (gm:Wm ok H mts s.gaps)
   (hy:H y=some (.lst (ls.map V.ref))) (iy:ILs H ls s.may) (o:ok l/\ok g/\ok m/\ok y/\∀ x∈ls,ok x) (r:Fv ok H vs ss):Fv ok H (.ref t :: vs) (s :: ss)
structure za8(ok:Addr->Prop)(H:Hp)(d:Addr)(P:Pg):Prop where
 ex:∃ lp lo lv dv li lg lm pts ots vts mts,H d=some (.dK (pgF P.len P.rest lp lo lv dv li lg lm))/\H lp=some (.lst pts)/\Z0 H pts (P.ppl.map pV)/\H lo=some (.lst ots)/\Z0 H ots (P.out.map oiV)/\H lv=some (.lst vts)/\Fv ok H vts P.over/\zde H dv P.deed/\zgf ok H li P.lis/\H lg=some (.lst P.gv)/\H lm=some (.lst mts)/\Wm ok H mts P.mv /\
  (ok d/\ok lp/\ok lo/\ok lv/\ok lg/\ok lm)
end G
namespace L2
open PySem PySem.Spec PyProof.Rows G
def Xj(x:Int×Int):Dt:=.tup [.int x.1,.int x.2]
theorem Li{K:Frag}{H:Hp}:∀ {ts:List V} {ps:List (Int×Int)},Z0 H ts (ps.map oiV)->Xs K H ts (ps.map Xj)
 | _,[],h=>by cases h;exact .nil
 | _,p :: ps,h=>by
   rw[zqc] at h;cases h with
   | cons e r=>exact .cons (.tup (SqT.of e) (.cons (.int _) (.cons (.int _) .nil))) (Li r)
theorem Rw:∀ ps:List (Int×Int),PyData.canLayAll0 (Yl (ps.map Xj))=true
 | []=>rfl
 | p :: ps=>by
   rw[zqc,Yl,PyData.canLayAll0,Rw ps];rfl
theorem Om:∀ ps:List (Int×Int),((Yl (ps.map Xj)).any fun y=>PyData.eqv y (toPy (Xj (a,b))))=decide ((a,b)∈ps)
 | []=>by simp[Yl]
 | p :: ps=>by
   rw[zqc,Yl,zrk,Om ps,Pk];obtain⟨p1,p2⟩:=p;have e:eqD (Xj (p1,p2)) (Xj (a,b))=decide ((a,b)=(p1,p2)):=by
    rw[Xj,Xj,eqD,Ry,Ry,Ry,eqD,eqD];by_cases h1:p1=a
    ·by_cases h2:p2=b
     ·subst h1;subst h2;simp
     ·rw[zqd (fun z=>h2 (Prod.mk.inj z).2.symm)];simp[h2]
    ·rw[zqd (fun z=>h1 (Prod.mk.inj z).1.symm)];simp[h1]
   rw[e,<- Bool.decide_or];exact decide_eq_decide.mpr zp7.symm
inductive zgg(K:Frag)(neg:Bool)(x:V)(y:V)(H:Hp)(Q:VK):Prop where
 | mk(t p:Addr)(ts:List V)(a b:Int)(ps:List (Int×Int))(_:x=.ref t)(_:y=.ref p)(_:SqT K H t [.int a,.int b])(_:SqL K H p ts)(_:Z0 H ts (ps.map oiV))(_:Q (.bl (if neg then !decide ((a,b)∈ps) else decide ((a,b)∈ps))) H)
section
variable{X:Cx}{K:Frag}
theorem Fw(hu:X.A.units+64<cLine):OpR X (compareOp .In) (zgg X.K false):=by
 intro pins s σ H x y v u Q I rx ry h;obtain⟨t,p,ts,a,b,ps,rfl,rfl,ht,hp,tl,q⟩:=h;obtain⟨as,r1⟩:=Is.reads I (Is.tup ht (.cons (.int a) (.cons (.int b) .nil)):Is X.K H (.ref t) (Xj (a,b))) rx;have r1:Reads s.heap v (toPy (Xj (a,b))) as:=r1;obtain⟨bs,r2⟩:=Is.reads I (Is.lst hp (Li tl)) ry;rw[toPy] at r2;have hd:(toPy (Xj (a,b))).depth=1:=rfl;refine SeqAt.in_list_reads r2 r1 (Rw ps) rfl ?_ ?_
 ·have:=Nat.min_le_right (PyData.depthAll (Yl (ps.map Xj))) (toPy (Xj (a,b))).depth;rw[hd] at this ⊢;omega
 ·rw[Om];exact⟨.bl _,H,I,rfl,q⟩
theorem Pr(hK:X.K=K)(hu:X.A.units+64<cLine):OpR X (compareOp .In) (zgg K false):=hK▸Fw hu
end
end L2
namespace G
open PySem PySem.Spec PyProof.Rows L2
theorem Ck(r:List Str)(ok:∀ w∈r,PyData.strOk w=true):shD (.lst (r.map Dt.str)):=by
 have h:PyData.canLayAll0 (Yl (r.map Dt.str))=true/\PyData.depthAll (Yl (r.map Dt.str))<=1:=by
  induction r with
  | nil=>exact⟨rfl,by decide⟩
  | cons x r ih =>
    obtain⟨h1,h2⟩:=ih fun w hw=>ok w (zql _ hw);have h0:=ok x (zqp);refine⟨?_,?_⟩
    ·rw[zqc,Yl,PyData.canLayAll0,h1];simp[toPy,PyData.canLay0,h0]
    ·rw[zqc,Yl,PyData.depthAll];have:PyData.depth (toPy (Dt.str x))<=1:=by simp[toPy,PyData.depth]
     omega
 unfold shD SeqAt.shaped;rw[toPy,PyData.canLay0,h.1,Bool.true_and];refine zp8 ?_;rw[PyData.depth];have:=h.2;omega
theorem Qy{K:Frag}{H:Hp}:∀ ws:List Str,Xs K H (ws.map V.str) (ws.map Dt.str)
 | []=>.nil
 | w :: ws=>.cons (.str w) (Qy ws)
structure PgB(ok:Addr->Prop)(H:Hp)(P:Pg)(lp lo lv:Addr)(dv li:V)(lg lm:Addr):Prop where
 pp:∃ pts,H lp=some (.lst pts)/\Z0 H pts (P.ppl.map pV)/\ok lp
 oo:∃ ots,H lo=some (.lst ots)/\Z0 H ots (P.out.map oiV)/\ok lo
 vv:∃ vts,H lv=some (.lst vts)/\Fv ok H vts P.over/\ok lv
 dd:zde H dv P.deed
 li:zgf ok H li P.lis
 gg:H lg=some (.lst P.gv)/\ok lg
 mm:∃ mts,H lm=some (.lst mts)/\Wm ok H mts P.mv/\ok lm
theorem Hr{ns:List Int}{i:Nat}(hi:i<ns.length):ns.getD i 0=ns[i]:=by
 rw[zqm,zp5 hi];rfl
theorem za9{ns:List Int}(nd:ns.Nodup){i j:Nat}(hi:i<ns.length)(hj:j<ns.length)(h:ns.getD i 0=ns.getD j 0):i=j:=by
 rw[Hr hi,Hr hj] at h;exact(List.getElem_inj nd).mp h
theorem Jv{ns:List Int}{i:Nat}(hi:i<ns.length):ns.getD i 0∈ns:=by
 rw[Hr hi];exact zq7 hi
def zdf(mb:Bool)(s:Z5):Z5:=if mb then s else { s with gaps:=[] }
structure ze3(mb:Bool)(P:Pg)(S:Sea):Prop where
 len:P.len=S.len
 rest:P.rest=S.rest
 ppl:P.ppl=S.ppl
 out:P.out=S.out
 over:P.over.map (zdf mb)=S.old.map (zdf mb)
 lis:P.lis=S.cur.map (·.ms)
def zgh(S:Sea):zge:=match S.cur with|some s=>s.gaps|none=>[]
structure Rel(mb:Bool)(P:Pg)(S:Sea):Prop where
 b:ze3 mb P S
 gv:∀ s,S.cur=some s->P.gv=s.gv
 mv:mb=true->P.mv=zgh S
structure SOk(nu:List Int)(n:Nat)(S:Sea):Prop where
 cur:Cj S
 nd:(S.ppl.map (·.1)).Nodup
 ppl:∀ x∈S.ppl,x.1∈nu/\¬ badI x.1 x.2.1 x.2.2
 few:S.ppl.length<=30
 led:S.led=S.old.map X4
 old:∀ s∈S.old,s.ms.length<=20/\s.gv.length=s.ms.length/\∀ x∈s.gv,oneV x
 len:S.led.length<=S.len/\S.len<=60/\S.rest<=10
 lt:S.cur≠none->S.led.length<S.len
 num:S.out.length<=n/\S.std.length<=n
 gp:∀ s,S.cur=some s\/s∈S.old->s.gaps.length<=n/\∀ x∈s.gaps,x.2.length<=100
theorem SOk.mono(h:SOk nu n S)(e:n<=m):SOk nu m S:=⟨h.cur,h.nd,h.ppl,h.few,h.led,h.old,h.len,h.lt,⟨zqr h.num.1 e,zqr h.num.2 e⟩,fun s hs=>⟨zqr (h.gp s hs).1 e,(h.gp s hs).2⟩⟩
theorem SOk.pok(h:SOk nu n S):S7 S:=⟨fun x hx=>(h.ppl x hx).2,h.few⟩
theorem SOk.olen(h:SOk nu n S):S.old.length=S.led.length:=by rw[h.led,zp3]
theorem zba:∀ (Rs:List (List Row)),(∀ rs∈Rs,rs.length<=k)->tot Rs<=k*Rs.length
 | [],_=>by simp[tot]
 | rs :: Rs,h=>by
   have h1:=h rs (zqp);have h2:=zba Rs fun x hx=>h x (zql _ hx);unfold tot at *;simp only[zqc,List.sum_cons,zqs,Nat.mul_succ];omega
theorem SOk.tot(h:SOk nu n S):G.tot S.led<=1200:=by
 have h1:=zba (k:=20) S.led fun rs hrs=>by
  rw[h.led] at hrs;obtain⟨s,hs,rfl⟩:=zqh.mp hrs;have:=h.old s hs;unfold X4;rw[List.length_zipWith];omega
 have:=h.len;omega
theorem Bu(F:Yp rows gs)(hn:∀ i:Nat,gs[i]?≠some (V.int n)):Yp (without rows n) gs:=by
 refine⟨by unfold without;rw[zp3];exact F.len,F.one,fun k m h=>?_,F.inj⟩;obtain⟨r,h1,h2⟩:=F.may k m h;refine⟨r.filter fun x=>decide (x≠n),by unfold without;rw[zqb,h1];rfl,zq9.mpr ⟨h2,?_⟩⟩;refine zp8 fun z=>hn k ?_;rw[h,z]
theorem E7(T:Vh rows gs):Vh (without rows n) gs:=fun p hp=>by
 obtain⟨S,h1,h2⟩:=T p hp;refine⟨S,h1,fun q hq=>⟨by unfold without;rw[zp3];exact(h2 q hq).1,fun r hr m hm=>?_⟩⟩;unfold without at hr;rw[zqb] at hr;obtain⟨r0,e1,rfl⟩:=Option.map_eq_some_iff.mp hr;exact(h2 q hq).2 r0 e1 m (zq9.mp hm).1
theorem Bv(h:atV S<i)(ms:List P3):mayS (Xa S i n) ms=mayS S ms:=by
 unfold mayS;refine List.map_congr_left fun m _=>?_;unfold Hn;have:∀ x:P3,pIn (Xa S i n).out (atV (Xa S i n)) x=pIn S.out (atV S) x:=fun x=>by
  show decide ((atV S,x.1)∈S.out++[(i,n)])=decide ((atV S,x.1)∈S.out);have:((atV S,x.1)∈S.out++[(i,n)])↔((atV S,x.1)∈S.out):=by
   simp only[zqi,zp9,Prod.mk.injEq];constructor
   ·rintro(h|⟨h,_⟩)
    ·exact h
    ·omega
   ·exact .inl
  exact decide_eq_decide.mpr this
 simp only[this];rfl
theorem zbb(o:SOk nu n S)(g:Lh S D)(af:Xz H' S D S' v)(hb:D≠.back)(hn:∀ k gr c,D=.enrol k gr c->k∈nu):SOk nu (n+1) S'/\((D=.close/\S'.std=[]/\S'.cur=none)\/(D≠.close/\S8 S S')):=by
 obtain⟨n1,n2⟩:=o.num;cases af with
 | enrol k gr c =>
   obtain⟨g1,g2,g3,g4,g5⟩:=g;refine⟨⟨fun s hs=>?_,?_,fun x hx=>?_,?_,o.led,o.old,o.len,fun _=>g1,⟨?_,?_⟩,fun s hs=>⟨zq8 (o.gp s hs).1,(o.gp s hs).2⟩⟩,.inr ⟨nofun,(("enrol":Str),k,atV S),rfl,.inl ⟨rfl,⟨gr,c,rfl⟩,rfl⟩,rfl,rfl,rfl,rfl⟩⟩
   ·have hs:S.cur=some s:=hs;rw[g2] at hs;cases hs
   ·show (List.map (·.1) (S.ppl++[(k,gr,c)])).Nodup;rw[zqg,List.nodup_append];refine⟨o.nd,by simp,fun x hx y hy=>?_⟩;rw[zqc,List.map_nil,zp9] at hy;subst hy;rintro rfl;exact g4 hx
   ·rcases zqi.mp hx with hx|hx
    ·exact o.ppl x hx
    ·rw[zp9.mp hx];exact⟨hn k gr c rfl,g3⟩
   ·show (S.ppl++[(k,gr,c)]).length<=30;rw[zp6];show S.ppl.length+1<=30;omega
   ·show S.out.length<=n+1;omega
   ·show (S.std++[_]).length<=n+1;rw[zp6];show S.std.length+1<=n+1;omega
 | @awayN i k l h hl =>
   obtain⟨g1,g2,g3,g4⟩:=g;refine⟨⟨fun s hs=>?_,o.nd,o.ppl,o.few,o.led,o.old,o.len,o.lt,⟨?_,?_⟩,fun s hs=>⟨zq8 (o.gp s hs).1,(o.gp s hs).2⟩⟩,.inr ⟨nofun,(("away":Str),k,i),rfl,.inr (.inl ⟨rfl,rfl,rfl,g4⟩),rfl,rfl,rfl,rfl⟩⟩
   ·have hs:S.cur=some s:=hs;rcases h with h|h
    ·rw[h] at hs;cases hs
    ·obtain⟨c1,c2,c3,c4,c5⟩:=o.cur s hs;refine⟨c1,c2,c3,by rw[Bv h];exact c4,?_⟩;show s.gaps.length<=(S.std++[_]).length;rw[zp6];omega
   ·show (S.out++[_]).length<=n+1;rw[zp6];show S.out.length+1<=n+1;omega
   ·show (S.std++[_]).length<=n+1;rw[zp6];show S.std.length+1<=n+1;omega
 | @awayF k s l h hp hl =>
   obtain⟨g1,g2,g3,g4⟩:=g;obtain⟨c1,c2,c3,c4,c5⟩:=o.cur s h;refine⟨⟨fun s' hs=>?_,o.nd,o.ppl,o.few,o.led,o.old,o.len,fun _=>o.lt (by rw[h];exact nofun),⟨?_,?_⟩,fun s' hs=>?_⟩,.inr ⟨nofun,(("away":Str),k,atV S),rfl,.inr (.inl ⟨rfl,rfl,rfl,g4⟩),rfl,rfl,rfl,rfl⟩⟩
   ·have hs:some { s with may:=mayS (Xa S (atV S) k) s.ms }=some s':=hs;cases hs;have hno:∀ i:Nat,s.gv[i]?≠some (V.int k):=by
     rcases G8 s.gv k with z|⟨i,z,_⟩
     ·exact z.2
     ·rw[hp] at z;cases z
    refine⟨c1,?_,?_,rfl,?_⟩
    ·show Yp (mayS (Xa S (atV S) k) s.ms) s.gv;rw[Ul,<- c4];exact Bu c2 hno
    ·show Vh (mayS (Xa S (atV S) k) s.ms) s.gv;rw[Ul,<- c4];exact E7 c3
    ·show s.gaps.length<=(S.std++[_]).length;rw[zp6];omega
   ·show (S.out++[_]).length<=n+1;rw[zp6];show S.out.length+1<=n+1;omega
   ·show (S.std++[_]).length<=n+1;rw[zp6];show S.std.length+1<=n+1;omega
   ·have old:=o.gp s (.inl h);rcases hs with hs|hs
    ·have hs:some { s with may:=mayS (Xa S (atV S) k) s.ms }=some s':=hs;cases hs;exact⟨zq8 old.1,old.2⟩
    ·have:=o.gp s' (.inr hs);exact⟨zq8 this.1,this.2⟩
 | @awayC k s p e l us st w h hp hl tl CR =>
   obtain⟨g1,g2,g3,g4⟩:=g;obtain⟨c1,c2,c3,c4,c5⟩:=o.cur s h;refine⟨⟨fun s' hs=>?_,o.nd,o.ppl,o.few,o.led,o.old,o.len,fun _=>o.lt (by rw[h];exact nofun),⟨?_,?_⟩,fun s' hs=>?_⟩,.inr ⟨nofun,(("away":Str),k,atV S),rfl,.inr (.inl ⟨rfl,rfl,rfl,g4⟩),rfl,rfl,rfl,rfl⟩⟩
   ·have hs:some (⟨s.ms,mayS (Xa S (atV S) k) s.ms,Ym st (s.gv.set p .non),s.gaps++[(k,st)]⟩:Z5)=some s':=hs;cases hs;have hx:=Qx hp;rw[Ul,<- c4] at CR;have F0:=V6 c2 hx;have hpl:p<(without s.may k).length:=by
     unfold without;rw[zp3,<- c2.len];exact(zp4.mp hx).1
    refine⟨c1,?_,?_,rfl,?_⟩
    ·show Yp (mayS (Xa S (atV S) k) s.ms) _;rw[Ul,<- c4];exact CR.fill F0 hpl
    ·show Vh (mayS (Xa S (atV S) k) s.ms) _;rw[Ul,<- c4];exact Fb c2 c3 hx CR
    ·show (s.gaps++[_]).length<=(S.std++[_]).length;rw[zp6,zp6];show s.gaps.length+1<=S.std.length+1;omega
   ·show (S.out++[_]).length<=n+1;rw[zp6];show S.out.length+1<=n+1;omega
   ·show (S.std++[_]).length<=n+1;rw[zp6];show S.std.length+1<=n+1;omega
   ·have old:=o.gp s (.inl h);rcases hs with hs|hs
    ·have hs:some (⟨s.ms,mayS (Xa S (atV S) k) s.ms,Ym st (s.gv.set p .non),s.gaps++[(k,st)]⟩:Z5)=some s':=hs;cases hs;have hx:=Qx hp;rw[Ul,<- c4] at CR;have hpl:p<(without s.may k).length:=by
      unfold without;rw[zp3,<- c2.len];exact(zp4.mp hx).1
     have hcl:=CR.len (V6 c2 hx) hpl;have hwl:(without s.may k).length=s.may.length:=by unfold without;rw[zp3]
     have hml:s.may.length=s.ms.length:=by rw[c4];unfold mayS;rw[zp3]
     refine⟨by show (s.gaps++[_]).length<=n+1;rw[zp6];show s.gaps.length+1<=n+1;omega,fun x hx'=>?_⟩;rcases zqi.mp hx' with z|z
     ·exact old.2 x z
     ·rw[zp9.mp z];show st.length<=100;omega
    ·have:=o.gp s' (.inr hs);exact⟨zq8 this.1,this.2⟩
 | @draw ms gv l hl F T =>
   obtain⟨g1,g2,g3,g4,g5⟩:=g;refine⟨⟨fun s' hs=>?_,o.nd,o.ppl,o.few,o.led,o.old,o.len,fun _=>g1,⟨?_,?_⟩,fun s' hs=>?_⟩,.inr ⟨nofun,(("draw up":Str),(ms.length:Int),atV S),rfl,.inr (.inr ⟨rfl,rfl,rfl⟩),rfl,rfl,rfl,rfl⟩⟩
   ·have hs:some (⟨ms,mayS S ms,gv,[]⟩:Z5)=some s':=hs;cases hs;exact⟨g3,F,T,rfl,zqo _⟩
   ·show S.out.length<=n+1;omega
   ·show (S.std++[_]).length<=n+1;rw[zp6];show S.std.length+1<=n+1;omega
   ·rcases hs with hs|hs
    ·have hs:some (⟨ms,mayS S ms,gv,[]⟩:Z5)=some s':=hs;cases hs;exact⟨zqo _,nofun⟩
    ·have:=o.gp s' (.inr hs);exact⟨zq8 this.1,this.2⟩
 | @close s h =>
   obtain⟨g1,g2⟩:=g;obtain⟨c1,c2,c3,c4,c5⟩:=o.cur s h;refine⟨⟨fun s' hs=>(by cases hs),o.nd,o.ppl,o.few,?_,fun x hx=>?_,⟨?_,o.len.2⟩,fun z=>absurd rfl z,⟨?_,zqo _⟩,fun s' hs=>?_⟩,.inl ⟨rfl,rfl,rfl⟩⟩
   ·show S.led++[X4 s]=List.map X4 (S.old++[s]);rw[zqg,o.led];rfl
   ·rcases zqi.mp hx with hx|hx
    ·exact o.old x hx
    ·rw[zp9.mp hx];refine⟨c1,?_,c2.one⟩;rw[c2.len,c4];unfold mayS;rw[zp3]
   ·show (S.led++[_]).length<=S.len;rw[zp6];exact g1
   ·show S.out.length<=n+1;omega
   ·rcases hs with hs|hs
    ·cases hs
    ·have hs:s'∈S.old++[s]:=hs;rcases zqi.mp hs with z|z
     ·have:=o.gp s' (.inr z);exact⟨zq8 this.1,this.2⟩
     ·rw[zp9.mp z];have:=o.gp s (.inl h);exact⟨zq8 this.1,this.2⟩
 | back h ht hs=>exact absurd rfl hb
theorem Jw(h1:S8 S1 S)(h2:S8 S2 S):S1=S2:=by
 obtain⟨d1,a1,a2,a3,a4,a5,a6⟩:=h1;obtain⟨d2,b1,b2,b3,b4,b5,b6⟩:=h2;have e:=a1.symm.trans b1;obtain⟨e1,e2⟩:=zrs e rfl;have e3:=List.cons.inj e2;obtain⟨e4,e5⟩:=Prod.mk.inj e3.1;subst e4;have w1:("enrol":Str)≠"away":=by decide +kernel
 have w2:("enrol":Str)≠"draw up":=by decide +kernel
 have w3:("away":Str)≠"draw up":=by decide +kernel
 have e6:S1.ppl=S2.ppl/\S1.out=S2.out:=by
  rcases a2 with ⟨x1,⟨g,c,x2⟩,x3⟩|⟨x1,x2,x3,_⟩|⟨x1,x2,x3⟩<;>rcases b2 with ⟨y1,⟨g',c',y2⟩,y3⟩|⟨y1,y2,y3,_⟩|⟨y1,y2,y3⟩
  ·exact⟨(zrs (x2.symm.trans y2) rfl).1,x3.trans y3.symm⟩
  ·exact absurd (x1.symm.trans y1) w1
  ·exact absurd (x1.symm.trans y1) w2
  ·exact absurd (y1.symm.trans x1) w1
  ·exact⟨x2.trans y2.symm,(zrs (x3.symm.trans y3) rfl).1⟩
  ·exact absurd (x1.symm.trans y1) w3
  ·exact absurd (y1.symm.trans x1) w2
  ·exact absurd (y1.symm.trans x1) w3
  ·exact⟨x2.trans y2.symm,x3.trans y3.symm⟩
 obtain⟨l1,q1,p1,d1',o1,ol1,c1,s1⟩:=S1;obtain⟨l2,q2,p2,d2',o2,ol2,c2,s2⟩:=S2;simp only at *;obtain⟨e7,e8⟩:=e6;subst e1 e5 e7 e8;rw[<- a3,<- b3,<- a4,<- b4,<- a5,<- b5,<- a6,<- b6]
structure FrN(A A':SAd)(H H':Hp):Prop where
 p:A'.p=A.p
 k:∀ b o,H b=some o->b∉A.fp->H' b=some o/\b∉A'.fp
 kt:∀ t xs,H t=some (.tup xs)->H' t=some (.tup xs)
theorem FrN.of(e:Same H H'):FrN A A H H':=⟨rfl,fun b o z n=>⟨e _ _ z,n⟩,fun _ _ z=>e _ _ z⟩
theorem FrN.trans(h1:FrN A A1 H H1)(h2:FrN A1 A2 H1 H2):FrN A A2 H H2:=⟨h2.p.trans h1.p,fun b o e n=>by
 obtain⟨a1,a2⟩:=h1.k b o e n;exact h2.k b o a1 a2,fun t xs e=>h2.kt _ _ (h1.kt _ _ e)⟩
theorem Qd.out(nx:Qd A A' H)(e:H b=some o)(n:b∉A.fp):b∉A'.fp:=by
 obtain⟨x,rfl,hx⟩:=nx;simp only[SAd.fp,zp7,zq2,or_false] at n ⊢;rcases hx with rfl|hx
 ·exact n
 ·have:b≠x:=Zg e hx;rintro(z|z|z|z|z|z|z)
  ·exact n (.inl z)
  ·exact n (.inr (.inl z))
  ·exact n (.inr (.inr (.inl z)))
  ·exact n (.inr (.inr (.inr (.inl z))))
  ·exact n (.inr (.inr (.inr (.inr (.inl z)))))
  ·exact n (.inr (.inr (.inr (.inr (.inr (.inl z))))))
  ·exact this z
theorem FrN.next(SA:Zu ca H A S)(nx:Qd A A' H)(f:FrS A H H'):FrN A A' H H':=⟨by obtain⟨x,rfl,_⟩:=nx;rfl,fun b o e n=>⟨f b o e n,nx.out e n⟩,SA.tups f⟩
structure zhl(A:SAd)(H:Hp)(t lc ln:Addr)(cs nu:List Int):Prop where
 at_:ze2 H t lc ln cs nu
 o:t∉A.fp/\lc∉A.fp/\ln∉A.fp
inductive Bk(mb:Bool)(ok:Addr->Prop)(H:Hp)(nu:List Int)(n:Nat):List Addr->Sea->Prop where
 | one {d:Addr} {P:Pg} {S:Sea} (h:za8 ok H d P) (r:Rel mb P S) (o:SOk nu n S) (e:S.std=[]):Bk mb ok H nu n [d] S
 | snoc {ds:List Addr} {d:Addr} {P:Pg} {S S':Sea} (b:Bk mb ok H nu n ds S) (nd:d∉ds) (h:za8 ok H d P) (r:Rel mb P S') (o:SOk nu n S') (st:S8 S S') (hd:∃ x,P.deed=some x/\S'.std=S.std++[(x,S.cur)]):Bk mb ok H nu n (ds++[d]) S'
section
variable{mb:Bool}{ok ok':Addr->Prop}{H H':Hp}{nu:List Int}{n m:Nat}{ds:List Addr}{d:Addr}{P:Pg}{S S':Sea}
structure zgi(mb:Bool)(ok:Addr->Prop)(H:Hp)(nu:List Int)(n:Nat)(ds:List Addr)(d:Addr)(dd:Option Vi)(S:Sea):Prop where
 nd:d∉ds
 ex:(ds=[]/\S.std=[])\/∃ S0,Bk mb ok H nu n ds S0/\S8 S0 S/\∃ x,dd=some x/\S.std=S0.std++[(x,S0.cur)]
structure zhr(mb:Bool)(ok:Addr->Prop)(H:Hp)(nu:List Int)(n:Nat)(ds:List Addr)(d:Addr)(P:Pg)(S:Sea):Prop where
 pg:za8 ok H d P
 rb:ze3 mb P S
 so:SOk nu n S
 tl:zgi mb ok H nu n ds d P.deed S
structure zhs(mb:Bool)(ok:Addr->Prop)(H:Hp)(nu:List Int)(n:Nat)(ds:List Addr)(d:Addr)(P:Pg)(S:Sea):Prop where
 pg:za8 ok H d P
 re:Rel mb P S
 so:SOk nu n S
 tl:zgi mb ok H nu n ds d P.deed S
end
section
variable{mb:Bool}{ok ok':Addr->Prop}{A A':SAd}{H H':Hp}{nu:List Int}{n m:Nat}{ds:List Addr}{d:Addr}{P:Pg}{S S':Sea}{D:Xy}
theorem Y4.fr(f:FrN A A' H H')(h:Y4 (·∉A.fp) H t D):Y4 (·∉A'.fp) H' t D:=by
 cases D with
 | enrol a b c=>exact f.kt _ _ h
 | away a b=>exact f.kt _ _ h
 | draw ms =>
   obtain⟨l,ts,a1,a2,a3,a4⟩:=h;exact⟨l,ts,f.kt _ _ a1,(f.k _ _ a2 a4).1,a3.mono f.kt,(f.k _ _ a2 a4).2⟩
 | close=>exact f.kt _ _ h
 | back=>exact f.kt _ _ h
theorem Y4.same(e:Same H H')(h:Y4 ok H t D):Y4 ok H' t D:=by
 cases D with
 | enrol a b c=>exact e _ _ h
 | away a b=>exact e _ _ h
 | draw ms =>
   obtain⟨l,ts,a1,a2,a3,a4⟩:=h;exact⟨l,ts,e _ _ a1,e _ _ a2,a3.mono fun _ _ z=>e _ _ z,a4⟩
 | close=>exact e _ _ h
 | back=>exact e _ _ h
theorem Y4.imp(k:∀ x,ok x->ok' x)(h:Y4 ok H t D):Y4 ok' H t D:=by
 cases D with
 | enrol a b c=>exact h
 | away a b=>exact h
 | draw ms =>
   obtain⟨l,ts,a1,a2,a3,a4⟩:=h;exact⟨l,ts,a1,a2,a3,k _ a4⟩
 | close=>exact h
 | back=>exact h
end
end G
namespace L2
open PySem PySem.Spec PyProof.Rows
theorem fnS(a:sc.kind=.function:=by rfl)(b:sc.isCoroutine=false:=by rfl)(c:sc.isGenerator=false:=by rfl)(d:N.Nodup:=by decide +kernel)(e:N.take P.length=P:=by rfl)(f:∀ x∈P,sc.names.lookup x=some .local\/sc.names.lookup x=some .cell:=by decide +kernel)(g:∀ y∈sc.names,y.2≠.free:=by decide +kernel):Zm N P sc:=⟨a,b,c,d,e,f,g⟩
section
variable{X:Cx}{k j:Nat}{C:Addr}{ps:List Str}{sp:Sp}{E:XK}{x m:Str}{p pos pos' apos:Pos}{e o a b:Expr}{es:List Expr}{ta tb te:TE}{t:TA}{r:R2}
theorem pS(i:Nat)(hN:X.N.Nodup)(he:PE X e te)(hi:X.N[i]?=some x:=by rfl)(hx:Loc X.env.scope x:=by first|exact Or.inl rfl|exact Or.inr rfl)(hs:swapsWith e (some (.Name x pos')) pos.line X.env=pure false:=by rfl)(hf:Eb X i x:=by first|exact⟨.inl rfl,Xn⟩|exact⟨.inr rfl,Xn⟩|assumption|exact⟨.inl rfl,by assumption⟩|exact⟨.inr rfl,by assumption⟩) :
  PS X (.Assign [.Name x pos'] e pos) (Ct te (Ve i)):=zds hN hi hx he hs hf
theorem pN(i:Nat)(hN:X.N.Nodup)(hi:X.N[i]?=some x:=by rfl)(hx:Loc X.env.scope x:=by first|exact Or.inl rfl|exact Or.inr rfl)(hf:Eb X i x:=by first|exact⟨.inl rfl,Xn⟩|exact⟨.inr rfl,Xn⟩|assumption|exact⟨.inl rfl,by assumption⟩|exact⟨.inr rfl,by assumption⟩):PG X (.Name x pos) (Ve i):=V1 hN hi hx hf
theorem pI(hr:IxR X r)(ha:PE X a ta)(hb:PE X b tb)(hs:Dz b:=by exact fun _ _=>rfl):PE X (.Subscript a b pos) (tOp r ta tb):=zfx hr ha hb hs
theorem pD(hu:X.A.units+1<cLine)(ho:PE X a ta)(hi:PE X b tb)(hs:zdz b:=by exact fun _ _=>rfl):PE X (.Subscript a b pos) (zc5 ta tb):=zb1 hu ho hi hs
theorem pF(D:Yi X.prog X.w X.K X.mg X.base x k ps sp)(hr:Wd j X.A)(ha:PA X (e :: es) t)(hk:k<=j:=by decide)(hx:X0 (CX1 X.prog X.w) X E:=by exact Zk)(hg:Gl X x:=by rfl)(hdb:(x == ("__debug__":Str))=false:=by decide)
  (he:starEach (e :: es) X.env=(false,eval e X.env) :: starEach es X.env:=by rfl) (hpl:(backTo pos (starEach es X.env)).any (·.1)=false:=by rfl):PE X (.Call (.Name x p) (e :: es) [] pos) (Ap sp [] E t):=D2 D (hr.mono hk) hx hg ha hdb he hpl
theorem iL(K:Frag)(h:X.K=K:=by rfl):IxR X (zd7 K):=zad h
theorem iU(K:Frag)(h:X.K=K:=by rfl):IxR X (zd8 K):=zcc h
theorem cL(K:Frag)(h:X.K=K:=by rfl):Wv X (.builtin "len") (fun xs H Q=>∃ p ys,xs=[.ref p]/\(SqL K H p ys\/SqT K H p ys)/\Q (.int ys.length) H):=Kn h
end
theorem cT(ys:List Str)(js:List Nat)(a:closureFor scope X.env=pure cl:=by rfl)(b:scope.kind=.function:=by rfl)(c:∀ y∈scope.names,y.2=.local->scope.names.lookup y.1=some .local:=by decide +kernel)(d:∀ y∈scope.names,y.2≠.cell:=by decide +kernel)(e:scope.names.lookup x=some .local:=by rfl)(f:(x :: ys).Nodup:=by decide +kernel)(g:js.map (X.N[·]?)=ys.map some:=by rfl)
  (h:Km (fun y=>X.env.kindOf y=some .cell/\(relabel scope X.env).names.lookup y=some .cell/\cl.lookup y=X.env.cells.lookup y) ys:=by repeat' (first|exact True.intro|apply And.intro|rfl)) (i:Km (fun p=>X.env.cells.lookup p.1=some p.2) cl:=by repeat' (first|exact True.intro|apply And.intro|rfl)) (j:∀ y∈scope.names,y.2=.free->y.1∈ys:=by decide +kernel):D1 X x scope cl ys js:=⟨a,b,c,d,e,f,g,h,i,j⟩
abbrev LkF(K:Frag)(f:Addr)(x q:Str)(st:Stmt)(oc kV dc pm cd ct:Value)(od an:Option Addr)(sl:Array (Option Value)):Prop:=K.lookup f=some ⟨oc,od,.func (PySem.W.fnOf x q (U1 st) (Y7 st) (Zj st) .none kV dc pm an cd ct),sl⟩
abbrev NsB(K:Frag)(x:Str)(f:Addr):Prop:=PySem.W.nsIn K mainGlobals x=some (some (.ref f))
abbrev FdB(K:Frag)(c:Addr)(x:Str)(f:Addr):Prop:=PySem.W.findIn K (.ref c) x=some (some (.ref f))
abbrev BnA(x q:Str)(st:Stmt)(ps:List Str):Prop:=∀ (kV doc pm:Value) (an:Option Addr) (cdv ct:Value) (us:List Value),us.length=ps.length->bindArgs (PySem.W.fnOf x q (U1 st) (Y7 st) (Zj st) .none kV doc pm an cdv ct) ⟨us,[]⟩=pure (ps.zip us)
abbrev BnE(x q:Str)(st:Stmt)(ps:List Str)(us:List Value):Prop:=∀ (kV doc pm:Value) (an:Option Addr) (cdv ct:Value),bindArgs (PySem.W.fnOf x q (U1 st) (Y7 st) (Zj st) .none kV doc pm an cdv ct) ⟨us,[]⟩=pure (ps.zip us)
section
variable{x q a b c d e g:Str}{st:Stmt}
theorem bn1(h:∀ u,BnE x q st [a] [u]:=by intros _ _ _ _ _ _ _;rfl):BnA x q st [a]:=fun _ _ _ _ _ _ us hl=>match us,hl with|[_],_=>h _ _ _ _ _ _ _
theorem bn2(h:∀ u v,BnE x q st [a,b] [u,v]:=by intros _ _ _ _ _ _ _ _;rfl):BnA x q st [a,b]:=fun _ _ _ _ _ _ us hl=>match us,hl with|[_,_],_=>h _ _ _ _ _ _ _ _
theorem bn3(h:∀ u v w,BnE x q st [a,b,c] [u,v,w]:=by intros _ _ _ _ _ _ _ _ _;rfl):BnA x q st [a,b,c]:=fun _ _ _ _ _ _ us hl=>match us,hl with|[_,_,_],_=>h _ _ _ _ _ _ _ _ _
theorem bn4(h:∀ u v w y,BnE x q st [a,b,c,d] [u,v,w,y]:=by intros _ _ _ _ _ _ _ _ _ _;rfl):BnA x q st [a,b,c,d]:=fun _ _ _ _ _ _ us hl=>match us,hl with|[_,_,_,_],_=>h _ _ _ _ _ _ _ _ _ _
theorem bn5(h:∀ u v w y z,BnE x q st [a,b,c,d,e] [u,v,w,y,z]:=by intros _ _ _ _ _ _ _ _ _ _ _;rfl):BnA x q st [a,b,c,d,e]:=fun _ _ _ _ _ _ us hl=>match us,hl with|[_,_,_,_,_],_=>h _ _ _ _ _ _ _ _ _ _ _
end
section
variable{K:Frag}{mg:Str->Option Value}{x y q m:Str}{k:Nat}{ps:List Str}{sp:Sp}{C:Addr}{st:Stmt}{f:Addr}{fd:FuncData}
theorem dMk(P:Program)(w:World)(base:Heap)(F:Fun K x q st f fd)(ok:FnOk P w K mg base (CX1 P w) k f fd ps sp)(b:mg y=some (.ref f))(hb:BnA x q st ps:=by first|exact bn1|exact bn2|exact bn3|exact bn4|exact bn5):Yi P w K mg base y k ps sp:=⟨f,fd,ok,b,F.kp,F.binds hb⟩
theorem mMk(P:Program)(w:World)(base:Heap)(F:Fun K x q st f fd)(ok:FnOk P w K mg base (CX1 P w) k f fd ps sp)(b:Ao K C m f)(hb:BnA x q st ps:=by first|exact bn1|exact bn2|exact bn3|exact bn4|exact bn5):Zt P w K mg base C m k ps sp:=⟨f,fd,ok,b,F.binds hb⟩
theorem nMk(P:Program)(w:World)(base:Heap)(F:Fun K x q st f fd)(ok:FnOk P w K mg base (CX1 P w) k f fd ps sp)(b:Mk K C f)(c:mg y=some (.ref C))(hb:BnA x q st ps:=by first|exact bn1|exact bn2|exact bn3|exact bn4|exact bn5):U6 P w K mg base y C k ps sp:=⟨f,fd,ok,b,c,F.binds hb⟩
end
structure LN(K:Frag)(x q:Str)(st:Stmt)(f:Addr)(oc kV dc pm cd ct:Value)(od an:Option Addr)(sl:Array (Option Value)):Prop where
 b:NsB K x f
 l:LkF K f x q st oc kV dc pm cd ct od an sl
 c:PySem.W.codeIn K cd q=true
 k:PySem.W.keepIn K (.ref f)=true
structure LM(K:Frag)(C:Addr)(x q:Str)(st:Stmt)(f:Addr)(oc kV dc pm cd ct:Value)(od an:Option Addr)(sl:Array (Option Value)):Prop where
 b:FdB K C x f
 l:LkF K f x q st oc kV dc pm cd ct od an sl
 c:PySem.W.codeIn K cd q=true
 k:PySem.W.keepIn K (.ref f)=true
 i:PySem.W.isFn K (.ref f)=true
abbrev XcB(K:Frag)(c:Addr):Prop:=PySem.W.excIn K c [.type "ValueError",.type "Exception",.type "BaseException",.type "object"] "ValueError.__new__"=true
abbrev NzB(K:Frag)(x:Str):Prop:=PySem.W.nsIn K mainGlobals x=some none
structure XG(P:Program)(w:World)(base:Heap)(K:Frag)(mg:Str->Option Value)(h:Heap):Prop where
 X:K.In h
 G:h.Ns mainGlobals mg
section
variable{P:Program}{w:World}{base h:Heap}{K:Frag}{mg:Str->Option Value}{x y q:Str}{k:Nat}{ps:List Str}{sp:Sp}{C:Addr}{st:Stmt}{f:Addr}{oc kV dc pm cd ct:Value}{od an:Option Addr}{sl:Array (Option Value)}
theorem dN(Z:XG P w base K mg h)(l:LN K x q st f oc kV dc pm cd ct od an sl)(ok:∀ {fd},Fun K x q st f fd->FnOk P w K mg base (CX1 P w) k f fd ps sp)(hb:BnA x q st ps:=by first|exact bn1|exact bn2|exact bn3|exact bn4|exact bn5):Yi P w K mg base x k ps sp :=
 dMk P w base (Ql l.l l.c l.k) (ok (Ql l.l l.c l.k)) (PySem.W.mg_of Z.X Z.G l.b) hb
theorem mM(_:XG P w base K mg h)(l:LM K C x q st f oc kV dc pm cd ct od an sl)(ok:∀ {fd},Fun K x q st f fd->FnOk P w K mg base (CX1 P w) k f fd ps sp)(hb:BnA x q st ps:=by first|exact bn1|exact bn2|exact bn3|exact bn4|exact bn5):Zt P w K mg base C x k ps sp :=
 mMk P w base (Ql l.l l.c l.k) (ok (Ql l.l l.c l.k)) ⟨l.b,l.i,l.k⟩ hb
theorem nM(Z:XG P w base K mg h)(l:LM K C "__init__" q st f oc kV dc pm cd ct od an sl)(m:PySem.W.makesIn K C=true)(kc:PySem.W.keepIn K (.ref C)=true)(c:PySem.W.nsIn K mainGlobals y=some (some (.ref C)))(ok:∀ {fd},Fun K "__init__" q st f fd->FnOk P w K mg base (CX1 P w) k f fd ps sp)(hb:BnA "__init__" q st ps:=by first|exact bn1|exact bn2|exact bn3|exact bn4|exact bn5):U6 P w K mg base y C k ps sp :=
 nMk P w base (Ql l.l l.c l.k) (ok (Ql l.l l.c l.k)) ⟨m,l.b,l.i,kc⟩ (PySem.W.mg_of Z.X Z.G c) hb
end
section
variable{X:Cx}{elt iter:Expr}{x:Str}{px pos:Pos}{ifs:List Expr}{scope:Scope}{cl:List (Str×Addr)}{ys:List Str}{js:List Nat}
theorem Lj{pins:List (Addr×Obj)}{σ:St}{H:Hp}{s:Shared}{tt:TT}{te:TE}{it:Addr}{fp:List Addr}{tn:Nat->Heap->Prop}{J:It}{W:Nat->Nat->List V->Hp->Prop}{m0:Nat}{Q:VK}{E:Value->Shared->Prop}{RR:Value->Addr->Result->Shared->Prop}
  (hcm:X.calm=true) (c:D1 X x scope cl ys js) (ht:∀ pn s₀ H₀ fp C,PTs (Yn X pn (x :: ys) scope cl s₀ H₀ fp C) ifs tt) (hgt:∀ pn s₀ H₀ fp C,PG (Yn X pn (x :: ys) scope cl s₀ H₀ fp C) (.Name x px) (Ve 0)) (he:∀ pn s₀ H₀ fp C,PE (Yn X pn (x :: ys) scope cl s₀ H₀ fp C) elt te)
  (I:Inv X pins σ H s) (T:Gk X.prog X.w X.K (.Name x px) J fp it tn) (st0:tn 0 s.heap) (hf:∀ b∈fp,FpOk X pins H b) (w0:W 0 m0 [] H)
  (turn:∀ i m ys H,W i m ys H->(J.stop i H/\ys.length<=sizeLine/\∀ p,H p=none->Q (.ref p) (upd H p (.lst ys))) \/
   (J.go i H/\ys.length<sizeLine/\∃ N:List V->Hp->Prop,(∀ ys' H',N ys' H'->∃ m',m' < m/\W (i+1) m' ys' H')/\∀ x H',J.yld i H x H'->tt (cs js σ x) H' fun b H2=>if b=true then te (cs js σ x) H2 fun y H3=>N (ys++[y]) H3 else N ys H2))
  (hRR:∀ D C s' m,s'.heap.Ns C m->(∀ h',Heap.SameBut C s'.heap h'->∃ H',Inv X pins σ H' { s' with heap:=h' }/\Q (.ref D) H')->(∃ H',Inv X pins σ H' s'/\Q (.ref D) H'/\H' C=none)->s.heap.objs.size<=C->RR (.ref D) C (.ok .next) s') :
  wpAny (model X.prog X.w) X.A (newList []) (fun acc s₃=>wpAny (model X.prog X.w) X.A (newFunctionEnv scope X.env.globals cl [] X.env.qual none .none (some X.env)) (fun cenv s₄ =>
   codeAny (model X.prog X.w) X.A (.compStart (.ListComp elt [⟨.Name x px,iter,ifs,0⟩] scope pos) 0 (.ref it) acc { cenv with scope:=relabel scope X.env }) (RR acc cenv.locals) s₄) E s₃) E s :=
 M6 (xo:=[x]) (g:=Ve 0) hcm ⟨c.clos,c.kind,c.names,c.nocell,c.at_,c.free,c.only,c.vis⟩ ht hgt he I T st0 hf w0 (fun i m ys H w=>(turn i m ys H w).imp id fun ⟨a,b,N,n1,n2⟩=>⟨a,b,N,n1,fun y H' hy=>⟨⟨[some y],rfl,rfl⟩,n2 y H' hy⟩⟩) hRR
variable{wi:TI}{tt:TT}{te:TE}
theorem Tz(hcm:X.calm=true)(c:D1 X x scope cl ys js)(hi:PI X (.Name x px) iter wi)(ht:∀ pn s₀ H₀ fp C,PTs (Yn X pn (x :: ys) scope cl s₀ H₀ fp C) ifs tt)(he:∀ pn s₀ H₀ fp C,PE (Yn X pn (x :: ys) scope cl s₀ H₀ fp C) elt te)
  (hx:∀ C,(compEnvC scope cl C X.env).scope.names.lookup x=some .local:=by intro _;rfl) (hs:∀ x,foldedSetIterable iter X.env x=pure x:=by intro _;rfl):PE X (.ListComp elt [⟨.Name x px,iter,ifs,0⟩] scope pos) (zc8 wi js tt te):=by
 intro pins s σ H Q I h;rw[eval_ListComp];refine wpAny_comprehension_free (use:=none) rfl hs c.clos c.kind c.names (thn (hi pins s σ H _ I h) fun v s1 h1=>thn h1 fun itv s2 h2=>?_);obtain⟨it,fp,tn,J,H2,e,I2,T,st2,f2,W,⟨m0,w0⟩,turn⟩:=h2;subst e;exact Lj (RR:=fun acc C=>compPost (model X.prog X.w) X.A X.xe none (EP X pins σ Q) acc C) hcm c ht (fun _ _ _ _ C=>V1 (X:=Yn X _ (x :: ys) scope cl _ _ _ C) c.nd rfl (.inl (hx C)) ⟨.inr (hx C),Xn⟩) he I2 T st2 f2 w0 turn fun D C s' m hn hS _ _=>⟨m,hn,fun h' hs'=>let ⟨H',I',q⟩:=hS h' hs';⟨.ref D,H',I',rfl,q⟩⟩
theorem Ni{y:Str}{py spos:Pos}{i:Nat}(hN:X.N.Nodup)(hy:X.N[i]?=some y)(hk:X.env.scope.names.lookup y=some .local)(hcm:X.calm=true)(c:D1 X x scope cl ys js)(hi:PI X (.Name x px) iter wi)(ht:∀ pn s₀ H₀ fp C,PTs (Yn X pn (x :: ys) scope cl s₀ H₀ fp C) ifs tt)
  (he:∀ pn s₀ H₀ fp C,PE (Yn X pn (x :: ys) scope cl s₀ H₀ fp C) elt te)
  (hx:∀ C,(compEnvC scope cl C X.env).scope.names.lookup x=some .local:=by intro _;rfl) (hsw:swapsWith (.ListComp elt [⟨.Name x px,iter,ifs,0⟩] scope pos) (some (.Name y py)) spos.line X.env=pure true:=by rfl) (hs:∀ x,foldedSetIterable iter X.env x=pure x:=by intro _;rfl)
  (hf:Eb X i y:=by first|exact⟨.inr rfl,Xn⟩|assumption|exact⟨.inr rfl,by assumption⟩) :
  PS X (.Assign [.Name y py] (.ListComp elt [⟨.Name x px,iter,ifs,0⟩] scope pos) spos) (Ct (zc8 wi js tt te) (Ve i)):=by
 intro pins s σ H D0 I h;rw[exec_Assign_Name_used _ _ _ _ hsw];refine wpAny_bind (wpAny_standAt (wpAny_bind ?_));show wpAny _ X.A (do let _ <- comprehension (.ListComp elt [⟨.Name x px,iter,ifs,0⟩] scope pos) scope X.env _ (newList []) false (eval iter X.env) (some (assign (.Name y py) X.env))) _ _ s;refine wpAny_bind (wpAny_mono (wpAny_comprehension_free (use:=some (assign (.Name y py) X.env)) (Q:=fun _ s'=>SP X pins D0 .next s') rfl hs c.clos c.kind c.names
  (thn (hi pins s σ H _ I h) fun v s1 h1=>thn h1 fun itv s2 h2=>?_)) (fun _ s' hq=>wpAny_pure (wpAny_pure hq)) fun _ _ e=>e)
 obtain⟨it,fp,tn,J,H2,e,I2,T,st2,f2,W,⟨m0,w0⟩,turn⟩:=h2;subst e;refine Lj (Q:=fun x H1=>D0.nx (σ.set i (some x)) H1) (RR:=fun acc C=>compPost (model X.prog X.w) X.A X.xe (some (assign (.Name y py) X.env)) (fun _ s'=>SP X pins D0 .next s') acc C) hcm c ht (fun _ _ _ _ C=>V1 (X:=Yn X _ (x :: ys) scope cl _ _ _ C) c.nd rfl (.inl (hx C)) ⟨.inr (hx C),Xn⟩) he I2 T st2 f2 w0 turn fun D C s' m hn _ hS hC=>?_;obtain⟨H',I',q,fC⟩:=hS;show wpAny _ X.A (assign (.Name y py) X.env (.ref D)) _ _ _;have ltC:∀ b o,s2.heap.get? b=some o->b≠C:=fun b o e=>zqu (zqk (Heap.lt_size e) hC);have neL:C≠X.env.locals:=by
  obtain⟨_,⟨o,_,_,ho,_⟩,_⟩:=I2.loc;exact Ne.symm (ltC _ o ho)
 have neK:∀ z a,X.env.cells.lookup z=some a->a≠C:=fun z a e=>by
  obtain⟨_,o,ho,_⟩:=I2.cell z a e;exact ltC a o ho
 refine wpAny_assign_Name (K6 I' hN hy (.inl hk) (v:=.ref D) (show RelV (.ref D) (.ref D) from rfl) (fun s4 I4 ⟨a,hs4,ha⟩=>?_) hf);have naC:C≠a:=by
  rcases ha with ha|ha
  ·rw[ha];exact neL
  ·exact Ne.symm (neK _ _ ha)
 refine⟨m,hn.sameBut hs4 naC,fun h5 hs5=>⟨_,H',?_,q⟩⟩;refine I4.turned (t':=s4.toks) (it:=C) (fun b o hb e=>hs5.extBut b o hb e) fC neL (.inr (zqr I2.sz hC)) neK fun p hp=>?_;obtain⟨e,_⟩:=I2.pin p hp;exact ltC _ _ e
end
end L2
namespace G
open PySem PySem.Spec PyProof.Rows L2
def Xm:Xy->Str
 | .enrol _ _ _=>"enrol"
 | .away _ _=>"away"
 | .draw _=>"draw up"
 | .close=>"close"
 | .back=>"take back"
theorem Y4.word(h:Y4 ok H t D):∃ r,H t=some (.tup (.str (Xm D) :: r)):=by
 cases D with
 | enrol a b c=>exact⟨_,h⟩
 | away a b=>exact⟨_,h⟩
 | draw ms=>obtain⟨l,ts,a1,_⟩:=h;exact⟨_,a1⟩
 | close=>exact⟨_,h⟩
 | back=>exact⟨_,h⟩
end G
namespace G
open PySem PySem.Spec PyProof.Rows L2
inductive Fx(vs:List V)(H:Hp)(Q:VK)(_:XK):Prop where
 | mk(t1 t2:Addr)(d:Vi)(_:vs=[.ref t1,.ref t2])(_:H t1=some (.tup (Y9 d)))(_:H t2=some (.tup (Y9 d)))(_:Q (.bl true) H)
inductive Ll(K:Frag)(vs:List V)(H:Hp)(Q:VK)(_:XK):Prop where
 | mk(b c:Addr)(ts us:List V)(ds:List Vi)(_:vs=[.ref b,.ref c])(_:H b=some (.lst ts))(_:H c=some (.lst us))(_:Z0 H ts (ds.map Y9))(_:Z0 H us (ds.map Y9))(_:ds.length<=1000)(_:Q (.bl true) H)
end G
namespace L2
open PySem PySem.Spec PyProof.Rows PySem.Builtin PySem.Builtin.Str
theorem Jx:OpR X (binaryOp .Add) (fun x y H Q=>∃ a b:Str,x=.str a/\y=.str b/\a.length+b.length<=sizeLine/\Q (.str (a++b)) H):=by
 intro pins s σ H x y v u Q I rx ry h;obtain⟨a,b,rfl,rfl,hz,q⟩:=h;obtain⟨t,rfl⟩:=rx;obtain⟨t',rfl⟩:=ry;exact P.add_str (PySem.SB.post_add hz fun t' k=>⟨.str (a++b),H,I.tok _,⟨_,rfl⟩,q⟩)
def zct(a b:Str):List Str:=partsBetween a (occurrences a b 0 a.length (a.length+1)) b.length
inductive ze4(x:V)(xs:List V)(H:Hp)(Q:VK):Prop where
 | mk(a b:Str)(_:x=.str a)(_:xs=[.str b])(_:(decide (a.length<b.length)||decide (strKind a<strKind b))=false)(_:(b.length == 0)=false)(_:(occurrences a b 0 a.length (a.length+1)).isEmpty=false)(_:a.length<=sizeLine)(_:(zct a b).length<=sizeLine)(_:∀ l,H l=none->Q (.ref l) (upd H l (.lst ((zct a b).map V.str))))
theorem Fy:∀ (k:Nat) (ws:List Str),Vals (ws.map V.str) (strsFrom k ws)
 | _,[]=>.nil
 | k,w :: ws=>.cons ⟨_,rfl⟩ (Fy (k+1) ws)
theorem zbc:MtR X "str.split" ze4:=by
 intro pins s σ H x xs v us Q I rx rv h;obtain⟨a,b,rfl,rfl,h1,h2,h3,h4,h5,q⟩:=h;obtain⟨t,rfl⟩:=rx;obtain⟨u,rfl,ru⟩:=rv.one;obtain⟨t',rfl⟩:=ru;have hf:H s.heap.objs.size=none:=I.hok.fresh (zqa _);refine call_meets F.slot_str_split (typeIs_str _ _ _) F.entry_str_split (F.args_str_split_2 _ _) (meets_str_split_sep a b t t' h1 h2 h3 h4 h5) ?_;refine⟨.ref s.heap.objs.size,upd H s.heap.objs.size (.lst ((zct a b).map V.str)),I.laid (fun _ _ q=>Heap.get?_push_of_some _ q) (zqa _) ?_,rfl,q _ hf⟩;exact⟨by rw[zp3];exact h5,_,_,Fy s.toks _,Heap.get?_push_size _ rfl⟩
end L2
namespace G
open PySem PySem.Spec PyProof.Rows L2
inductive Ref where
 | out|known|many|unk|manyM|same|noMatch|noRound|over|seaOver|away|drawn|notDrawn|nothing|manyD
 deriving DecidableEq
def Ref.cls(ca:CA):Ref->Addr
 | .out=>ca.out|.known=>ca.known|.many=>ca.many|.unk=>ca.unk|.manyM=>ca.manyM|.same=>ca.same|.noMatch=>ca.noMatch|.noRound=>ca.noRound
 | .over=>ca.over|.seaOver=>ca.seaOver|.away=>ca.away|.drawn=>ca.drawn|.notDrawn=>ca.notDrawn|.nothing=>ca.nothing|.manyD=>ca.manyD
def Ref.name:Ref->Str
 | .out=>"OutOfRange" | .known=>"KnownReferee" | .many=>"TooManyReferees" | .unk=>"UnknownReferee" | .manyM=>"TooManyMatches" | .same=>"SameClub" | .noMatch=>"NoSuchMatch" | .noRound=>"NoSuchRound"
 | .over=>"RoundOver" | .seaOver=>"SeasonOver" | .away=>"AwayAlready" | .drawn=>"DrawnUp" | .notDrawn=>"NotDrawn" | .nothing=>"NothingToTakeBack" | .manyD=>"TooManyDeeds"
open Classical in
noncomputable def refS(S:Sea):Xy->Option Ref
 | .enrol n g c=>if S.len<=S.led.length then some .seaOver else if S.cur.isSome=true then some .drawn else if badI n g c then some .out else if n∈S.ppl.map (·.1) then some .known else if 30<=S.ppl.length then some .many else if 100<=S.std.length then some .manyD else none
 | .away i n=>if i<1\/(S.len:Int)<i then some .noRound else if i<=S.led.length then some .over else if n∈S.ppl.map (·.1) then (if (i,n)∈S.out then some .away else if 100<=S.std.length then some .manyD else none) else some .unk
 | .draw ms=>if S.len<=S.led.length then some .seaOver else if S.cur.isSome=true then some .drawn else if 20<ms.length then some .manyM else if Uk ms then some .out else if V9 ms then some .same else if 100<=S.std.length then some .manyD else none
 | .close=>if S.len<=S.led.length then some .seaOver else if S.cur=none then some .notDrawn else none
 | .back=>if S.std=[] then some .nothing else none
def Hs:Xy->Prop
 | .enrol n g c=>Hj n g c
 | .away i n=>Z6 i/\Z6 n
 | .draw ms=>(∀ m∈ms,Ol m)/\ms.length<=1000
 | _=>True
inductive zdg(K:Frag)(ca:CA)(vs:List V)(H:Hp)(Q:VK)(E:XK):Prop where
 | mk(A:SAd)(S:Sea)(t:Addr)(d:Xy)(_:vs=[.ref A.p,.ref t])(_:Zu ca H A S)(_:Y4 (·∉A.fp) H t d)(_:Hs d)(_:Cj S)(_:S7 S)(_:S.std.length<=500)(_:S.out.length<=100000)(_:2*(tot S.led+1000)<=100000)(_:S.led.length<=1000)(_:S.old.length<=1000)(_:(d=.back->S.std≠[]->∃ S0,S8 S0 S))(_:(∀ r,refS S d=some r->∀ H',Same H H'->E (.ref (r.cls ca)) none H'))(_:(refS S d=none->∀ v A' S' H',Xz H' S d S' v->Zu ca H' A' S'->Qd A A' H->FrS A H H'->(∀ l,v=.ref l->(∃ xs,H' l=some (.lst xs))->H l=none)->Q v H'))
inductive zbd(K:Frag)(ca:CA)(vs:List V)(H:Hp)(Q:VK)(_:XK):Prop where
 | mk(A:SAd)(S:Sea)(t:Addr)(d:Xy)(_:vs=[.ref A.p,.ref t])(_:Zu ca H A S)(_:Y4 (·∉A.fp) H t d)(_:Hs d)(_:Cj S)(_:S7 S)(_:S.std.length<=500)(_:S.out.length<=100000)(_:2*(tot S.led+1000)<=100000)(_:S.led.length<=1000)(_:S.old.length<=1000)(_:(d=.back->S.std≠[]->∃ S0,S8 S0 S))(_:(∀ r,refS S d=some r->∀ u l H',H' u=some (.tup [.str "refused",.ref l])->H' l=some (.lst [.str r.name,.str "ValueError"])->Same H H'->H u=none->Q (.ref u) H'))(_:(refS S d=none->∀ u v A' S' H',H' u=some (.tup [.str "told",v])->Xz H' S d S' v->Zu ca H' A' S'->Qd A A' H->FrS A H H'->u∉A'.fp->Q (.ref u) H'))
theorem Bw(h:refS S d=none)(hc:∀ ms,d=.draw ms->∀ m∈ms,Ol m):Lh S d/\((d≠.close/\d≠.back)->S.std.length<100):=by
 cases d with
 | enrol n g c =>
   simp only[refS] at h;split at h;· cases h
   split at h;· cases h
   split at h;· cases h
   split at h;· cases h
   split at h;· cases h
   split at h;· cases h
   rename_i h1 h2 h3 h4 h5 h6;refine⟨⟨by omega,?_,h3,h4,by omega⟩,fun _=>by omega⟩;cases hc:S.cur with
   | none=>rfl
   | some s=>rw[hc] at h2;exact absurd rfl h2
 | away i n =>
   simp only[refS] at h;split at h;· cases h
   split at h;· cases h
   split at h
   ·split at h;· cases h
    split at h;· cases h
    rename_i h1 h2 h3 h4 h5;exact⟨⟨by omega,by omega,h3,h4⟩,fun _=>by omega⟩
   ·cases h
 | draw ms =>
   simp only[refS] at h;split at h;· cases h
   split at h;· cases h
   split at h;· cases h
   split at h;· cases h
   split at h;· cases h
   split at h;· cases h
   rename_i h1 h2 h3 h4 h5 h6;refine⟨⟨by omega,?_,by omega,fun m hm hb=>h4 ⟨m,hm,hb⟩,fun m hm hb=>h5 ⟨m,hm,hb⟩⟩,fun _=>by omega⟩;cases hc:S.cur with
   | none=>rfl
   | some s=>rw[hc] at h2;exact absurd rfl h2
 | close =>
   simp only[refS] at h;split at h;· cases h
   split at h;· cases h
   rename_i h1 h2;exact⟨⟨by omega,h2⟩,fun z=>absurd rfl z.1⟩
 | back =>
   simp only[refS] at h;split at h;· cases h
   rename_i h1;exact⟨h1,fun z=>absurd rfl z.2⟩
end G
namespace G
open PySem PySem.Spec PyProof.Rows L2
theorem zbe(h:refS S d=some r):r≠.noMatch:=by
 intro e;subst e;cases d<;>simp only[refS] at h<;>(repeat' split at h)<;>cases h
def refB(r:Ref):List V:=[.out,.known,.many,.unk,.manyM,.same,.noMatch,.noRound,.over,.seaOver,.away,.drawn,.notDrawn,.nothing,.manyD].map (fun t=>V.bl (decide (r=t)))++[V.bl true]
def refW:List Str:=["OutOfRange","KnownReferee","TooManyReferees","UnknownReferee","TooManyMatches","SameClub","NoSuchMatch","NoSuchRound","RoundOver","SeasonOver","AwayAlready","DrawnUp","NotDrawn","NothingToTakeBack","TooManyDeeds","ValueError"]
def refP(r:Ref)(i:Nat):Bool:=decide ((refB r)[i]?=some (V.bl true))
theorem Bx(r:Ref):((List.range 16).filter (refP r)).map (fun i=>V.str (refW.getD i ""))=[.str r.name,.str "ValueError"]:=by cases r<;>decide +kernel
theorem zbf(r:Ref)(h:i<16):(refB r)[i]?=some (V.bl (refP r i)):=by
 have hl:i<(refB r).length:=h;have e:=zp5 hl;obtain⟨b,hb⟩:∃ b,(refB r)[i]=V.bl b:=by
  rcases zqi.mp (show (refB r)[i]∈_++_ from zq7 hl) with z|z
  ·obtain⟨t,_,e⟩:=zqh.mp z;exact⟨_,e.symm⟩
  ·exact⟨true,zp9.mp z⟩
 rw[hb] at e;unfold refP;rw[e];cases b
 ·rw[zqd fun z=>by cases z]
 ·rw[zp8 rfl]
theorem zbg(h:i<16):(refW.map V.str)[i]?=some (V.str (refW.getD i "")):=by
 rw[zqb,zqm];have:i<refW.length:=h;rw[zp5 this];rfl
theorem By:zct (("OutOfRange KnownReferee TooManyReferees UnknownReferee TooManyMatches SameClub":Str)++(" NoSuchMatch NoSuchRound RoundOver SeasonOver AwayAlready DrawnUp":Str)++(" NotDrawn NothingToTakeBack TooManyDeeds ValueError":Str)) (" ":Str)=refW:=by decide +kernel
theorem Xz.same(af:Xz H S d S' v)(e:Same H H'):Xz H' S d S' v:=by
 cases af with
 | enrol n g c=>exact .enrol n g c
 | awayN h hl=>exact .awayN h (e _ _ hl)
 | awayF h hp hl=>exact .awayF h hp (e _ _ hl)
 | awayC h hp hl tl CR=>exact .awayC h hp (e _ _ hl) (tl.same e) CR
 | draw hl F T=>exact .draw (e _ _ hl) F T
 | close h=>exact .close h
 | back h ht hs=>exact .back h (e _ _ ht) hs
theorem Qd.back(nx:Qd A A' H')(e:Same H H'):Qd A A' H:=by
 obtain⟨x,rfl,h⟩:=nx;exact⟨x,rfl,h.elim .inl fun z=>.inr (e.free z)⟩
end G
namespace G
open PySem PySem.Spec PyProof.Rows L2
theorem KeepI.none(kt:∀ t xs,H t=some (.tup xs)->H' t=some (.tup xs)):∀ {vs:List V} {ss:List (Vi×Option Z5)},(∀ x∈ss,x.2=none)->Vs C ok H vs ss->Vs C ok H' vs ss
 | _,_,_,.nil=>.nil
 | _,(d,s) :: ss,hn,.cons h hu hs r=>by
   have e:s=Option.none:=hn (d,s) zqp;subst e;exact .cons (kt _ _ h) (kt _ _ hu) hs (KeepI.none kt (fun x hx=>hn x (zql _ hx)) r)
theorem zcu(r:Ref):decide (r.name="")=false:=by cases r<;>decide +kernel
theorem Cm(r:Ref):∀ w∈[r.name,("ValueError":Str)],PyData.strOk w=true:=by cases r<;>decide +kernel
structure I21(r i:Nat)(noted:List Int)(S:Sea):Prop where
 len:S.len=r
 led:S.led=[]
 cur:S.cur=none
 old:S.old=[]
 std:∀ x∈S.std,x.2=none
 sl:S.std.length<=i
 ol:S.out.length<=i
 z:(noted=[]/\S.ppl=[]/\S.std=[]/\S.out=[])\/∃ ds,noted=0 :: ds/\S.ppl=[(5,5,5)]/\S.out=ds.map fun i=>(i,5)
 e:i<=10->noted=[]
end G
namespace G
open PySem PySem.Spec PyProof.Rows L2
structure zht(n:Nat)(s:Z5):Prop where
 ms:s.ms.length<=20
 ml:s.may.length=s.ms.length
 fi:Yp s.may s.gv
 st:Vh s.may s.gv
 mo:∃ nu,Nd s.may nu
 gp:s.gaps.length<=n/\∀ x∈s.gaps,x.2.length<=100
theorem Jy:decide (V.str (Xm D)=V.str "take back")=match D with|.back=>true|_=>false:=by
 cases D with
 | back=>exact S9
 | enrol n g c=>exact Xl (show decide (("enrol":Str)="take back")=false by decide +kernel)
 | away i n=>exact Xl (show decide (("away":Str)="take back")=false by decide +kernel)
 | draw ms=>exact Xl (show decide (("draw up":Str)="take back")=false by decide +kernel)
 | close=>exact Xl (show decide (("close":Str)="take back")=false by decide +kernel)
theorem Cn(h:D≠.back):decide (V.str (Xm D)=V.str "take back")=false:=by
 rw[Jy];cases D<;>first|rfl|exact absurd rfl h
section
variable{rows:List (List Int)}{gs0 hs:List V}{p:Nat}{n0:Int}
structure zhm(rows:List (List Int))(gs0 hs:List V)(p:Nat)(i:Nat)(L:List Nat)(q:Nat):Prop where
 len:L.length=i+1
 nd:L.Nodup
 mem:q∈L
 walk:Walk rows (gs0.set p .non) p q i
 df:∀ k∈L,k<gs0.length/\gs0[k]?≠hs[k]?
 back:∀ y∈L,y≠p->∃ x∈L,x≠q/\∃ n,hs[x]?=some (.int n)/\(gs0.set p .non)[y]?=some (.int n)
 full:∀ y∈L,gs0[y]?≠some .non
end
open Classical in
noncomputable def eq1(x y:V):Nat:=if x=y then 1 else 0
inductive StK(N:List Int):List (List Int)->List V->Nat->Nat->Nat->Prop where
 | nil:StK N [] [] 0 0 0
 | skip {rows:List (List Int)} {r:List Int} {ah:List V} {v:V} {f u k:Nat} (h:StK N rows ah f u k):StK N (rows++[r]) (ah++[v]) (2*f) u (k+eq1 .non v)
 | take {rows:List (List Int)} {r:List Int} {ah:List V} {v:V} {f u k b:Nat} {n:Int} (h:StK N rows ah f u k) (hb:N[b]?=some n) (hn:n∈r) (hu:u/2 ^ b%2=0):StK N (rows++[r]) (ah++[v]) (2*f+1) (u+2 ^ b) (k+eq1 (.int n) v)
structure zhn(N:List Int)(rows:List (List Int))(ah:List V)(best kept:Nat):Prop where
 at_:∃ u,StK N rows ah best u kept
 top:∀ f u k,StK N rows ah f u k->f<=best
 most:∀ u k,StK N rows ah best u k->k<=kept
open Classical in
structure zhu(R:Nat×Nat->Nat->Prop)(ps:List (Nat×Nat))(g:Nat×Nat->Nat):Prop where
 mem:∀ q,q∈ps↔∃ k,R q k
 at_:∀ q∈ps,R q (g q)
 top:∀ q k,R q k->k<=g q
section
variable{mb:Bool}{ok ok':Addr->Prop}{A A':SAd}{H H':Hp}{nu:List Int}{n m:Nat}{ds:List Addr}{d:Addr}{P:Pg}{S S':Sea}{D:Xy}
structure W2(ok:Addr->Prop)(H:Hp)(ts:List V)(Ds:List Xy):Prop where
 len:ts.length=Ds.length
 at_:∀ (i:Nat) x,ts[i]?=some x->∃ t D,x=.ref t/\Ds[i]?=some D/\Y4 ok H t D
theorem W2.snoc(h:W2 ok H ts Ds)(hD:Y4 ok H t D):W2 ok H (ts++[.ref t]) (Ds++[D]):=by
 obtain⟨h1,h2⟩:=h;refine⟨by rw[zp6,zp6,h1];rfl,fun i x hx=>?_⟩;rw[List.getElem?_append] at hx;split at hx
 ·rename_i hi;obtain⟨t',D',e1,e2,e3⟩:=h2 i x hx;exact⟨t',D',e1,by rw[zqw ⋯];exact e2,e3⟩
 ·rename_i hi;have:i-ts.length=0:=by
   have:=(zp4.mp hx).1;have e:[V.ref t].length=1:=rfl;omega
  rw[this] at hx;cases hx;exact⟨t,D,rfl,by rw[zqy ⋯,<- h1,this];rfl,hD⟩
theorem W2.same(e:Same H H')(h:W2 ok H ts Ds):W2 ok H' ts Ds:=⟨h.len,fun i x hx=>by obtain⟨t,D,a,b,c⟩:=h.at_ i x hx;exact⟨t,D,a,b,c.same e⟩⟩
theorem W2.fr(f:FrN A A' H H')(h:W2 (·∉A.fp) H ts Ds):W2 (·∉A'.fp) H' ts Ds:=⟨h.len,fun i x hx=>by obtain⟨t,D,a,b,c⟩:=h.at_ i x hx;exact⟨t,D,a,b,c.fr f⟩⟩
end
structure PgR(mb:Bool)(ok:Addr->Prop)(H:Hp)(nu:List Int)(n:Nat)(d:Addr)(P:Pg)(S:Sea):Prop where
 pg:za8 ok H d P
 rb:ze3 mb P S
 so:SOk nu n S
open Classical in
noncomputable def Hu(ms:List P3):Str:=if 20<ms.length then "TooManyMatches" else if Uk ms then "OutOfRange" else if V9 ms then "SameClub" else ""
open Classical in
noncomputable def dueW(S:Sea)(D:Xy):Str:=match refS S D with|some r=>r.name|none=>""
theorem Jz(ns:List Int):(ns.map V.int).all Ts=true:=List.all_eq_true.mpr fun x hx=>by obtain⟨_,_,rfl⟩:=zqh.mp hx;rfl
theorem Mf(b:Bool):atI [x,y] (if b=true then 1 else 0)=some (if b=true then y else x):=by cases b<;>rfl
theorem Fz(h0:¬ S.len<=S.led.length)(h1:¬ S.cur.isSome=true)(hs:S.std.length<100):dueW S (.draw ms)=Hu ms:=by
 unfold dueW Hu;simp only[refS];rw[if_neg h0,if_neg h1];by_cases c1:20<ms.length
 ·rw[if_pos c1,if_pos c1];rfl
 rw[if_neg c1,if_neg c1];by_cases c2:Uk ms
 ·rw[if_pos c2,if_pos c2];rfl
 rw[if_neg c2,if_neg c2];by_cases c3:V9 ms
 ·rw[if_pos c3,if_pos c3];rfl
 ·rw[if_neg c3,if_neg c3,if_neg ⋯]
theorem J0(h:refS S D=some r):dueW S D=r.name:=by unfold dueW;rw[h]
theorem Bz(h:refS S D=none):dueW S D="":=by unfold dueW;rw[h]
def Nj(d:Vi):Dt:=.tup [.str d.1,.int d.2.1,.int d.2.2]
theorem F1{K:Frag}{H:Hp}:∀ {us:List V} {ds:List Vi},Z0 H us (ds.map Y9)->Xs K H us (ds.map Nj)
 | _,[],h=>by cases h;exact .nil
 | _,d :: ds,h=>by
   cases h with
   | cons h1 h2=>exact .cons (.tup (SqT.of h1) (.cons (.str _) (.cons (.int _) (.cons (.int _) .nil)))) (F1 h2)
theorem zbh(ds:List Vi)(hw:∀ d∈ds,PyData.strOk d.1=true):shD (.lst (ds.map Nj)):=by
 have h:PyData.canLayAll0 (Yl (ds.map Nj))=true/\PyData.depthAll (Yl (ds.map Nj))<=2:=by
  induction ds with
  | nil=>exact⟨rfl,by decide⟩
  | cons d r ih =>
    obtain⟨h1,h2⟩:=ih fun d hd=>hw d (zql _ hd);have hd:=hw d zqp;refine⟨?_,?_⟩
    ·rw[zqc,Yl,PyData.canLayAll0,h1];simp[Nj,toPy,Yl,PyData.canLay0,PyData.canLayAll0,hd]
    ·rw[zqc,Yl,PyData.depthAll];have:PyData.depth (toPy (Nj d))<=2:=by simp[Nj,toPy,Yl,PyData.depth,PyData.depthAll]
     omega
 unfold shD SeqAt.shaped;rw[toPy,PyData.canLay0,h.1,Bool.true_and];refine zp8 ?_;rw[PyData.depth];have:=h.2;omega
def zgj(r o:Int)(dr:Bool)(lp ll:Addr):List (Key×V):=[(.inr "rounds",.int r),(.inr "over",.int o),(.inr "drawn",.bl dr),(.inr "people",.ref lp),(.inr "log",.ref ll)]
structure zhj(H:Hp)(d lp ll:Addr)(S:Sea):Prop where
 dd:H d=some (.dK (zgj S.len S.led.length S.cur.isSome lp ll))
 pp:∃ pts,H lp=some (.lst pts)/\Z0 H pts (S.ppl.map pV)
 gg:∃ lts,H ll=some (.lst lts)/\Z0 H lts (S.std.map fun x=>Y9 x.1)
 ne:lp≠ll
structure I22(S:Sea):Prop where
 out:S.out=[]
 std:∀ x∈S.std,x.2=none/\(x.1.1=("enrol":Str)\/x.1.1=("draw up":Str))
 last:∀ std0 x,S.std=std0++[x]->x.1.1=("enrol":Str)->S.cur=none
theorem Z0.unsnoc(h:Z0 H ts (R++[r])):∃ ts0 t,ts=ts0++[.ref t]/\Z0 H ts0 R/\H t=some (.tup r):=by
 induction R generalizing ts with
 | nil =>
   cases h with
   | cons h q=>cases q;exact⟨[],_,rfl,.nil,h⟩
 | cons x R ih =>
   cases h with
   | cons h q =>
     obtain⟨ts0,t,e,q0,ht⟩:=ih q;exact⟨_ :: ts0,t,by rw[e];rfl,.cons h q0,ht⟩
theorem J1{P:Program}{w:World}{H:Hp}{h:Heap}{a:Addr}{o:HO}(x:Yh P w H h a o):∃ ob,h.get? a=some ob:=by
 cases o with
 | lst xs=>obtain⟨_,_,_,_,e⟩:=x;exact⟨_,e⟩
 | tup xs=>obtain⟨_,_,_,ob,e,_⟩:=x;exact⟨_,e⟩
 | dK kvs=>obtain⟨_,_,_,_,o,_,_,e,_⟩:=x;exact⟨_,e⟩
 | dT kvs=>obtain⟨_,_,_,_,o,_,_,e,_⟩:=x;exact⟨_,e⟩
 | set S n=>obtain⟨o,_,_,_,e,_⟩:=x;exact⟨_,e⟩
 | ins C dx fs=>obtain⟨_,_,_,e,_⟩:=x;exact⟨_,e⟩
 | own y=>exact x
 | xd fs=>obtain⟨_,⟨_,_,_,e,_⟩,_⟩:=x;exact⟨_,e⟩
 | rng lo hi=>obtain⟨_,_,_,e⟩:=x;exact⟨_,e⟩
 | frz ob u=>obtain⟨e,_⟩:=x;exact⟨_,e⟩
 | tbl ps=>exact⟨_,x⟩
 | met f y=>exact⟨_,x⟩
 | ext φ=>obtain⟨_,e,_⟩:=x;exact e
def dxs:HO->List Addr
 | .ins _ dx _=>[dx]
 | .frz _ u=>dxs u
 | _=>[]
theorem zbi(x:Yh P w H h a o)(k:∀ b u,(b=a\/b∈dxs o)->h.get? b=some u->h'.get? b=some u)
  (ho:∀ b∈dxs o,H b=some (.own a)->H' b=some (.own a)) (ht:∀ b xs,H b=some (.tup xs)->H' b=some (.tup xs)):Yh P w H' h' a o:=by
 induction o with
 | lst xs=>obtain⟨z,its,n,r,e⟩:=x;exact⟨z,its,n,r,k _ _ (.inl rfl) e⟩
 | tup xs=>obtain⟨z,its,r,ob,e,c⟩:=x;exact⟨z,its,r,ob,k _ _ (.inl rfl) e,c⟩
 | dK kvs=>obtain⟨z,y,vs,r,ob,es,ep,e,c⟩:=x;exact⟨z,y,vs,r,ob,es,ep,k _ _ (.inl rfl) e,c⟩
 | dT kvs =>
   obtain⟨z,y,xs,r,ob,es,ep,e,c⟩:=x;exact⟨z,y,xs,Paired.mapP r fun p q z=>⟨z.1,ht _ _ z.2.1,z.2.2⟩,ob,es,ep,k _ _ (.inl rfl) e,c⟩
 | set S n=>obtain⟨ob,es,ep,t,e,c⟩:=x;exact⟨ob,es,ep,t,k _ _ (.inl rfl) e,c⟩
 | ins C dx fs =>
   obtain⟨d,z,ne,e,mA,⟨od,es,ep,e2,c⟩,r⟩:=x;exact⟨ho _ zqp d,z,ne,k _ _ (.inl rfl) e,mA,⟨od,es,ep,k _ _ (.inr zqp) e2,c⟩,r⟩
 | own y=>obtain⟨ob,e⟩:=x;exact⟨ob,k _ _ (.inl rfl) e⟩
 | xd fs=>obtain⟨mA,⟨od,es,ep,e,c⟩,r⟩:=x;exact⟨mA,⟨od,es,ep,k _ _ (.inl rfl) e,c⟩,r⟩
 | rng lo hi=>obtain⟨t,u,v,e⟩:=x;exact⟨t,u,v,k _ _ (.inl rfl) e⟩
 | frz ob u ih=>obtain⟨e,q⟩:=x;exact⟨k _ _ (.inl rfl) e,ih q k ho⟩
 | tbl ps =>
   have e:h.get? a=some { cls:=.none,data:=.fields ps }:=x;show h'.get? a=some { cls:=.none,data:=.fields ps };exact k a _ (.inl rfl) e
 | met f y =>
   have e:h.get? a=some (PySem.W.methodObj (.ref f) (.ref y)):=x;show h'.get? a=some (PySem.W.methodObj (.ref f) (.ref y));exact k a _ (.inl rfl) e
 | ext φ=>obtain⟨p,⟨o,e⟩,st⟩:=x;exact⟨st _ _ p fun o q=>k _ _ (.inl rfl) q,⟨o,k _ _ (.inl rfl) e⟩,st⟩
open Classical in
noncomputable def hide(B:Addr->Prop)(H:Hp):Hp:=fun b=>if B b then none else H b
open Classical in
noncomputable def W3(B:Addr->Prop)(H H1:Hp):Hp:=fun b=>if B b then H b else H1 b
structure Ra(B:Addr->Prop)(H:Hp):Prop where
 th:∀ b,B b->H b≠none
 cl:∀ a o,H a=some o->B a->∀ dx∈dxs o,B dx
 own:∀ a b,H b=some (.own a)->B b->B a
 tup:∀ t xs,B t->H t≠some (.tup xs)
section
variable{B:Addr->Prop}{H H1:Hp}{b:Addr}{o:HO}
theorem We(h:B b):hide B H b=none:=if_pos h
theorem Ya(h:¬ B b):hide B H b=H b:=if_neg h
theorem X6(h:B b):W3 B H H1 b=H b:=if_pos h
theorem Yz(h:¬ B b):W3 B H H1 b=H1 b:=if_neg h
theorem T1(B:Addr->Prop)(H:Hp):Same (hide B H) H:=fun b o e=>by
 by_cases h:B b
 ·rw[We h] at e;cases e
 ·rw[Ya h] at e;exact e
theorem Uc(h:H b=none):hide B H b=none:=by
 by_cases z:B b
 ·exact We z
 ·rw[Ya z];exact h
end
section
variable{P:Program}{w:World}{K:Frag}{mg:Str->Option Value}{base:Heap}{B:Addr->Prop}{H H1:Hp}{s s':Shared}{outer:List Env}{A:Around}
theorem zbj(k:Ra B H)(x:HOk P w H h):HOk P w (hide B H) h:=fun a o e=>by
 by_cases z:B a
 ·rw[We z] at e;cases e
 rw[Ya z] at e;refine(x a o e).stay (fun _ _ _ q=>q) (fun b q=>?_) (fun t xs q=>?_)
 ·rw[Ya fun y=>z (k.own a b q y)];exact q
 ·rw[Ya fun y=>k.tup t xs y q];exact q
theorem zbk(k:Ra B H)(e:Nk P w K mg base A outer s H):Nk P w K mg base A outer s (hide B H):=⟨e.frames,e.mod,fun b o q=>⟨(e.bs b o q).1,Uc (e.bs b o q).2⟩,e.bsz,e.funs,fun b q=>Uc (e.frf b q),zbj k e.hok,e.bare⟩
theorem J2(k:Ra B H)(e:Nk P w K mg base A outer s H)(u:Un (frs outer) [] (hide B H) H1 s.heap s'.heap):Un (frs outer) [] H (W3 B H H1) s.heap s'.heap:=by
 refine⟨fun b o q n hf hx=>u.keep b o q (Uc n) hf hx,fun b o q n hf hx=>u.slot b o q (Uc n) hf hx,fun b o q n hx=>?_,u.there,fun b xs q=>?_,fun b o x q=>?_,fun b ps q=>?_⟩
 ·rw[Yz fun z=>k.th b z n];exact u.free b o q (Uc n) hx
 ·by_cases z:B b
  ·rw[X6 z];exact q
  ·rw[Yz z];exact u.tups b xs (by rw[Ya z];exact q)
 ·by_cases z:B b
  ·rw[X6 z];exact q
  ·rw[Yz z];exact u.frzs b o x (by rw[Ya z];exact q)
 ·by_cases z:B b
  ·exact⟨#[],by rw[X6 z,q,Array.append_empty]⟩
  ·rw[Yz z];exact u.tbls b ps (by rw[Ya z];exact q)
theorem Hv(k:Ra B H)(e:Nk P w K mg base A outer s H)(u:Un (frs outer) [] (hide B H) H1 s.heap s'.heap)(z:B b):H1 b=none:=by
 cases q:H b with
 | none=>exact absurd q (k.th b z)
 | some o =>
   obtain⟨ob,hob⟩:=J1 (e.hok b o q);exact u.free b ob hob (We z) (by simp)
theorem Ln(k:Ra B H)(e:Nk P w K mg base A outer s H)(u:Un (frs outer) [] (hide B H) H1 s.heap s'.heap)(x:HOk P w H1 s'.heap):HOk P w (W3 B H H1) s'.heap:=fun a o q=>by
 by_cases z:B a
 ·rw[X6 z] at q;refine zbi (e.hok a o q) (fun b v hb g=>?_) (fun b hb g=>?_) (fun t xs g=>?_)
  ·have zb:B b:=by
    rcases hb with rfl|hb
    ·exact z
    ·exact k.cl a o q z b hb
   refine u.keep b v g (We zb) (fun y=>?_) (by simp);exact k.th b zb (e.frf b y)
  ·rw[X6 (k.cl a o q z b hb)];exact g
  ·rw[Yz fun y=>k.tup t xs y g];exact u.tups t xs (by rw[Ya fun y=>k.tup t xs y g];exact g)
 ·rw[Yz z] at q;refine(x a o q).stay (fun _ _ _ g=>g) (fun b g=>?_) (fun t xs g=>?_)
  ·rw[Yz fun y=>by rw[Hv k e u y] at g;cases g];exact g
  ·rw[Yz fun y=>by rw[Hv k e u y] at g;cases g];exact g
end
theorem F2(h:∀ b,B b->H1 b=none):hide B (W3 B H H1)=H1:=funext fun b=>by
 by_cases z:B b
 ·rw[We z,h b z]
 ·rw[Ya z,Yz z]
inductive spF(sp:Sp)(vs:List V)(H:Hp)(Q:VK)(E:XK):Prop where
 | mk(B:Addr->Prop)(_:Ra B H)(_:sp vs (hide B H) (fun v H1=>(∀ b,B b->H1 b=none)->Q v (W3 B H H1)) (fun c o H1=>E c o (W3 B H H1)))
theorem FnOk.frame{P:Program}{w:World}{K:Frag}{mg:Str->Option Value}{base:Heap}{k:Nat}{f:Addr}{fd:FuncData}{ps:List Str}{sp:Sp}(F:FnOk P w K mg base (CX1 P w) k f fd ps sp):FnOk P w K mg base (CX1 P w) k f fd ps (spF sp):=by
 refine⟨fun vs H Q E ⟨B,_,h⟩=>F.len vs _ _ _ h,fun A outer s H args us vs Q E hr he hb hv ⟨B,ok,h⟩=>?_⟩;refine codeAny_mono (F.run A outer s (hide B H) args us vs _ _ hr (zbk ok he) hb hv h) fun r s' c=>?_;cases r with
 | ok d =>
   cases d with
   | ret u =>
     obtain⟨v,H',c1,c2,c3,c4,c5,c6⟩:=c;exact⟨v,_,c1,c2,J2 ok he c3,Ln ok he c3 c4,c5,c6 fun b z=>Hv ok he c3 z⟩
   | _=>exact c
 | error e =>
   obtain⟨a,T,cls,H',e1,c1,c2,c3,c4,c5,c6⟩:=c;refine⟨a,T,cls,_,e1,c1,c2,J2 ok he c3,Ln ok he c3 c4,?_,c6⟩;obtain⟨f1,f2,f3,f4,f5⟩:=c5;have nb:∀ {x:Addr},s.heap.get? x=none->H' x=none->W3 B H H' x=none:=fun {x} hx hn=>by
    by_cases z:B x
    ·cases q:H x with
     | none=>exact absurd q (ok.th x z)
     | some o =>
       obtain⟨ob,hob⟩:=J1 (he.hok x o q);rw[hx] at hob;cases hob
    ·rw[Yz z];exact hn
   exact⟨f1,f2,f3,nb f2 f4,nb f3 f5⟩
inductive zcv(nu:List Int)(n:Nat):Sea->Prop where
 | nil {S:Sea} (e:S.std=[]) (o:SOk nu n S):zcv nu n S
 | snoc {S0 S:Sea} (h:zcv nu n S0) (st:S8 S0 S) (o:SOk nu n S):zcv nu n S
theorem Xv(e:Same H H'):Same (hide B H) (hide B H'):=fun b o q=>by
 by_cases h:B b
 ·rw[We h] at q;cases q
 ·rw[Ya h] at q ⊢;exact e _ _ q
theorem Sb(k:∀ x o,H x=some o->¬ B x->H' x=some o)(hb:∀ x,B' x->B x\/H x=none):Same (hide B H) (hide B' H'):=fun b o q=>by
 by_cases h:B b
 ·rw[We h] at q;cases q
 ·rw[Ya h] at q;have:¬ B' b:=fun z=>by
   rcases hb b z with y|y
   ·exact h y
   ·rw[q] at y;cases y
  rw[Ya this];exact k b o q h
theorem Hw(h:∀ b,B b->(∃ xs,H b=some (.lst xs))\/∃ kvs,H b=some (.dK kvs)):Ra B H:=by
 refine⟨fun b z e=>?_,fun a o e z dx hd=>?_,fun a b e z=>?_,fun t xs z e=>?_⟩
 ·rcases h b z with ⟨_,q⟩|⟨_,q⟩
  ·rw[e] at q;cases q
  ·rw[e] at q;cases q
 ·rcases h a z with ⟨_,q⟩|⟨_,q⟩
  ·rw[e] at q;cases q;cases hd
  ·rw[e] at q;cases q;cases hd
 ·rcases h b z with ⟨_,q⟩|⟨_,q⟩
  ·rw[e] at q;cases q
  ·rw[e] at q;cases q
 ·rcases h t z with ⟨_,q⟩|⟨_,q⟩
  ·rw[e] at q;cases q
  ·rw[e] at q;cases q
theorem Zu.keep0(h:Zu ca H A S)(hn:∀ x∈A.fp,∀ o,H x=some o->H' x=some o)(kt:∀ t xs,H t=some (.tup xs)->H' t=some (.tup xs))(ki:∀ x c e f,H x=some (.ins c e f)->H' x=some (.ins c e f))(hc:S.cur=none)(ho:S.old=[])(hs:∀ x∈S.std,x.2=none):Zu ca H' A S:=by
 obtain⟨⟨dx,v,a1,a2⟩,b,c,⟨kvs0,d1,d2⟩,⟨vs,f1,f2⟩,⟨us,g1,g2⟩,nd,np⟩:=h;have hp:A.p∈A.fp:=by simp[SAd.fp]
 have hdr:A.dr∈A.fp:=by simp[SAd.fp]
 have hlr:A.lr∈A.fp:=by simp[SAd.fp]
 have hld:A.ld∈A.fp:=by simp[SAd.fp]
 have hda:A.da∈A.fp:=by simp[SAd.fp]
 have hls:A.ls∈A.fp:=by simp[SAd.fp]
 have hlt:A.lt∈A.fp:=by simp[SAd.fp]
 obtain⟨⟨dxr,kvr,r1,r2,r3⟩,ndr⟩:=b;obtain⟨⟨dxl,l1⟩,l2,l3⟩:=id c;rw[hc] at a2;rw[ho] at f2;refine⟨⟨dx,v,hn _ hp _ a1,by rw[hc];exact a2⟩,⟨⟨dxr,kvr,ki _ _ _ _ r1,hn _ hdr _ r2,r3.mono kt⟩,ndr⟩,c.keep (fun o e=>?_) (hn _ hlr) (hn _ hld) kt,⟨kvs0,hn _ hda _ d1,d2⟩,⟨vs,hn _ hls _ f1,by rw[ho];cases f2;exact .nil⟩,⟨us,hn _ hlt _ g1,KeepI.none kt hs g2⟩,nd,np⟩;rw[l1] at e;cases e;exact ki _ _ _ _ l1
theorem Zu.hide0(h:Zu ca H A S)(hb:∀ b,B b->b∉A.fp/\((∃ xs,H b=some (.lst xs))\/∃ kvs,H b=some (.dK kvs)))(hc:S.cur=none)(ho:S.old=[])(hs:∀ x∈S.std,x.2=none):Zu ca (hide B H) A S:=by
 refine h.keep0 (fun x hx o e=>?_) (fun t xs e=>?_) (fun x c d f e=>?_) hc ho hs
 ·rw[Ya fun z=>(hb x z).1 hx];exact e
 ·refine(Ya fun z=>?_).trans e;rcases(hb t z).2 with ⟨_,q⟩|⟨_,q⟩
  ·rw[e] at q;cases q
  ·rw[e] at q;cases q
 ·refine(Ya fun z=>?_).trans e;rcases(hb x z).2 with ⟨_,q⟩|⟨_,q⟩
  ·rw[e] at q;cases q
  ·rw[e] at q;cases q
structure D22(nu:List Int)(D:Xy):Prop where
 aw:∀ i n,D≠.away i n
 dr:∀ ms,D=.draw ms->ms=[]
 sm:Hs D
 en:∀ k g c,D=.enrol k g c->k∈nu\/badI k g c
section
variable{B:Addr->Prop}{H H' H1 H2:Hp}{b:Addr}{o:HO}
theorem zbl(h:B b):hide B (upd H b o)=hide B H:=funext fun x=>by
 by_cases z:B x
 ·rw[We z,We z]
 ·rw[Ya z,Ya z,Zh (fun e=>z (by rw[e];exact h))]
theorem F3(h:Same (hide B H) H2):Same H (W3 B H H2):=fun x o e=>by
 by_cases z:B x
 ·rw[X6 z];exact e
 ·rw[Yz z];exact h _ _ (by rw[Ya z];exact e)
theorem J9(g:∀ b,B b->H2 b=none):Same H2 (W3 B H H2):=fun x o e=>by
 by_cases z:B x
 ·rw[g x z] at e;cases e
 ·rw[Yz z];exact e
theorem ze5{K:Frag}{le:Addr}{xs:List V}(h:SqL K H b xs)(hl:H le=none)(k:∀ x o,x≠le->H x=some o->H' x=some o):SqL K H' b xs:=by
 rcases h with (h|⟨u,h⟩)|h
 ·exact .inl (.inl (k _ _ (Zg h hl) h))
 ·exact .inl (.inr ⟨u,k _ _ (Zg h hl) h⟩)
 ·exact .inr h
end
def B22(d lp ll ln le:Addr):Addr->Prop:=fun x=>x=d\/x=lp\/x=ll\/x=ln\/x=le
structure zhv(ca:CA)(nu:List Int)(d lp ll ln le:Addr)(A:SAd)(S:Sea)(n:Nat)(H:Hp):Prop where
 sea:Zu ca (hide (B22 d lp ll ln le) H) A S
 st:zhj H d lp ll S
 i:I22 S
 hi:zcv nu n S
 lv:H ln=some (.lst (nu.map V.int))
 lw:∃ ys,H le=some (.lst ys)
 nl:lp≠ln/\ll≠ln
 ne:lp≠le/\ll≠le
end G
namespace L2
open PySem PySem.Spec PyProof.Rows
def zgk(K:Frag)(as:List Nat)(CB CC:Addr)(th ti:TS)(D:Qf)(σ:St):XK:=fun cls _ H'=>∃ C,cls=.ref C/\((PySem.W.mroIn K C (.ref CB)=some true/\th D (fgt as σ) H')\/(PySem.W.mroIn K C (.ref CB)=some false/\PySem.W.mroIn K C (.ref CC)=some true/\ti D (fgt as σ) H'))
def zgl(K:Frag)(as:List Nat)(CB CC:Addr)(tb:XK->TS)(th ti:TS):TS:=fun D σ H=>tb (zgk K as CB CC th ti D σ) D σ H
section
variable{X:Cx}{as:List Nat}{i:Nat}{CB CC:Addr}{tb:XK->TS}{th ti:TS}{body suite suite':List Stmt}{b₀ b₁:Stmt}{n cx cy:Str}{p p' hpos hpos' pos:Pos}
theorem zcw(B:zca X)(c:Mu X.K CB)(hg:Gl X cx)(hm:X.mg cx=some (.ref CB))(c':Mu X.K CC)(hg':Gl X cy)(hm':X.mg cy=some (.ref CC))
  (hb:∀ (E':Value->Shared->Prop) (lk:St) (pn:List (Addr×Obj)) (EX:XK),(∀ j∈as,∀ v,lk[j]?≠some (some v))->PassesOwn (model X.prog X.w) X.A X.env E'->X0 (CX1 X.prog X.w) (X.tried E' lk pn) EX->PSs (X.tried E' lk pn) body (tb EX))
  (hh:∀ a,PSs (X.hand a) (b₀ :: suite) th) (hi:∀ a,PSs (X.hand a) (b₁ :: suite') ti) (hd:(cx == ("__debug__":Str))=false:=by decide) (hd':(cy == ("__debug__":Str))=false:=by decide) :
  PS X (.Try body [.ExceptHandler (some (.Name cx p)) none (b₀ :: suite) hpos,.ExceptHandler (some (.Name cy p')) none (b₁ :: suite') hpos'] [] [] pos) (zgl X.K as CB CC tb th ti):=by
 intro pins s σ H D I h;refine wpAny_Try_except ?_;have lkl:(fgt as σ).length=X.N.length:=by rw[Qm];exact I.len
 have I':=I.tried (lk:=fgt as σ) (fun ev s₁=>wpAny (model X.prog X.w) X.A (noteFrame ev X.env) (fun _ s₂=>wpAny (model X.prog X.w) X.A (setFlight ev none)
  (fun _ s₃=>wpAny (model X.prog X.w) X.A (handleBy ev X.env [.ExceptHandler (some (.Name cx p)) none (b₀ :: suite) hpos,.ExceptHandler (some (.Name cy p')) none (b₁ :: suite') hpos']) (SP X pins D) X.xe s₃) X.xe s₂) X.xe s₁) fun i v z=>(Ph as z).1
 refine wpAny_mono (hb _ _ _ (zgk X.K as CB CC th ti D σ) (fun j hj v z=>(Ph as z).2 hj) PassesOwn.looking (fun pins' σ' H1 s1 ev s2 J hcx=>?_) [] s σ H D I' h) (fun f s1 h1=>?_) fun _ _ z=>z
 ·refine zf1 B lkl J hcx fun a T cls H2 s3 _ hE J3 F ha hT=>?_;obtain⟨C,rfl,hE⟩:=hE;obtain⟨oe,vs,oT,ts,e1,e2,e3,_⟩:=F.ex;have F0:Fly (Att.noObjs s3.heap) H2 s3.heap a T (.ref C):=⟨F.ex,Att.noObjs_get _ _,Att.noObjs_get _ _,F.freeE,F.freeT⟩;rcases hE with ⟨hmro,hth⟩|⟨hmro,hmro2,hti⟩
  ·refine wpAny_handleBy_cons (codeAny_handlers_test (V0 (X:=X.hand a) (J3.hand a) hg hm (U2 J3.kIn c e1 e2 hmro ?_) hd)) (by intro q;cases q);refine codeAny_handlers_suite ?_;refine Mv J3 F0 (fun b _=>Att.noObjs_get _ _) ha hT fun s4 J4 _=>?_;refine wpAny_mono (hh a pins s4 _ _ _ (J4.hand a) hth) (fun f s6 h6=>?_) fun _ _ z=>z.elim;exact h6.unhand I.ok
  ·refine wpAny_handleBy_cons (codeAny_handlers_test (V0 (X:=X.hand a) (J3.hand a) hg hm (U2 J3.kIn c e1 e2 hmro ?_) hd)) (by intro q;cases q);refine wpAny_handleBy_cons (codeAny_handlers_test (V0 (X:=X.hand a) (J3.hand a) hg' hm' (U2 J3.kIn c' e1 e2 hmro2 ?_) hd')) (by intro q;cases q);refine codeAny_handlers_suite ?_;refine Mv J3 F0 (fun b _=>Att.noObjs_get _ _) ha hT fun s4 J4 _=>?_;refine wpAny_mono (hi a pins s4 _ _ _ (J4.hand a) hti) (fun f s6 h6=>?_) fun _ _ z=>z.elim;exact h6.unhand I.ok
 ·have h2:=SP.untried B.lk h1;cases f with
  | next=>exact wpAny_execs_nil h2
  | brk=>exact h2
  | cont=>exact h2
  | ret u=>exact h2
end
end L2
namespace L2
open PySem PySem.Spec PyProof.Rows G
open AutoSeq1 (wpAny_loadPart')
open MeetsSeq SeqAt
theorem Kq(l:Addr)(items:Array Value)(n:Nat)(x:Value)(e:Value->Bool)(j:Nat)(hj:j<items.size)(hit:e items[j]=true)(k:Nat)(hs1:items.size<=sizeLine) :
  ∀ i:Nat,j-i=k->i<=j->(∀ m (hm:m<items.size),i<=m->m<j->e items[m]=false)->PySem.Meets (Builtin.«list.remove.loop» ⟨[.ref l,x,rawInt i],[]⟩)
    (fun A R s=>s.heap.get? l=some { cls:=.type "list",dict:=none,data:=.seq items n,slots:=#[] }/\(∀ y,y∈items->EqAt A.in1 s y x (e y))/\R (.ok (.ret .none)) { s with heap:=s.heap.update l (Obj.mapSeq fun xs=>xs.eraseIdxIfInBounds j) }):=by
 induction k with
 | zero =>
   intro i hk hij hno prog w A R s h;obtain⟨hp,g,d,tk,os⟩:=s;obtain⟨hl,he,h⟩:=h;have hij':i=j:=by omega
   subst hij'
   wp_walk using wpAny_loadPart' hl
   have hi:items[((i:Nat):Int).toNat]?=some items[i]:=by simp[hj]
   rw[hi];refine wpAny_bind (he _ (Array.getElem_mem hj) prog w _ _ ?_);rw[hit];have hz':(items.eraseIdxIfInBounds i).size<=sizeLine+1:=zqr (size_erased items _) (zq8 hs1)
   wp_walk using (wpAny_updateSeq hl rfl (hz:=hs1) (_hz':=hz')),wpAny_loadPart' hl
   simpa using h
 | succ k ih =>
   intro i hk hij hno prog w A R s h;obtain⟨hp,g,d,tk,os⟩:=s;obtain⟨hl,he,h⟩:=h;have hlt:i<items.size:=by omega
   wp_walk using wpAny_loadPart' hl
   have hi:items[((i:Nat):Int).toNat]?=some items[i]:=by simp[hlt]
   have hc:((i:Int)+1)=((i+1:Nat):Int):=by push_cast;rfl
   rw[hi];refine wpAny_bind (he _ (Array.getElem_mem hlt) prog w _ _ ?_);rw[hno i hlt (zqa _) ⋯]
   wp_walk
   rw[hc];exact⟨plainId_quiet plain_remove_loop _,codeAny_builtin entry_remove_loop (by
    rw[Around.under_plainId plain_remove_loop _];exact ih (i+1) ⋯ ⋯ (fun m hm h1 h2=>hno m hm ⋯ h2) prog w A R _ ⟨hl,he,h⟩)⟩
theorem Kr(l:Addr)(items:Array Value)(n:Nat)(x:Value)(e:Value->Bool)(j:Nat)(hj:j<items.size)
  (hit:e items[j]=true) (hno:∀ m (hm:m<items.size),m<j->e items[m]=false) (hs1:items.size<=sizeLine) :
  PySem.Meets (Builtin.«list.remove» ⟨[.ref l,x],[]⟩)
   (fun A R s=>s.heap.get? l=some { cls:=.type "list",dict:=none,data:=.seq items n,slots:=#[] }/\(∀ y,y∈items->EqAt A.in1 s y x (e y))/\R (.ok (.ret .none)) { s with heap:=s.heap.update l (Obj.mapSeq fun xs=>xs.eraseIdxIfInBounds j) }):=by
 intro prog w A R s h;obtain⟨hp,g,d,tk,os⟩:=s;obtain⟨hl,he,h⟩:=h
 wp_walk using wpAny_loadPart' hl
 exact⟨plainId_quiet plain_remove_loop _,codeAny_builtin entry_remove_loop (by
  rw[Around.under_plainId plain_remove_loop _];exact Kq l items n x e j hj hit _ hs1 0 rfl (zqo _) (fun m hm _ h2=>hno m hm h2) prog w A R _ ⟨hl,he,h⟩)⟩
inductive zgm(K:Frag)(x:V)(vs:List V)(H:Hp)(Q:VK):Prop where
 | mk(l t:Addr)(ts:List V)(a b:Int)(ps:List (Int×Int))(j:Nat)(_:x=.ref l)(_:vs=[.ref t])(_:H l=some (.lst ts))(_:SqT K H t [.int a,.int b])(_:Z0 H ts (ps.map oiV))(_:ps[j]?=some (a,b))(_:(∀ m,m<j->ps[m]?≠some (a,b)))(_:Q .non (upd H l (.lst (ts.eraseIdx j))))
theorem zbm(p q:Int×Int):PyData.eqv (toPy (Xj p)) (toPy (Xj q))=decide (p=q):=by
 have:=Om (a:=q.1) (b:=q.2) [p];rw[zqc,Yl,zrk] at this;simp only[List.map_nil,Yl,List.any_nil,Bool.or_false] at this;rw[this];exact decide_eq_decide.mpr ⟨fun h=>(zp9.mp h).symm,fun h=>zp9.mpr h.symm⟩
theorem Ia:∀ (ps:List (Int×Int)) (m:Nat),(Yl (ps.map Xj))[m]?=ps[m]?.map fun p=>toPy (Xj p)
 | [],m=>by simp[Yl]
 | p :: ps,0=>by simp[Yl]
 | p :: ps,m+1=>by rw[zqc,Yl,List.getElem?_cons_succ,List.getElem?_cons_succ];exact Ia ps m
theorem E8{X:Cx}{K:Frag}(hK:X.K=K)(hu:X.A.units+64<cLine):MtM X "list.remove" (zgm K):=by
 subst hK;intro pins s σ H x vs v us Q I rx rv h;obtain⟨l,t,ts,a,b,ps,j,rfl,rfl,hH,ht,tl,hj,hno,q⟩:=h;have rx0:=rx;cases rx;obtain⟨u,rfl,ru⟩:=rv.one;obtain⟨as,r1⟩:=Is.reads I (Is.tup ht (.cons (.int a) (.cons (.int b) .nil)):Is X.K H (.ref t) (Xj (a,b))) ru;have r1:Reads s.heap u (toPy (Xj (a,b))) as:=r1;obtain⟨bs,r2⟩:=Is.reads I (Is.lst (SqL.of hH) (Li tl)) rx0;rw[toPy] at r2;obtain⟨z,its,n,r,hl,e⟩:=I.lstM hH;have hall:∃ bs',ReadsAll s.heap its (Yl (ps.map Xj)) bs':=by
  cases r2 with
  | list h1 h2 h3 h4 =>
    rw[e] at h1;cases h1;cases h3;exact⟨_,by simpa using h4⟩
 obtain⟨bs',hall⟩:=hall;have hmap:=readsAll_map _ _ _ (Rw ps) hall;have hlen:its.length=ps.length:=by rw[<- hl,tl.length,zp3]
 have ev:∀ (m:Nat) (hm:m<its.toArray.size) (p:Int×Int),ps[m]?=some p->PyData.eqv (readOf s.heap (its.toArray[m]'hm)) (toPy (Xj (a,b)))=decide (p=(a,b)):=fun m hm p hp=>by
  have h1:(its.map (readOf s.heap))[m]?=some (readOf s.heap (its.toArray[m]'hm)):=by
   rw[zqb,show its[m]?=some (its.toArray[m]'hm) by simp];rfl
  rw[hmap,Ia,hp] at h1;rw[<- Option.some.inj h1];exact zbm p (a,b)
 have hjl:j<its.toArray.size:=by
  have:=(zp4.mp hj).1;rw[zqe];omega
 have hd:(toPy (Xj (a,b))).depth=1:=rfl;have hroom:∀ A:Around,A.units=X.A.units->A.units+1+min (PyData.depthAll (Yl (ps.map Xj))) (toPy (Xj (a,b))).depth<cLine:=fun A hA=>by
  have:=Nat.min_le_right (PyData.depthAll (Yl (ps.map Xj))) (toPy (Xj (a,b))).depth;rw[hd] at this ⊢;omega
 refine call_meets PySem.F.slot_list_remove ⟨_,e,rfl⟩ PySem.F.entry_list_remove (PySem.F.args_list_remove_2 _ _) (Kr l its.toArray n u (fun y=>PyData.eqv (readOf s.heap y) (toPy (Xj (a,b)))) j hjl (by rw[ev j hjl _ hj];exact zp8 rfl) (fun m hm hmj=>?_) (by rw[zqe];omega)) ⟨e,fun y hy=>?_,?_⟩
 ·have hmp:m<ps.length:=by rw[zqe] at hm;omega
  rw[ev m hm _ (zp5 hmp)];exact zqd fun z=>hno m hmj (by rw[zp5 hmp,z])
 ·exact items_eqAt (by simpa using hall) r1 (Rw ps) rfl (hroom _ rfl) y hy
 ·refine⟨.non,_,I.lset (its':=its.eraseIdx j) hH e ?_ (r.eraseIdx j) ?_,rfl,q⟩
  ·show its.toArray.eraseIdxIfInBounds j=(its.eraseIdx j).toArray;rw[List.eraseIdxIfInBounds_toArray]
  ·have:=Je ts j;omega
end L2
namespace L2
open PySem PySem.Spec PyProof.Rows G
theorem B0:Wv X (.type "range") (fun xs H Q=>∃ j:Int,xs=[.int j]/\∀ r,H r=none->Q (.ref r) (upd H r (.rng 0 j))):=by
 intro pins s σ H xs us Q I r h;obtain⟨j,rfl,q⟩:=h;obtain⟨u,rfl,rx⟩:=Sm r;obtain⟨t,rfl⟩:=rx;refine call_range_1 ?_;exact⟨.ref s.heap.objs.size,_,I.laid (t':=s.toks+1+1) (fun b o e=>Heap.get?_push_of_some _ e) (zqa _) (show Yh X.prog X.w _ _ _ (.rng 0 j) from⟨_,_,_,Heap.get?_push_size _ rfl⟩),rfl,q _ (I.hok.fresh (zqa _))⟩
def rngV(lo:Int)(n:Nat):List V:=(List.range n).map fun i=>V.int (lo+(i:Nat))
theorem F5:∀ {n k:Nat} {us:List Value},us.length=n->(∀ (j:Nat) v,us[j]?=some v->RelV (f (k+j)) v)->Vals ((List.range' k n).map f) us
 | 0,k,[],_,_=>.nil
 | n+1,k,u :: us,hl,h=>by
   rw[List.range'_succ,zqc];refine .cons (h 0 u rfl) (F5 (by simpa using hl) fun j v e=>?_);have:=h (j+1) v e;rw[show k+(j+1)=k+1+j by omega] at this;exact this
theorem Ks(hc:X.calm=true):Wv X (.type "list") (fun xs H Q=>∃ (p:Addr) (lo hi:Int),xs=[.ref p]/\H p=some (.rng lo hi)/\(-(2 ^ 62)<=lo/\lo<2 ^ 62/\-(2 ^ 62)<=hi/\hi<2 ^ 62)/\(hi-lo).toNat<=2 ^ 24/\(hi-lo).toNat<=sizeLine/\∀ l,H l=none->Q (.ref l) (upd H l (.lst (rngV lo (hi-lo).toNat)))):=by
 intro pins s σ H xs us Q I r h;obtain⟨p,lo,hi,rfl,hp,⟨h1,h2,h3,h4⟩,h5,h6,q⟩:=h;obtain⟨u,rfl,rx⟩:=Sm r;cases rx;obtain⟨t,u,v,e⟩:=I.hok p _ hp;have e2:Builtin.Range.rangeSize lo hi 1=(((hi-lo).toNat:Nat):Int):=by rw[rangeSize_one];split<;>omega
 refine call_list_range (I.ok.hd hc) (show IsRange s.heap p lo hi 1 t u v from e) (small_one h1 h2 h3 h4) e2 h5 fun h' tk acc' c' hk hS' hacc=>?_;have hv:Vals (rngV lo (hi-lo).toNat) acc'.toList:=by
  unfold rngV;rw[List.range_eq_range'];refine F5 (by rw[Array.length_toList];exact hacc.1) fun j v hj=>?_;obtain⟨tk,rfl⟩:=hacc.2 j v (by simpa using hj);rw[Nat.zero_add,Int.mul_one];exact⟨tk,rfl⟩
 have hz:(rngV lo (hi-lo).toNat).length<=sizeLine:=by unfold rngV;rw[zp3,zq4];exact h6
 exact⟨.ref s.heap.objs.size,_,I.laid (t':=tk) hk (zqa _) (show Yh X.prog X.w _ h' _ (.lst (rngV lo (hi-lo).toNat)) from⟨hz,acc'.toList,c',hv,by simpa using hS'⟩),rfl,q _ (I.hok.fresh (zqa _))⟩
end L2
namespace G
open PySem PySem.Spec PyProof.Rows L2
def DrX(S0 S:Sea):Prop:=∀ d y,S.std=S0.std++[(d,y)]->(d.1=("draw up":Str)/\S0.cur=none)\/(d.1≠("draw up":Str)/\S0.cur.isSome=S.cur.isSome)
inductive W4(E:Sea->Prop)(nu:List Int)(n:Nat):Sea->Prop where
 | nil {S:Sea} (e:S.std=[]) (o:SOk nu n S) (x:E S):W4 E nu n S
 | snoc {S0 S:Sea} (h:W4 E nu n S0) (st:S8 S0 S) (dr:DrX S0 S) (o:SOk nu n S) (x:E S):W4 E nu n S
section
variable{E:Sea->Prop}{nu:List Int}{n m:Nat}{S S':Sea}{D:Xy}{v:V}{H':Hp}
theorem W4.ok(h:W4 E nu n S):SOk nu n S:=by
 cases h with
 | nil e o=>exact o
 | snoc h st dr o=>exact o
theorem W4.is(h:W4 E nu n S):E S:=by
 cases h with
 | nil e o x=>exact x
 | snoc h st dr o x=>exact x
theorem W4.mono(h:W4 E nu n S)(e:n<=m):W4 E nu m S:=by
 induction h with
 | nil z o x=>exact .nil z (o.mono e) x
 | snoc h st dr o x ih=>exact .snoc ih st dr (o.mono e) x
theorem W4.back(h:W4 E nu n S)(hne:S.std≠[]):∃ S0,S8 S0 S/\DrX S0 S/\W4 E nu n S0:=by
 cases h with
 | nil e o=>exact absurd e hne
 | snoc h st dr o=>exact⟨_,st,dr,h⟩
theorem W4.words(h:W4 E nu n S):∀ x∈S.std,PyData.strOk x.1.1=true:=by
 induction h with
 | nil e o x=>rw[e];exact nofun
 | snoc h st dr o x ih =>
   obtain⟨d,a1,a2,_⟩:=st;rw[a1];intro y hy;rcases zqi.mp hy with z|z
   ·exact ih y z
   ·rw[zp9.mp z];show PyData.strOk d.1=true;rcases a2 with ⟨e,_⟩|⟨e,_⟩|⟨e,_⟩<;>rw[e]<;>decide +kernel
theorem Pt(h:l++[(a,b)]=l++[(c,d)]):a=c:=by
 have:=List.append_cancel_left h;cases this;rfl
theorem B1(g:Lh S D)(af:Xz H' S D S' v)(hb:D≠.back)(hc:D≠.close):DrX S S':=by
 have w1:("enrol":Str)≠"draw up":=by decide +kernel
 have w2:("away":Str)≠"draw up":=by decide +kernel
 cases af with
 | enrol k gr c=>exact fun d y e=>.inr ⟨by rw[<- Pt e];exact w1,rfl⟩
 | awayN h hl=>exact fun d y e=>.inr ⟨by rw[<- Pt e];exact w2,rfl⟩
 | awayF h hp hl=>exact fun d y e=>.inr ⟨by rw[<- Pt e];exact w2,by rw[h];rfl⟩
 | awayC h hp hl tl CR=>exact fun d y e=>.inr ⟨by rw[<- Pt e];exact w2,by rw[h];rfl⟩
 | draw hl F T=>exact fun d y e=>.inl ⟨by rw[<- Pt e],g.2.1⟩
 | close h=>exact absurd rfl hc
 | back h ht hs=>exact absurd rfl hb
theorem W4.after(h:W4 E nu n S)(g:Lh S D)(af:Xz H' S D S' v)(hn:∀ k gr c,D=.enrol k gr c->k∈nu)(hx:D≠.back->E S'):W4 E nu (n+1) S':=by
 by_cases hb:D=.back
 ·subst hb;cases af with
  | @back S0 dd t hs _ hst =>
    obtain⟨S1,h1,_,h2⟩:=h.back g;have e:=Jw hst h1;subst e;exact h2.mono (zrn n)
 ·obtain⟨o',ho⟩:=zbb h.ok g af hb hn;rcases ho with ⟨_,e1,_⟩|⟨hc,st⟩
  ·exact .nil e1 o' (hx hb)
  ·exact .snoc (h.mono (zrn n)) st (B1 g af hb hc) o' (hx hb)
end
def E23(S:Sea):Prop:=∀ s,S.cur=some s->s.ms=[]
theorem E23.after(h:E23 S)(af:Xz H' S D S' v)(hdr:∀ ms,D=.draw ms->ms=[])(hb:D≠.back):E23 S':=by
 cases af with
 | enrol k gr c=>exact h
 | awayN hh hl=>exact h
 | @awayF n s l hh hp hl=>intro s' hs;cases hs;exact(h s hh :)
 | @awayC n s p e l us st w hh hp hl tl CR=>intro s' hs;cases hs;exact(h s hh :)
 | draw hl F T=>intro s hs;cases hs;exact hdr _ rfl
 | close hh=>intro s hs;cases hs
 | back hh ht hs=>exact absurd rfl hb
theorem E23.told(h:E23 S)(co:Cj S)(af:Xz H' S (.away i n) S' v):∃ l,v=.ref l/\H' l=some (.lst []):=by
 cases af with
 | awayN hh hl=>exact⟨_,rfl,hl⟩
 | awayF hh hp hl=>exact⟨_,rfl,hl⟩
 | awayC hh hp hl tl CR =>
   obtain⟨_,c2,_,c4,_⟩:=co _ hh;have e:=c2.len;rw[c4] at e;unfold mayS at e;rw[zp3,h _ hh] at e;rw[List.length_eq_zero_iff.mp e] at hp;cases hp
def Xb(r o:Int)(dr:Bool)(lp lo ll:Addr):List (Key×V):=[(.inr "rounds",.int r),(.inr "over",.int o),(.inr "drawn",.bl dr),(.inr "people",.ref lp),(.inr "out",.ref lo),(.inr "log",.ref ll)]
structure Oo(H:Hp)(d lp lo ll:Addr)(S:Sea):Prop where
 dd:H d=some (.dK (Xb S.len S.led.length S.cur.isSome lp lo ll))
 pp:H lp=some (.lst ((S.ppl.map (·.1)).map V.int))
 oo:∃ ots,H lo=some (.lst ots)/\Z0 H ots (S.out.map oiV)
 gg:∃ lts,H ll=some (.lst lts)/\Z0 H lts (S.std.map fun x=>Y9 x.1)
 n1:lp≠lo
 n2:lp≠ll
 n3:lo≠ll
theorem Oo.mono{H H':Hp}{d lp lo ll:Addr}{S:Sea}(X:Oo H d lp lo ll S)(k:∀ x,x=d\/x=lp\/x=lo\/x=ll->∀ o,H x=some o->H' x=some o)(kt:∀ t xs,H t=some (.tup xs)->H' t=some (.tup xs)):Oo H' d lp lo ll S:=by
 obtain⟨a,b,⟨pts,p1,p2⟩,⟨lts,g1,g2⟩,n1,n2,n3⟩:=X;exact⟨k _ (.inl rfl) _ a,k _ (.inr (.inl rfl)) _ b,⟨pts,k _ (.inr (.inr (.inl rfl))) _ p1,p2.mono kt⟩,⟨lts,k _ (.inr (.inr (.inr rfl))) _ g1,g2.mono kt⟩,n1,n2,n3⟩
theorem Oo.same{H H':Hp}{d lp lo ll:Addr}{S:Sea}(X:Oo H d lp lo ll S)(e:Same H H'):Oo H' d lp lo ll S:=X.mono (fun _ _ _ z=>e _ _ z) (fun _ _ z=>e _ _ z)
inductive Co(K:Frag)(vs:List V)(H:Hp)(Q:VK)(_:XK):Prop where
 | mk(d lp lo ll t:Addr)(S:Sea)(D:Xy)(_:vs=[.ref d,.ref t])(_:Oo H d lp lo ll S)(_:Y4 (fun _=>True) H t D)(_:(∀ ms,D=.draw ms->ms=[]))(_:(∀ n g c,D=.enrol n g c->¬ badI n g c/\n∉S.ppl.map (·.1)/\S.ppl.length<30))(_:S.ppl.length<=100)(_:S.led.length<=S.len)(_:S.std.length<100)(_:(∀ x∈S.std,PyData.strOk x.1.1=true))(_:∀ H',Same H H'->Q (.str (dueW S D)) H')
def zcx(d lp lo ll:Addr)(S':Sea)(H:Hp)(Q:VK):Prop:=∀ (ll':Addr) (H':Hp),Oo H' d lp lo ll' S'->(∀ x o,H x=some o->x≠d->x≠lp->x≠lo->x≠ll->H' x=some o)->(ll'=ll\/H ll'=none)->Q .non H'
inductive Ib(K:Frag)(vs:List V)(H:Hp)(Q:VK)(_:XK):Prop where
 | mk(d lp lo ll t:Addr)(S S':Sea)(D:Xy)(v:V)(H0:Hp)(_:vs=[.ref d,.ref t])(_:Oo H d lp lo ll S)(_:Y4 (fun _=>True) H t D)(_:Lh S D)(_:Xz H0 S D S' v)(_:(∀ ms,D=.draw ms->ms=[]))(_:(D=.back->DrX S' S))(_:S.ppl.length<=100)(_:S.std.length<=100)(_:S.out.length<=900)(_:zcx d lp lo ll S' H Q)
inductive Cp(K:Frag)(ca:CA)(vs:List V)(H:Hp)(Q:VK)(_:XK):Prop where
 | mk(A:SAd)(S:Sea)(d lp lo ll:Addr)(i n:Int)(_:vs=[.ref A.p,.ref d,.int i,.int n])(_:Zu ca H A S)(_:Oo H d lp lo ll S)(_:Z6 i)(_:Z6 n)(_:∀ H',Same H H'->Q (.bl true) H')
def B23(d lp lo ll:Addr)(X:Addr->Prop):Addr->Prop:=fun x=>x=d\/x=lp\/x=lo\/x=ll\/X x
structure In23(ca:CA)(E:Sea->Prop)(nu:List Int)(d lp lo ll:Addr)(X:Addr->Prop)(A:SAd)(S:Sea)(n:Nat)(H:Hp):Prop where
 sea:Zu ca (hide (B23 d lp lo ll X) H) A S
 st:Oo H d lp lo ll S
 hi:W4 E nu n S
 xs:∀ x,X x->∃ ys,H x=some (.lst ys)
 nx:∀ x,X x->x≠lp/\x≠lo/\x≠ll
section
variable{ca:CA}{E:Sea->Prop}{nu:List Int}{d lp lo ll ll':Addr}{X:Addr->Prop}{A A':SAd}{S S':Sea}{n:Nat}{H H' H1 H2 H3 H4:Hp}{D:Xy}{v:V}
theorem In23.same(h:In23 ca E nu d lp lo ll X A S n H)(e:Same H H'):In23 ca E nu d lp lo ll X A S n H' :=
 ⟨h.sea.same (Xv e),h.st.same e,h.hi,fun x z=>(h.xs x z).imp fun _ y=>e _ _ y,h.nx⟩
theorem In23.mono(h:In23 ca E nu d lp lo ll X A S n H)(e:n<=m):In23 ca E nu d lp lo ll X A S m H:=⟨h.sea,h.st,h.hi.mono e,h.xs,h.nx⟩
theorem In23.dne(h:In23 ca E nu d lp lo ll X A S n H):d≠lp/\d≠lo/\d≠ll/\∀ x,X x->d≠x:=by
 obtain⟨_,p1,_⟩:=h.st.oo;obtain⟨_,g1,_⟩:=h.st.gg;exact⟨Z9 h.st.dd h.st.pp (by intro z;cases z),Z9 h.st.dd p1 (by intro z;cases z),Z9 h.st.dd g1 (by intro z;cases z),fun x z=>by obtain⟨_,y⟩:=h.xs x z;exact Z9 h.st.dd y (by intro z;cases z)⟩
theorem In23.off(h:In23 ca E nu d lp lo ll X A S n H)(k:∀ x o,¬ X x->H x=some o->H' x=some o)(hx:∀ x,X x->∃ ys,H' x=some (.lst ys)):In23 ca E nu d lp lo ll X A S n H':=by
 refine⟨h.sea.same (Sb (fun x o e nb=>k x o (fun z=>nb (.inr (.inr (.inr (.inr z))))) e) fun _ z=>.inl z),h.st.mono (fun x hx' o e=>k x o (fun z=>?_) e) (fun t xs e=>k t _ (fun z=>?_) e),h.hi,hx,h.nx⟩
 ·obtain⟨n1,n2,n3⟩:=h.nx x z;rcases hx' with e|e|e|e
  ·exact h.dne.2.2.2 x z e.symm
  ·exact n1 e
  ·exact n2 e
  ·exact n3 e
 ·obtain⟨_,y⟩:=h.xs t z;rw[e] at y;cases y
theorem In23.there(h:In23 ca E nu d lp lo ll X A S n H)(z:B23 d lp lo ll X b):(∃ xs,H b=some (.lst xs))\/∃ kvs,H b=some (.dK kvs):=by
 rcases z with rfl|rfl|rfl|rfl|z
 ·exact .inr ⟨_,h.st.dd⟩
 ·exact .inl ⟨_,h.st.pp⟩
 ·exact .inl (h.st.oo.imp fun _ z=>z.1)
 ·exact .inl (h.st.gg.imp fun _ z=>z.1)
 ·exact .inl (h.xs b z)
theorem In23.hok(h:In23 ca E nu d lp lo ll X A S n H):Ra (B23 d lp lo ll X) H:=Hw fun _ z=>h.there z
theorem In23.out(h:In23 ca E nu d lp lo ll X A S n H)(z:H b=none):¬ B23 d lp lo ll X b:=fun y=>h.hok.th b y z
theorem In23.stay(h:In23 ca E nu d lp lo ll X A S n H1)(kt:∀ t xs,hide (B23 d lp lo ll X) H1 t=some (.tup xs)->H2 t=some (.tup xs)):Oo (W3 (B23 d lp lo ll X) H1 H2) d lp lo ll S :=
 h.st.mono (fun x hx o e=>by
  rw[X6 (by rcases hx with z|z|z|z<;>simp[B23,z])];exact e) fun t xs e=>by
  have nb:¬ B23 d lp lo ll X t:=fun z=>h.hok.tup t xs z e;rw[Yz nb];exact kt _ _ (by rw[Ya nb];exact e)
theorem In23.moved(h:In23 ca E nu d lp lo ll X A S n H1)(SA:Zu ca (hide (B23 d lp lo ll X) H3) A' S')(f:FrN A A' (hide (B23 d lp lo ll X) H1) (hide (B23 d lp lo ll X) H3))(kb:∀ x o,B23 d lp lo ll X x->H1 x=some o->H3 x=some o)(af:Xz H' S D S' v)(g:Lh S D)(hn:∀ k gr c,D=.enrol k gr c->k∈nu)(hE:D≠.back->E S')
  (Y:Oo H4 d lp lo ll' S') (k:∀ x o,H3 x=some o->x≠d->x≠lp->x≠lo->x≠ll->H4 x=some o) (hl:ll'=ll\/H3 ll'=none) :
  In23 ca E nu d lp lo ll' X A' S' (n+1) H4/\FrN A A' (hide (B23 d lp lo ll X) H1) (hide (B23 d lp lo ll' X) H4)/\∀ x o,X x->H1 x=some o->H4 x=some o:=by
 have hm:Same (hide (B23 d lp lo ll X) H3) (hide (B23 d lp lo ll' X) H4):=Sb (fun x o e nb=>k x o e (fun z=>nb (.inl z)) (fun z=>nb (.inr (.inl z))) (fun z=>nb (.inr (.inr (.inl z)))) (fun z=>nb (.inr (.inr (.inr (.inl z)))))) fun x hx=>by
  rcases hx with z|z|z|z|z
  ·exact .inl (.inl z)
  ·exact .inl (.inr (.inl z))
  ·exact .inl (.inr (.inr (.inl z)))
  ·rcases hl with y|y
   ·exact .inl (.inr (.inr (.inr (.inl (z.trans y)))))
   ·exact .inr (by rw[z];exact y)
  ·exact .inl (.inr (.inr (.inr (.inr z))))
 have hX:∀ x o,X x->H1 x=some o->H4 x=some o:=fun x o z e=>by
  obtain⟨n1,n2,n3⟩:=h.nx x z;exact k _ _ (kb _ _ (.inr (.inr (.inr (.inr z)))) e) (h.dne.2.2.2 x z).symm n1 n2 n3
 refine⟨⟨SA.same hm,Y,h.hi.after g af hn hE,fun x z=>(h.xs x z).imp fun ys y=>hX _ _ z y,fun x z=>?_⟩,f.trans (.of hm),hX⟩;obtain⟨n1,n2,n3⟩:=h.nx x z;refine⟨n1,n2,?_⟩;rcases hl with y|y
 ·rw[y];exact n3
 ·obtain⟨ys,w⟩:=h.xs x z;exact Zg (kb _ _ (.inr (.inr (.inr (.inr z)))) w) y
end
theorem Xz.aw(af:Xz H' S (.away i n) S' v):S'.len=S.len/\S'.led=S.led/\S'.ppl=S.ppl/\S'.out=S.out++[(i,n)]/\S'.std=S.std++[((("away":Str),n,i),S.cur)]/\S'.cur.isSome=S.cur.isSome:=by
 cases af with
 | awayN hh hl=>exact⟨rfl,rfl,rfl,rfl,rfl,rfl⟩
 | awayF hh hp hl=>exact⟨rfl,rfl,rfl,rfl,rfl,by rw[hh];rfl⟩
 | awayC hh hp hl tl CR=>exact⟨rfl,rfl,rfl,rfl,rfl,by rw[hh];rfl⟩
theorem zcy(l:List α)(x:α):(l++[x])[l.length]?=some x:=by simp
theorem E9(l:List α)(x:α):(l++[x]).eraseIdx l.length=l:=by
 induction l with
 | nil=>rfl
 | cons y l ih=>show y :: (l++[x]).eraseIdx l.length=_;rw[ih]
theorem zcz(h:x∉l)(m:Nat)(hm:m<l.length):(l++[x])[m]?≠some x:=by
 rw[zqw hm];exact fun z=>h (zqf z)
theorem Xz.ppl(af:Xz H' S D S' v):∀ x∈S'.ppl,x∈S.ppl\/∃ k g c,D=.enrol k g c/\x=(k,g,c):=by
 cases af with
 | enrol k g c =>
   intro x hx;rcases zqi.mp hx with z|z
   ·exact .inl z
   ·exact .inr ⟨k,g,c,rfl,zp9.mp z⟩
 | awayN hh hl=>exact fun x hx=>.inl hx
 | awayF hh hp hl=>exact fun x hx=>.inl hx
 | awayC hh hp hl tl CR=>exact fun x hx=>.inl hx
 | draw hl F T=>exact fun x hx=>.inl hx
 | close hh=>exact fun x hx=>.inl hx
 | back hh ht hs =>
   obtain⟨d,_,a2,_⟩:=hs;intro x hx;rcases a2 with ⟨_,⟨g,c,e⟩,_⟩|⟨_,e,_⟩|⟨_,e,_⟩
   ·rw[e];exact .inl (zqv _ hx)
   ·rw[<- e];exact .inl hx
   ·rw[<- e];exact .inl hx
structure D23(nu:List Int)(j:Nat)(D:Xy):Prop where
 dr:∀ ms,D=.draw ms->ms=[]
 sm:Hs D
 en:∀ k g c,D=.enrol k g c->nu[j]?=some k/\1<=g/\g<=9/\1<=c/\c<=99
theorem D23.away(hi:Z6 i)(hn:Z6 n):D23 nu j (.away i n):=⟨nofun,⟨hi,hn⟩,nofun⟩
theorem D23.plain(h:D=.draw []\/D=.close\/D=.back):D23 nu j D:=by
 rcases h with rfl|rfl|rfl
 ·exact⟨fun _ e=>(by cases e;rfl),⟨nofun,zqo _⟩,nofun⟩
 ·exact⟨nofun,trivial,nofun⟩
 ·exact⟨nofun,trivial,nofun⟩
def Hy(nu:List Int)(j:Nat)(S:Sea):Prop:=∀ x∈S.ppl,∃ i,i<j/\nu[i]?=some x.1
theorem Hy.mono(h:Hy nu j S)(e:j<=k):Hy nu k S:=fun x hx=>by
 obtain⟨i,hi,e'⟩:=h x hx;exact⟨i,by omega,e'⟩
theorem Hy.after(h:Hy nu j S)(hd:D23 nu j D)(af:Xz H' S D S' v):Hy nu (j+1) S':=fun x hx=>by
 rcases af.ppl x hx with z|⟨k,g,c,e,rfl⟩
 ·exact h.mono (zrn j) x z
 ·exact⟨j,Nat.lt_succ_self j,(hd.en k g c e).1⟩
theorem zbn{nu:List Int}(nd:nu.Nodup){i j:Nat}{k:Int}(hi:nu[i]?=some k)(hj:nu[j]?=some k):i=j:=by
 obtain⟨h1,e1⟩:=zp4.mp hi;obtain⟨h2,e2⟩:=zp4.mp hj;exact za9 nd h1 h2 (by rw[zqm,zqm,hi,hj])
theorem D23.new{nu:List Int}{j m:Nat}{S:Sea}{D:Xy}(hd:D23 nu j D)(h:Hy nu j S)(o:SOk nu m S)(nd:nu.Nodup)(hr:∀ n∈nu,1<=n/\n<=999)(hl:nu.length<=20):∀ n g c,D=.enrol n g c->¬ badI n g c/\n∉S.ppl.map (·.1)/\S.ppl.length<30:=fun n g c e=>by
 obtain⟨e1,e2,e3,e4,e5⟩:=hd.en n g c e;have:=hr n (zqf e1);refine⟨by unfold badI;omega,fun hm=>?_,?_⟩
 ·obtain⟨x,hx,rfl⟩:=zqh.mp hm;obtain⟨i,hi,e'⟩:=h x hx;have:=zbn nd e' e1;omega
 ·have:=o.nd.length_le_of_subset (l₂:=nu) fun y hy=>by
   obtain⟨x,hx,rfl⟩:=zqh.mp hy;exact(o.ppl x hx).1
  rw[zp3] at this;omega
theorem zgn(h0:0<=j)(h8:j<7):∃ t',atI ((List.replicate (4:Int).toNat [V.ref t]).flatten++[V.ref t1,.ref t2,.ref t3]) j=some (.ref t')/\(t'=t\/t'=t1\/t'=t2\/t'=t3):=by
 obtain⟨k,rfl⟩:∃ k:Nat,j=(k:Int):=⟨j.toNat,by omega⟩
 match k,(show k<7 by omega) with
 | 0,_=>exact⟨_,rfl,.inl rfl⟩
 | 1,_=>exact⟨_,rfl,.inl rfl⟩
 | 2,_=>exact⟨_,rfl,.inl rfl⟩
 | 3,_=>exact⟨_,rfl,.inl rfl⟩
 | 4,_=>exact⟨_,rfl,.inr (.inl rfl)⟩
 | 5,_=>exact⟨_,rfl,.inr (.inr (.inl rfl))⟩
 | 6,_=>exact⟨_,rfl,.inr (.inr (.inr rfl))⟩
end G
namespace K23
open PySem PySem.Spec PyProof.Rows L2 G
def top(i:Nat):Stmt:=PySem.Challenge.pw_whistlebook_k23_away_in_rounds.main.body.getD i (.Pass ⟨0,0,0,0⟩)
structure Ad where
 zi8:Addr
 zh8:Addr
 zia:Addr
 zh6:Addr
 zhy:Addr
 zh7:Addr
 ziu:Addr
 zik:Addr
 zh5:Addr
 ziq:Addr
 zij:Addr
 zif:Addr
 ziz:Addr
 zit:Addr
 zh3:Addr
 zh9:Addr
 zhz:Addr
 zh0:Addr
 zh1:Addr
 zhw:Addr
abbrev ca(a:Ad):CA:=⟨a.zhw,a.zh1,a.zh0,a.zhz,a.zh8,a.zia,a.zh6,a.zhy,a.zh7,a.ziu,a.zik,a.zh5,a.ziq,a.zij,a.zif,a.ziz,a.zit,a.zh3,a.zh9⟩
structure Tx(K:Frag)(mg:Str->Option Value)(a:Ad):Prop where
 zi1:Cls K a.zhz
 zkd:Xc K a.zhz "rounds"
 zjd:Xc K a.zhz "meetings"
 zis:Cls K a.zh0
 zi2:Xc K a.zh0 "entries"
 zir:Cls K a.zh1
 zjy:Xc K a.zh1 "listed"
 zl8:Xc K a.zh1 "lists"
 zj9:Xc K a.zh1 "given"
 zlv:Xc K a.zh1 "gaps"
 zhx:Cls K a.zhw
 zkp:Xc K a.zhw "length"
 zmr:Xc K a.zhw "rest"
 zi5:Xc K a.zhw "roster"
 zje:Xc K a.zhw "ledger"
 zjp:Xc K a.zhw "absent"
 zkz:Xc K a.zhw "sheets"
 zix:Xc K a.zhw "sheet"
 zi0:Xc K a.zhw "standing"
 zny:Sx K mg "OutOfRange" a.zh8
 zmg:Sx K mg "TooManyMatches" a.zh7
 zn9:Sx K mg "SameClub" a.ziu
 znj:Sx K mg "KnownReferee" a.zia
 zmf:Sx K mg "TooManyReferees" a.zh6
 zmx:Sx K mg "UnknownReferee" a.zhy
 znw:Sx K mg "SeasonOver" a.zij
 zob:Sx K mg "DrawnUp" a.ziz
 znr:Sx K mg "NoSuchRound" a.zh5
 znh:Sx K mg "TooManyDeeds" a.zh9
 zni:Sx K mg "NotDrawn" a.zit
 zn4:Sx K mg "RoundOver" a.ziq
 znt:Sx K mg "AwayAlready" a.zif
 zl0:Sx K mg "NothingToTakeBack" a.zh3
 znv:mg "max"=none
 zjl:mg "len"=none
 zlx:mg "tuple"=none
 zjv:mg "list"=none
 zkb:mg "enumerate"=none
 zjq:mg "range"=none
 zn6:mg "zip"=none
 zh2:mg "isinstance"=none
 zme:mg "int"=none
 zms:mg "bool"=none
 zn7:mg "str"=none
 zjw:mg "ValueError"=none
 zn3:mg "min"=none
 zn1:mg "BookError"=some (.ref a.zi8)
 zns:mg "OutOfRange"=some (.ref a.zh8)
 zm8:mg "KnownReferee"=some (.ref a.zia)
 zl6:mg "TooManyReferees"=some (.ref a.zh6)
 zk4:mg "UnknownReferee"=some (.ref a.zhy)
 zmb:mg "TooManyMatches"=some (.ref a.zh7)
 zn5:mg "SameClub"=some (.ref a.ziu)
 zno:mg "NoSuchMatch"=some (.ref a.zik)
 zlt:mg "NoSuchRound"=some (.ref a.zh5)
 znz:mg "RoundOver"=some (.ref a.ziq)
 znu:mg "SeasonOver"=some (.ref a.zij)
 znp:mg "AwayAlready"=some (.ref a.zif)
 zoa:mg "DrawnUp"=some (.ref a.ziz)
 zn2:mg "NotDrawn"=some (.ref a.zit)
 zlw:mg "NothingToTakeBack"=some (.ref a.zh3)
 zm7:mg "TooManyDeeds"=some (.ref a.zh9)
 gc_Ledger:mg "Ledger"=some (.ref a.zhz)
 gc_Roster:mg "Roster"=some (.ref a.zh0)
 gc_Sheet:mg "Sheet"=some (.ref a.zh1)
 gc_Season:mg "Season"=some (.ref a.zhw)
 znx:Mu K a.zi8
 znd:Mu K a.zh5
 zmd:Mu K a.zhy
 ei:∀ r:Ref,r≠.noMatch->Im K (r.cls (ca a))
 mB:∀ r:Ref,r≠.noMatch->PySem.W.mroIn K (r.cls (ca a)) (.ref a.zi8)=some true
 kit:∀ r t:Ref,r≠.noMatch->PySem.W.kitOne K (.ref (r.cls (ca a))) (.ref (t.cls (ca a)))=some (decide (r=t))
 zoc:∀ r:Ref,r≠.noMatch->PySem.W.kitOne K (.ref (r.cls (ca a))) (.type "ValueError")=some true
 zie:PySem.W.mroIn K a.zhy (.ref a.zhy)=some true
 zio:PySem.W.mroIn K a.zh5 (.ref a.zh5)=some true
 zii:PySem.W.mroIn K a.zhy (.ref a.zh5)=some false
 zjo:∃ t,mg "MOST_NUMBER"=some (.int 999 t)
 zjf:∃ t,mg "MOST_GRADE"=some (.int 9 t)
 zjc:∃ t,mg "MOST_CLUB"=some (.int 99 t)
 zi3:∃ t,mg "MOST_REFEREES"=some (.int 30 t)
 zi6:∃ t,mg "MOST_MATCHES"=some (.int 20 t)
 zjn:∃ t,mg "MOST_ROUNDS"=some (.int 60 t)
 zkc:∃ t,mg "MOST_REST"=some (.int 10 t)
 zjg:∃ t,mg "MOST_DEEDS"=some (.int 100 t)
end K23
set_option maxHeartbeats 64000000
namespace K23
open PySem PySem.Spec PyProof.Rows L2 G
local macro_rules | `(tactic| walk_at "rd")=>`(tactic| repeat (first|(refine⟨_,rfl,?_⟩)|(refine⟨_,_,rfl,rfl,?_⟩)|(refine And.intro (show CMul _ _ from Or.inr (And.intro (by decide) (by decide))) ?_)|(refine And.intro (show CMul _ _ from Or.inl (And.intro (by decide) (by decide))) ?_)|(refine And.intro (show CDiv _ _ from(And.intro (by decide) (by decide))) ?_)|(refine And.intro (show CPow _ _ from(And.intro (by decide) (And.intro (by decide) (by decide)))) ?_)|(refine And.intro (show (0:Int)<_ from(by decide)) ?_)))
local macro_rules | `(tactic| walk_at "if")=>`(tactic| dsimp only[Ve,List.set])
local macro_rules | `(tactic| walk_at "ar")=>`(tactic| (intro _ _ _ _ h;first|(cases h;subst_vars;rfl)|repeat (first|(obtain⟨h1,_⟩:=h;subst h1;rfl)|(obtain⟨_,h⟩:=h))))
section
variable{P:Program}{w:World}{K:Frag}{mg:Str->Option Value}{base:Heap}{a:Ad}{f:Addr}{fd:FuncData}
abbrev Sd:Stmt:=top 2
theorem Qe:Zm ["number","club","ledger","rest","rested"] ["number","club","ledger","rest"] (Zj Sd):=fnS
theorem Kt(F:Fun K "met_lately" "met_lately" Sd f fd)(T:Tx K mg a)(zid:Zt P w K mg base a.zhz "over" 1 ["self"] (Oe a.zhz))(zll:Zt P w K mg base a.zhz "met" 1 ["self","number","club"] (zda a.zhz)):FnOk P w K mg base (CX1 P w) 2 f fd ["number","club","ledger","rest"] (G6 a.zhz):=by
 refine F.okX Qe ⋯ fun _ _ _ _ H _ Q E hr h=>?_;obtain⟨p,lr,ld,Rs,n,c,rest,rfl,LA,h⟩:=h;refine⟨_,(Zc (pS 4 Qe.nd (Zs (Cy rfl) (by rfl) T.znv PyProof.Rows.boot_max (Za (Z3 Ag (Yk (pv 2) T.zi1 zid (hr.mono ⋯) Zk) (pv 3)) (Za Zi Zd))))
 (Ze (Zo (Ww R8 (Y8 (pv 2) T.zi1 zll (hr.mono ⋯) Zk (Za (pv 0) (Za (pv 1) Zd))) (pv 4) (Zr _))))),?_⟩
 obtain⟨⟨dx,hp⟩,_,_⟩:=id LA;refine⟨_,rfl,p,dx,_,rfl,hp,M5 ⋯ ⋯,p,lr,ld,Rs,rfl,LA,_,rfl,_,_,rfl,rfl,_,_,rfl,?_⟩;refine⟨_,rfl,p,dx,_,rfl,hp,M5 ⋯ ⋯,_,rfl,_,rfl,p,lr,ld,Rs,n,c,rfl,LA,fun H' s'=>⟨_,rfl,_,_,rfl,rfl,h H' s'⟩⟩
abbrev Oq:Stmt:=top 3
theorem X7:Zm ["referee","match","out","ledger","rest","number","grade","club","home","guest","asked","told"] ["referee","match","out","ledger","rest"] (Zj Oq):=fnS
theorem Dc(F:Fun K "reasons" "reasons" Oq f fd)(T:Tx K mg a)(zkj:Yi P w K mg base "met_lately" 2 ["number","club","ledger","rest"] (G6 a.zhz)):FnOk P w K mg base (CX1 P w) 3 f fd ["referee","match","out","ledger","rest"] (Jk K a.zhz):=by
 refine F.okX X7 ⋯ fun _ _ _ _ H _ Q E hr h=>?_;obtain⟨t1,t2,p,lr,ld,Rs,n,g,c,h,gu,d,rest,o,rfl,h1,h2,LA,hq⟩:=h;refine⟨_,(Zc (pS 5 X7.nd (pI (iU K) (pv 0) Zi))
 (Zc (pS 6 X7.nd (pI (iU K) (pv 0) Zi))
 (Zc (pS 7 X7.nd (pI (iU K) (pv 0) Zi))
 (Zc (pS 8 X7.nd (pI (iU K) (pv 1) Zi))
 (Zc (pS 9 X7.nd (pI (iU K) (pv 1) Zi))
 (Zc (pS 10 X7.nd (pI (iU K) (pv 1) Zi))
 (Zc (pS 11 X7.nd (Z4 Zd))
 (Zc (Zz (Vg (pv 2))
  (Ze (Yq (pv 11) Zl))
  Zq)
 (Zc (Zz (Zp R8 (pv 10) (pv 6) (Zr _))
  (Ze (Yq (pv 11) Zl))
  Zq)
 (Zc (Zz (PW.pt (Tn (Zp Y6 (pv 7) (pv 8) (Zr _)) (Vu (Zp Y6 (pv 7) (pv 9) (Zr _)))))
  (Ze (Yq (pv 11) Zl))
  Zq)
 (Zc (Zz (PW.pt (Tn (Vg (pF zkj hr (Za (pv 5) (Za (pv 8) (Za (pv 3) (Za (pv 4) Zd)))))) (Vu (Vg (pF zkj hr (Za (pv 5) (Za (pv 9) (Za (pv 3) (Za (pv 4) Zd)))))))))
  (Ze (Yq (pv 11) Zl))
  Zq)
 (Ze (Zo (pv 11)))))))))))))),?_⟩
 show let y1:TS:=_;let y2:TS:=Z1 _ y1;let y3:TS:=Z1 _ y2;let y4:TS:=Z1 _ y3;let y5:TS:=Z1 _ y4;let y6:TS:=Z1 _ y5;let y7:TS:=Z1 _ y6;let y8:TS:=Z1 _ y7;let y9:TS:=Z1 _ y8;let y10:TS:=Z1 _ y9;let y11:TS:=Z1 _ y10;Z1 _ y11 _ _ _;intro y1 y2 y3 y4 y5 y6 y7 y8 y9 y10 y11;refine⟨_,rfl,t1,_,_,_,rfl,rfl,SqT.of h1,(show atI [V.int n,V.int g,V.int c] 0=some _ from rfl),_,rfl,t1,_,_,_,rfl,rfl,SqT.of h1,(show atI [V.int n,V.int g,V.int c] 1=some _ from rfl),_,rfl,t1,_,_,_,rfl,rfl,SqT.of h1,(show atI [V.int n,V.int g,V.int c] 2=some _ from rfl),?_⟩;refine⟨_,rfl,t2,_,_,_,rfl,rfl,SqT.of h2,(show atI [V.int h,V.int gu,V.int d] 0=some _ from rfl),_,rfl,t2,_,_,_,rfl,rfl,SqT.of h2,(show atI [V.int h,V.int gu,V.int d] 1=some _ from rfl),_,rfl,t2,_,_,_,rfl,rfl,SqT.of h2,(show atI [V.int h,V.int gu,V.int d] 2=some _ from rfl),?_⟩;refine⟨by show 0<=sizeLine;decide,fun l hl=>?_⟩;have s1:=Zf (o:=.lst []) hl;have q1:upd H l (.lst []) l=some (.lst (([]:List Str).map V.str)):=Zb;generalize upd H l (.lst [])=H1 at s1 q1;walk_at "if";have b1:=Ey o "away";have b2:=Ey (decide (g<d)) "grade";have b3:=Ey (decide (c=h)||decide (c=gu)) "club";refine Mb (b:=o) (H0:=H) (Iw fun Q q=>⟨_,rfl,_,rfl,q⟩) hl s1 q1 ⋯ rfl (fun H2 s2 q2 _=>?_);rw[List.nil_append] at q2;refine Mb (b:=decide (g<d)) (H0:=H) (Iw fun Q q=>⟨_,rfl,_,rfl,_,_,rfl,rfl,_,rfl,q⟩) hl s2 q2 ⋯ rfl (fun H3 s3 q3 _=>?_);refine Mb (b:=decide (c=h)||decide (c=gu)) (H0:=H) (Iw (M0 (fun Q q=>⟨_,rfl,_,rfl,rfl,_,rfl,My▸q⟩) (fun Q q=>⟨_,rfl,_,rfl,rfl,_,rfl,My▸q⟩))) hl s3 q3 (by rw[zp6];omega) rfl (fun H4 s4 q4 _=>?_);refine Mb (b:=G5 Rs n h rest||G5 Rs n gu rest) (H0:=H) (zak (fun Q q=>⟨_,rfl,_,rfl,_,rfl,_,rfl,p,lr,ld,Rs,n,h,rest,rfl,LA.same s4,fun H5 s5=>⟨_,rfl,q H5 s5⟩⟩) (fun H5 s5 Q q=>⟨_,rfl,_,rfl,_,rfl,_,rfl,p,lr,ld,Rs,n,gu,rest,rfl,LA.same (s4.trans s5),fun H6 s6=>⟨_,rfl,q H6 s6⟩⟩)) hl s4 q4 (by rw[zp6,zp6];omega) rfl (fun H5 s5 q5 _=>?_);refine⟨_,rfl,hq l H5 ?_ s5 hl⟩;unfold Iv;rw[q5,List.append_assoc,List.append_assoc]
abbrev W5:Stmt:=Zx (top 23) 0
theorem Qz:Zm ["self"] ["self"] (Zj W5):=fnS
theorem Q0(F:Fun K "__init__" "Ledger.__init__" W5 f fd)(T:Tx K mg a):FnOk P w K mg base (CX1 P w) 1 f fd ["self"] (D6 a.zhz):=by
 refine F.okX Qz ⋯ fun _ _ _ _ H _ Q E hr h=>?_;obtain⟨p,dx,rfl,hp,h⟩:=h;refine⟨_,(Zc (Yr (K:=K) rfl (pv 0) (Z4 Zd) rfl)
 (Ze (Yr (K:=K) rfl (pv 0) Gx rfl))),?_⟩
 refine⟨by show 0<=sizeLine;decide,fun lr hlr=>?_⟩;have np:p≠lr:=Zg hp hlr;refine⟨_,rfl,p,a.zhz,dx,[],rfl,(by rw[Zh np];exact hp),T.zi1,T.zkd,⋯,?_⟩;intro ld hld;have n1:ld≠p:=fun z=>by rw[z,Zb] at hld;cases hld
 have n2:ld≠lr:=fun z=>by rw[z,Zh (Ne.symm np),Zb] at hld;cases hld
 have hld0:H ld=none:=by rw[Zh n1,Zh n2] at hld;exact hld
 refine⟨_,rfl,p,a.zhz,dx,[("rounds",.ref lr)],rfl,(by rw[Zh (Ne.symm n1),Zb];rfl),T.zi1,T.zjd,(by show 1<1000;decide),?_⟩;rw[zf6];refine h lr ld _ ⟨⟨dx,Zb⟩,⟨[],?_,.nil⟩,⟨[],?_,fun n c=>rfl,zqo _⟩⟩ (fun b o e hb=>?_) hlr hld0 (Ne.symm n2)
 ·rw[Zh (Ne.symm np),Zh (Ne.symm n2),Zh (Ne.symm np),Zb]
 ·rw[Zh n1,Zb]
 ·rw[Zh hb,Zh (Zg e hld0),Zh hb,Zh (Zg e hlr)];exact e
abbrev Uo:Stmt:=Zx (top 23) 1
theorem Y5:Zm ["self","rows","at","home","guest","grade","referee"] ["self","rows"] (Zj Uo):=fnS
theorem Nn(F:Fun K "write" "Ledger.write" Uo f fd)(T:Tx K mg a):FnOk P w K mg base (CX1 P w) 1 f fd ["self","rows"] (Fg a.zhz):=by
 refine F.okX Y5 ⋯ fun _ _ _ _ H _ Q E hr h=>?_;obtain⟨p,lr,ld,Rs,b,ts,rs,rfl,LA,hb,nb,tl,hl,hl2,h⟩:=h;have hu:=Ws hr;refine⟨_,(Zc (Yq (Zn (K:=K) rfl (pv 0) rfl) (Yt (Mx (K:=K) rfl) (by rfl) T.zlx PyProof.Rows.boot_tuple (Za (pv 1) Zd)))
 (Zc (pS 2 Y5.nd (Zs (cL K) (by rfl) T.zjl PySem.boot_len (Za (Zn (K:=K) rfl (pv 0) rfl) Zd)))
 (Ze (Wi PassesOwn.leaving rfl (Yv (K:=K) rfl (pv 1)) (V3 (K:=K) (n:=4) rfl rfl (Z8 (pN 3 Y5.nd) (Z8 (pN 4 Y5.nd) (Z8 (pN 5 Y5.nd) (Z8 (pN 6 Y5.nd) V2)))))
  (Ze (Zz (Zp Pd (pv 6) Xw (Zr _))
   (Zc (Wf hu (Zn (K:=K) rfl (pv 0) rfl) (Yd (Za (pv 6) (Za (pv 3) Zd))) (pv 2) rfl)
   (Ze (Wf hu (Zn (K:=K) rfl (pv 0) rfl) (Yd (Za (pv 6) (Za (pv 4) Zd))) (pv 2) rfl)))
   Zq)))))),?_⟩
 obtain⟨⟨dx,hp⟩,⟨rr,hlr,rl⟩,⟨kvs,hd,mt,kl⟩⟩:=LA;have hlen:ts.length=rs.length:=by rw[tl.length,zp3]
 have nrd:lr≠ld:=Z9 hlr hd (by intro z;cases z);have nrp:p≠lr:=Z9 hp hlr (by intro z;cases z);have npd:p≠ld:=Z9 hp hd (by intro z;cases z);have nbd:b≠ld:=Z9 hb hd (by intro z;cases z);refine⟨_,rfl,p,a.zhz,dx,_,_,rfl,hp,T.zi1,T.zkd,Od,lr,rr,rfl,hlr,_,rfl,b,ts,rfl,.inl ⟨SqL.of hb,fun t ht=>⟨rr,(by rw[Zh (Zg hlr ht)];exact hlr),Rp (by rw[rl.length];omega),?_⟩⟩⟩;have ntr:t≠lr:=Ne.symm (Zg hlr ht);have k1:∀ x o,H x=some o->x≠lr->upd (upd H t (.tup ts)) lr (.lst (rr++[.ref t])) x=some o:=fun x o e n=>by rw[Zh n,Zh (Zg e ht)];exact e
 have t1:∀ x xs,H x=some (.tup xs)->upd (upd H t (.tup ts)) lr (.lst (rr++[.ref t])) x=some (.tup xs):=fun x xs e=>k1 x _ e (Z9 e hlr (by intro z;cases z));have r1:upd (upd H t (.tup ts)) lr (.lst (rr++[.ref t])) lr=some (.lst (rr++[.ref t])):=Zb;have rl1:Rz (upd (upd H t (.tup ts)) lr (.lst (rr++[.ref t]))) (rr++[.ref t]) (Rs++[rs]):=(rl.mono t1).snoc (by rw[Zh ntr,Zb]) (tl.mono t1);have tl1:=tl.mono t1;generalize upd (upd H t (.tup ts)) lr (.lst (rr++[.ref t]))=H1 at k1 t1 r1 rl1 tl1;have hp1:=k1 _ _ hp nrp;have hb1:=k1 _ _ hb nb;have hd1:=k1 _ _ hd (Ne.symm nrd);refine⟨_,rfl,p,a.zhz,dx,_,_,rfl,hp1,T.zi1,T.zkd,Od,lr,_,rfl,.inl (SqL.of r1),?_⟩;have hN:(((rr++[V.ref t]).length:Nat):Int)=((Rs.length+1:Nat):Int):=by rw[zp6,rl.length];rfl
 rw[hN];refine⟨_,rfl,b,rfl,⟨_,SqL.of hb1⟩,Wu (K:=K) (a:=b) (xs:=ts) (fun i σ H'=>(∃ v1 v2 v3 v4,σ=[some (.ref p),some (.ref b),some (.int ((Rs.length+1:Nat):Int)),v1,v2,v3,v4])/\(∀ x o,H1 x=some o->x≠ld->H' x=some o) /\
  ∃ kvs',H' ld=some (.dT kvs')/\M4 kvs' (Of Rs rs i)/\kvs'.length<=2*(tot Rs+i)) ⟨⟨_,_,_,_,rfl⟩,fun _ _ e _=>e,kvs,hd1,by rw[Bh];exact mt,by omega⟩ (fun i σ H' _ ⟨_,k,_⟩=>SqL.of (k _ _ hb1 nbd)) ?_ ?_⟩
 ·rintro i x σ H' hx ⟨⟨v1,v2,v3,v4,rfl⟩,k2,kvs',hd2,mt2,kl2⟩;obtain⟨tr,r,rfl,hr3,htr⟩:=zep tl1 hx;have hi:i<rs.length:=(zp4.mp hr3).1;have htr2:=k2 _ _ htr (Z9 htr hd1 (by intro z;cases z));refine⟨tr,_,rfl,SqT.of htr2,rfl,_,_,rfl,_,_,rfl,_,_,rfl,_,_,rfl,rfl,?_⟩;refine⟨_,rfl,rfl,_,rfl,?_⟩;cases hw:r.w with
  | none =>
    refine iteF ?_;exact⟨⟨_,_,_,_,rfl⟩,k2,kvs',hd2,by rw[Bi hr3 hw];exact mt2,by omega⟩
  | some w =>
    refine iteT ?_;have hp2:=k2 _ _ hp1 npd;refine⟨_,rfl,_,rfl,p,a.zhz,dx,_,_,rfl,hp2,T.zi1,T.zjd,Sz,_,rfl,_,rfl,sz2,fun t2 ht2=>⟨ld,_,rfl,DPut.t (k:=[inl w,inl r.h]) (by rw[Zh (Zg hd2 ht2)];exact hd2) Zb ((Nat.lt_trans (zri (show _<=200000 by omega) ⋯) Tv)),?_⟩⟩;have k3:∀ x o,H1 x=some o->x≠ld->upd (upd H' t2 (.tup [oV (some w),.int r.h])) ld (.dT (putK kvs' [inl w,inl r.h] (.int ((Rs.length+1:Nat):Int)))) x=some o:=fun x o e n=>by
     have:=k2 x o e n;rw[Zh n,Zh (Zg this ht2)];exact this
    have hd3:upd (upd H' t2 (.tup [oV (some w),.int r.h])) ld (.dT (putK kvs' [inl w,inl r.h] (.int ((Rs.length+1:Nat):Int)))) ld=some (.dT (putK kvs' [inl w,inl r.h] (.int ((Rs.length+1:Nat):Int)))):=Zb;have l3:=X1 kvs' ([inl w,inl r.h]:List Key) (.int ((Rs.length+1:Nat):Int));generalize upd (upd H' t2 (.tup [oV (some w),.int r.h])) ld (.dT (putK kvs' [inl w,inl r.h] (.int ((Rs.length+1:Nat):Int))))=H3 at k3 hd3;have hp3:=k3 _ _ hp1 npd;refine⟨_,rfl,_,rfl,p,a.zhz,dx,_,_,rfl,hp3,T.zi1,T.zjd,Sz,_,rfl,_,rfl,sz2,fun t4 ht4=>⟨ld,_,rfl,DPut.t (k:=[inl w,inl r.g]) (by rw[Zh (Zg hd3 ht4)];exact hd3) Zb ((Nat.lt_trans (zri (show _<=200000 by omega) ⋯) Tv)),?_⟩⟩;refine⟨⟨_,_,_,_,rfl⟩,fun x o e n=>?_,_,Zb,?_,?_⟩
    ·have:=k3 x o e n;rw[Zh n,Zh (Zg this ht4)];exact this
    ·rw[<- Bj hr3 hw];exact(mt2.put w r.h _ (Nat.succ_pos _)).put w r.g _ (Nat.succ_pos _)
    ·have:=X1 (putK kvs' ([inl w,inl r.h]:List Key) (.int ((Rs.length+1:Nat):Int))) ([inl w,inl r.g]:List Key) (.int ((Rs.length+1:Nat):Int));omega
 ·rintro σ H' ⟨⟨v1,v2,v3,v4,rfl⟩,k2,kvs',hd2,mt2,kl2⟩;rw[hlen] at mt2 kl2;rw[zah] at mt2;refine h H' ⟨⟨dx,k2 _ _ hp1 npd⟩,⟨_,k2 _ _ r1 nrd,rl1.mono fun x xs e=>k2 _ _ e (Z9 e hd1 (by intro z;cases z))⟩,kvs',hd2,mt2,by rw[zag];exact kl2⟩ fun x o e n1 n2=>k2 x o (k1 x o e n1) n2
abbrev U7:Stmt:=Zx (top 23) 2
theorem Lo:Zm ["self"] ["self"] (Zj U7):=fnS
theorem Lp(F:Fun K "over" "Ledger.over" U7 f fd)(T:Tx K mg a):FnOk P w K mg base (CX1 P w) 1 f fd ["self"] (Oe a.zhz):=by
 refine F.okX Lo ⋯ fun _ _ _ _ H _ Q E hr h=>?_;obtain⟨p,lr,ld,Rs,rfl,LA,h⟩:=h;refine⟨_,(Ze (Zo (Zs (cL K) (by rfl) T.zjl PySem.boot_len (Za (Zn (K:=K) rfl (pv 0) rfl) Zd)))),?_⟩;obtain⟨⟨dx,hp⟩,⟨rr,hlr,rl⟩,_⟩:=LA;refine⟨_,rfl,p,a.zhz,dx,_,_,rfl,hp,T.zi1,T.zkd,Od,lr,_,rfl,.inl (SqL.of hlr),?_⟩;rw[rl.length];exact h
abbrev Se:Stmt:=Zx (top 23) 4
theorem Ku:Zm ["self","number","club"] ["self","number","club"] (Zj Se):=fnS
theorem Kv(F:Fun K "met" "Ledger.met" Se f fd)(T:Tx K mg a):FnOk P w K mg base (CX1 P w) 1 f fd ["self","number","club"] (zda a.zhz):=by
 refine F.okX Ku ⋯ fun _ _ _ _ H _ Q E hr h=>?_;obtain⟨p,lr,ld,Rs,n,c,rfl,LA,h⟩:=h;have hu:=Ws hr;refine⟨_,(Ze (Zo (Ax hu (Zn (K:=K) rfl (pv 0) rfl) (Yd (Za (pv 1) (Za (pv 2) Zd))) Zi ⟨rfl,rfl,rfl,rfl⟩))),?_⟩;obtain⟨⟨dx,hp⟩,_,⟨kvs,hd,mt,kl⟩⟩:=LA;refine⟨_,rfl,p,a.zhz,dx,_,_,rfl,hp,T.zi1,T.zjd,Sz,ld,rfl,.inr ⟨kvs,.inl hd⟩,_,rfl,_,rfl,sz2,fun t ht=>⟨_,DGet.t (k:=[inl n,inl c]) (by rw[Zh (Zg hd ht)];exact hd) Zb,?_⟩⟩;have e:((valV kvs ([inl n,inl c]:List Key)).getD (.int 0))=.int (metS Rs n c:Nat):=by
  rw[mt n c];split
  ·rename_i z;rw[z];rfl
  ·rfl
 rw[e];exact h _ (Zf ht)
abbrev U8:Stmt:=top 25
theorem Lq:Zm ["value","least","most"] ["value","least","most"] (Zj U8):=fnS
theorem Lr(F:Fun K "check_range" "check_range" U8 f fd)(T:Tx K mg a):FnOk P w K mg base (CX1 P w) 1 f fd ["value","least","most"] (Pp a.zh8):=by
 refine F.okX Lq ⋯ fun _ _ _ _ H _ Q E hr h=>?_;obtain⟨v,lo,m,rfl,s1,s2,s3,h⟩:=h;refine⟨_,(Ze (Zz (PW.pt (Tn (Zp K7 (pv 0) (pv 1) (Zr _)) (Vu (Zp R8 (pv 0) (pv 2) (Zr _)))))
  (Ze (Y1 Y0 rfl T.zny rfl (Za (Wy (Zw (Wj (pv 0)) (Zw (Xi ⋯) (Zw (Wj (pv 1)) (Zw (Xi ⋯) (Zw (Wj (pv 2)) Wx))))) ⋯) Zd)))
  Zq)),?_⟩
 walk_at "rd";refine itD (fun h1=>?_) (fun h1=>?_)
 ·rw[if_pos (Or.inl h1)] at h;refine iteT ?_;walk_at "rd";refine⟨.inl ⟨_,rfl,s1⟩,_,rfl,.inl ⟨_,rfl,s2⟩,_,rfl,.inl ⟨_,rfl,s3⟩,fun z=>⟨sz1,h⟩⟩
 ·walk_at "rd";refine itD (fun h2=>?_) (fun h2=>?_)
  ·rw[if_pos (Or.inr h2)] at h;walk_at "rd";refine⟨.inl ⟨_,rfl,s1⟩,_,rfl,.inl ⟨_,rfl,s2⟩,_,rfl,.inl ⟨_,rfl,s3⟩,fun z=>⟨sz1,h⟩⟩
  ·rw[if_neg (fun z=>z.elim h1 h2)] at h;exact h
abbrev U9:Stmt:=top 35
theorem Rb:Zm ["matches","count"] ["matches"] (Zj U9):=fnS
theorem Ls(F:Fun K "check_count" "check_count" U9 f fd)(T:Tx K mg a):FnOk P w K mg base (CX1 P w) 1 f fd ["matches"] (Fn K (ca a)):=by
 refine F.okX Rb ⋯ fun _ _ _ _ H _ Q E hr h=>?_;obtain⟨b,ts,rfl,hs,hl,h1,h2⟩:=h;refine⟨_,(Zc (pS 1 Rb.nd (Zs (cL K) (by rfl) T.zjl PySem.boot_len (Za (pv 0) Zd)))
 (Ze (Zz (Zp R8 (pv 1) (Xx rfl T.zi6) (Zr _))
  (Ze (Y1 Y0 rfl T.zmg rfl (Za (Wy (Zw (Wj (pv 1)) (Zw (Xi ⋯) (Zw (Wj (Xx rfl T.zi6)) Wx))) ⋯) Zd)))
  Zq))),?_⟩
 refine⟨_,rfl,b,_,rfl,.inl hs,?_⟩;walk_at "rd";refine itD (fun hc=>?_) (fun hc=>?_)
 ·walk_at "rd";exact⟨.inl ⟨_,rfl,Yj ⋯ ⋯⟩,.inl ⟨_,rfl,Z7 ⋯⟩,fun z=>⟨sz1,h1 ⋯⟩⟩
 ·exact h2 ⋯
abbrev Up:Stmt:=top 36
theorem Wg:Zm ["matches","home","guest","grade"] ["matches"] (Zj Up):=fnS
theorem Np(F:Fun K "check_ranges" "check_ranges" Up f fd)(T:Tx K mg a)(zih:Yi P w K mg base "check_range" 1 ["value","least","most"] (Pp a.zh8)):FnOk P w K mg base (CX1 P w) 2 f fd ["matches"] (Ju K (ca a)):=by
 refine F.okX Wg ⋯ fun _ _ _ _ H _ Q E hr h=>?_;obtain⟨b,ts,Ms,rfl,hs,tl,sm,h1,h2⟩:=h;refine⟨_,(Ze (Wi PassesOwn.leaving rfl (Yv (K:=K) rfl (pv 0)) (V3 (K:=K) (n:=3) rfl rfl (Z8 (pN 1 Wg.nd) (Z8 (pN 2 Wg.nd) (Z8 (pN 3 Wg.nd) V2))))
  (Zc (Zy (pF zih hr (Za (pv 1) (Za Zi (Za (Xx rfl T.zjc) Zd)))))
  (Zc (Zy (pF zih hr (Za (pv 2) (Za Zi (Za (Xx rfl T.zjc) Zd)))))
  (Ze (Zy (pF zih hr (Za (pv 3) (Za Zi (Za (Xx rfl T.zjf) Zd)))))))))),?_⟩
 have hlen:ts.length=Ms.length:=by rw[tl.length,zp3]
 let jv1:Nat->L2.St->Hp->Prop:=fun i σ H'=>H'=H/\(∃ v1 v2 v3,σ=[some (.ref b),v1,v2,v3])/\∀ m∈Ms.take i,¬ badM m
 refine⟨_,rfl,b,rfl,⟨_,hs⟩,Wu (K:=K) (a:=b) (xs:=ts) jv1 ⟨rfl,⟨_,_,_,rfl⟩,by simp⟩ (fun i σ H' _ ⟨e,_⟩=>e▸hs) ?_ ?_⟩
 ·rintro i x σ H' hx ⟨rfl,⟨v1,v2,v3,rfl⟩,hi⟩;obtain⟨t,m,rfl,hm,ht⟩:=zam tl hx;have hmem:=zqf hm;obtain⟨s1,s2,s3⟩:=sm m hmem;have bad:badM m->E (.ref a.zh8) none H':=fun hb=>h1 ⟨m,hmem,hb⟩;refine⟨t,_,rfl,SqT.of ht,rfl,_,_,rfl,_,_,rfl,_,_,rfl,rfl,?_⟩;refine⟨_,rfl,_,1,99,rfl,s1,Z7 ⋯,Z7 ⋯,?_⟩;refine Gy (fun b1=>bad (by unfold badM;omega)) (fun b1=>?_);refine⟨_,rfl,_,1,99,rfl,s2,Z7 ⋯,Z7 ⋯,?_⟩;refine Gy (fun b2=>bad (by unfold badM;omega)) (fun b2=>?_);refine⟨_,rfl,_,1,9,rfl,s3,Z7 ⋯,Z7 ⋯,?_⟩;refine Gy (fun b3=>bad (by unfold badM;omega)) (fun b3=>?_);exact⟨rfl,⟨_,_,_,rfl⟩,Jt hm hi (by unfold badM;omega)⟩
 ·rintro σ H' ⟨rfl,⟨v1,v2,v3,rfl⟩,hi⟩;rw[hlen,zqz] at hi;exact h2 fun ⟨m,hm,hb⟩=>hi m hm hb
abbrev Ta:Stmt:=top 37
theorem W6:Zm ["matches","home","guest","grade"] ["matches"] (Zj Ta):=fnS
theorem Lu(F:Fun K "check_clubs" "check_clubs" Ta f fd)(T:Tx K mg a):FnOk P w K mg base (CX1 P w) 1 f fd ["matches"] (Fo K (ca a)):=by
 refine F.okX W6 ⋯ fun _ _ _ _ H _ Q E hr h=>?_;obtain⟨b,ts,Ms,rfl,hs,tl,sm,h1,h2⟩:=h;refine⟨_,(Ze (Wi PassesOwn.leaving rfl (Yv (K:=K) rfl (pv 0)) (V3 (K:=K) (n:=3) rfl rfl (Z8 (pN 1 W6.nd) (Z8 (pN 2 W6.nd) (Z8 (pN 3 W6.nd) V2))))
  (Ze (Zz (Zp Y6 (pv 1) (pv 2) (Zr _))
   (Ze (Y1 Y0 rfl T.zn9 rfl (Za (Wy (Zw (Xi ⋯) (Zw (Wj (pv 1)) (Zw (Xi ⋯) Wx))) ⋯) Zd)))
   Zq)))),?_⟩
 have hlen:ts.length=Ms.length:=by rw[tl.length,zp3]
 let jv2:Nat->L2.St->Hp->Prop:=fun i σ H'=>H'=H/\(∃ v1 v2 v3,σ=[some (.ref b),v1,v2,v3])/\∀ m∈Ms.take i,¬ (m.1=m.2.1)
 refine⟨_,rfl,b,rfl,⟨_,hs⟩,Wu (K:=K) (a:=b) (xs:=ts) jv2 ⟨rfl,⟨_,_,_,rfl⟩,by simp⟩ (fun i σ H' _ ⟨e,_⟩=>e▸hs) ?_ ?_⟩
 ·rintro i x σ H' hx ⟨rfl,⟨v1,v2,v3,rfl⟩,hi⟩;obtain⟨t,m,rfl,hm,ht⟩:=zam tl hx;have hmem:=zqf hm;obtain⟨s1,s2,s3⟩:=sm m hmem;refine⟨t,_,rfl,SqT.of ht,rfl,_,_,rfl,_,_,rfl,_,_,rfl,rfl,?_⟩;refine⟨_,rfl,_,rfl,rfl,_,rfl,?_⟩;refine itV (fun he=>?_) (fun he=>?_)
  ·exact⟨_,rfl,.inl ⟨_,rfl,s1⟩,fun z=>⟨sz1,h1 ⟨m,hmem,he⟩⟩⟩
  ·exact⟨rfl,⟨_,_,_,rfl⟩,Jt (p:=fun m=>m.1=m.2.1) hm hi he⟩
 ·rintro σ H' ⟨rfl,⟨v1,v2,v3,rfl⟩,hi⟩;rw[hlen,zqz] at hi;exact h2 fun ⟨m,hm,hb⟩=>hi m hm hb
abbrev Ot:Stmt:=top 38
theorem Dd:Zm ["matches"] ["matches"] (Zj Ot):=fnS
theorem De(F:Fun K "checked" "checked" Ot f fd)(T:Tx K mg a)(zk7:Yi P w K mg base "check_count" 1 ["matches"] (Fn K (ca a)))(zkx:Yi P w K mg base "check_ranges" 2 ["matches"] (Ju K (ca a)))(zlf:Yi P w K mg base "check_clubs" 1 ["matches"] (Fo K (ca a))):FnOk P w K mg base (CX1 P w) 3 f fd ["matches"] (Ld K (ca a)):=by
 refine F.okX Dd ⋯ fun _ _ _ _ H _ Q E hr h=>?_;obtain⟨b,ts,Ms,rfl,hs,tl,sm,hl,h1,h2,h3,h4⟩:=h;refine⟨_,(Zc (Zy (pF zk7 hr (Za (pv 0) Zd)))
 (Zc (Zy (pF zkx hr (Za (pv 0) Zd)))
 (Zc (Zy (pF zlf hr (Za (pv 0) Zd)))
 (Ze (Zo (Yt (Xt (K:=K) rfl) (by rfl) T.zjv PyProof.Rows.boot_list (Za (pv 0) Zd))))))),?_⟩
 have hlen:ts.length=Ms.length:=by rw[tl.length,zp3]
 refine⟨_,rfl,b,ts,rfl,hs,by omega,fun hc=>h1 ⋯,fun hc=>?_⟩;refine⟨_,rfl,b,ts,Ms,rfl,hs,tl,sm,fun hb=>h2 ⋯ hb,fun hb=>?_⟩;refine⟨_,rfl,b,ts,Ms,rfl,hs,tl,sm,fun hb2=>h3 ⋯ hb hb2,fun hb2=>?_⟩;exact⟨_,rfl,b,ts,rfl,.inl hs,h4 ⋯ hb hb2⟩
abbrev W7:Stmt:=Zx (top 40) 0
theorem Q3:Zm ["self"] ["self"] (Zj W7):=fnS
theorem Q4(F:Fun K "__init__" "Roster.__init__" W7 f fd)(T:Tx K mg a):FnOk P w K mg base (CX1 P w) 1 f fd ["self"] (Ca (ca a)):=by
 refine F.okX Q3 ⋯ fun _ _ _ _ H _ Q E hr h=>?_;obtain⟨p,dx,rfl,hp,h⟩:=h;refine⟨_,(Ze (Yr (K:=K) rfl (pv 0) Gw rfl)),?_⟩;intro d hd;exact⟨_,rfl,p,a.zh0,dx,[],rfl,(by rw[Zh (Zg hp hd)];exact hp),T.zis,T.zi2,⋯,h d hd⟩
abbrev Wn:Stmt:=Zx (top 40) 1
theorem R0:Zm ["self","number","grade","club"] ["self","number","grade","club"] (Zj Wn):=fnS
theorem R1(F:Fun K "check_new" "Roster.check_new" Wn f fd)(T:Tx K mg a)(zih:Yi P w K mg base "check_range" 1 ["value","least","most"] (Pp a.zh8)):FnOk P w K mg base (CX1 P w) 2 f fd ["self","number","grade","club"] (Qs (ca a)):=by
 refine F.okX R0 ⋯ fun _ _ _ _ H _ Q E hr h=>?_;obtain⟨p,d,R,n,g,c,rfl,RA,sm,h⟩:=h;have hu:=Ws hr;refine⟨_,(Zc (Zy (pF zih hr (Za (pv 1) (Za Zi (Za (Xx rfl T.zjo) Zd)))))
 (Zc (Zy (pF zih hr (Za (pv 2) (Za Zi (Za (Xx rfl T.zjf) Zd)))))
 (Zc (Zy (pF zih hr (Za (pv 3) (Za Zi (Za (Xx rfl T.zjc) Zd)))))
 (Zc (Zz (Qh (Mr hu (pv 1) (Zn (K:=K) rfl (pv 0) rfl)))
  (Ze (Y1 Y0 rfl T.znj rfl (Za (Wy (Zw (Xi ⋯) (Zw (Wj (pv 1)) (Zw (Xi ⋯) Wx))) ⋯) Zd)))
  Zq)
 (Ze (Zz (Zp zc2 (Zs Bb (by rfl) T.zjl PySem.boot_len (Za (Zn (K:=K) rfl (pv 0) rfl) Zd)) (Xx rfl T.zi3) (Zr _))
  (Ze (Y1 Y0 rfl T.zmf rfl (Za (Wy (Zw (Xi ⋯) (Zw (Wj (Xx rfl T.zi3)) (Zw (Xi ⋯) Wx))) ⋯) Zd)))
  Zq)))))),?_⟩
 obtain⟨sn,sg,sc⟩:=sm;obtain⟨⟨dx,kvs,hp,hd,en⟩,nd⟩:=id RA;have bad:∀ {A B:Prop},(badI n g c->(if badI n g c then A else B)->A):=fun hb z=>by rw[if_pos hb] at z;exact z
 refine⟨_,rfl,n,1,999,rfl,sn,Z7 ⋯,Z7 ⋯,?_⟩;refine Gy (fun b1=>bad (by unfold badI;omega) h) (fun b1=>?_);refine⟨_,rfl,g,1,9,rfl,sg,Z7 ⋯,Z7 ⋯,?_⟩;refine Gy (fun b2=>bad (by unfold badI;omega) h) (fun b2=>?_);refine⟨_,rfl,c,1,99,rfl,sc,Z7 ⋯,Z7 ⋯,?_⟩;refine Gy (fun b3=>bad (by unfold badI;omega) h) (fun b3=>?_);rw[if_neg (by unfold badI;omega)] at h;refine⟨_,rfl,_,rfl,p,a.zh0,dx,_,_,rfl,hp,T.zis,T.zi2,Wl,d,_,rfl,DGet.k (k:=inl n) hd,_,rfl,?_⟩;rw[en.isSome nd];refine itD (fun hn=>?_) (fun hn=>?_)
 ·rw[if_pos hn] at h;exact⟨_,rfl,.inl ⟨_,rfl,sn⟩,fun z=>⟨sz1,h⟩⟩
 rw[if_neg hn] at h;refine⟨_,rfl,p,a.zh0,dx,_,_,rfl,hp,T.zis,T.zi2,Wl,d,_,rfl,hd,_,_,rfl,rfl,_,rfl,?_⟩;rw[en.length];refine itD (fun hz=>?_) (fun hz=>?_)
 ·rw[if_pos ⋯] at h;exact⟨.inl ⟨_,rfl,Z7 ⋯⟩,fun z=>⟨sz1,h⟩⟩
 rw[if_neg ⋯] at h;exact h
abbrev X9:Stmt:=Zx (top 40) 2
theorem Ss:Zm ["self","number"] ["self","number"] (Zj X9):=fnS
theorem Su(F:Fun K "check_known" "Roster.check_known" X9 f fd)(T:Tx K mg a):FnOk P w K mg base (CX1 P w) 1 f fd ["self","number"] (V7 (ca a)):=by
 refine F.okX Ss ⋯ fun _ _ _ _ H _ Q E hr h=>?_;obtain⟨p,d,R,n,rfl,RA,sn,h⟩:=h;have hu:=Ws hr;refine⟨_,(Ze (Zz (Qh (Oa hu (pv 1) (Zn (K:=K) rfl (pv 0) rfl)))
  (Ze (Y1 Y0 rfl T.zmx rfl (Za (Wy (Zw (Xi ⋯) (Zw (Wj (pv 1)) (Zw (Xi ⋯) Wx))) ⋯) Zd)))
  Zq)),?_⟩
 obtain⟨⟨dx,kvs,hp,hd,en⟩,nd⟩:=id RA;refine⟨_,rfl,_,rfl,p,a.zh0,dx,_,_,rfl,hp,T.zis,T.zi2,Wl,d,_,rfl,DGet.k (k:=inl n) hd,_,rfl,?_⟩;rw[en.isSome nd];by_cases hn:n∈R.map (·.1)
 ·rw[zp8 hn];rw[if_pos hn] at h;exact iteF h
 ·rw[zqd hn];rw[if_neg hn] at h;exact iteT ⟨_,rfl,.inl ⟨_,rfl,sn⟩,fun z=>⟨sz1,h⟩⟩
abbrev Sf:Stmt:=Zx (top 40) 3
theorem Kw:Zm ["self","number","grade","club"] ["self","number","grade","club"] (Zj Sf):=fnS
theorem Kx(F:Fun K "add" "Roster.add" Sf f fd)(T:Tx K mg a)(ziw:Zt P w K mg base a.zh0 "check_new" 2 ["self","number","grade","club"] (Qs (ca a))):FnOk P w K mg base (CX1 P w) 3 f fd ["self","number","grade","club"] (za2 (ca a)):=by
 refine F.okX Kw ⋯ fun _ _ _ _ H _ Q E hr h=>?_;obtain⟨p,d,R,n,g,c,rfl,RA,sm,hl,h⟩:=h;have hu:=Ws hr;refine⟨_,(Zc (Zy (Y8 (pv 0) T.zis ziw (hr.mono ⋯) Zk (Za (pv 1) (Za (pv 2) (Za (pv 3) Zd)))))
 (Ze (Wf hu (Zn (K:=K) rfl (pv 0) rfl) (pv 1) (Yd (Za (pv 2) (Za (pv 3) Zd))) rfl))),?_⟩
 obtain⟨⟨dx,kvs,hp,hd,en⟩,nd⟩:=id RA;refine⟨_,rfl,p,dx,_,rfl,hp,Yy.no ⋯,_,rfl,_,rfl,_,rfl,p,d,R,n,g,c,rfl,RA,sm,?_⟩;refine it2 h (fun _ z=>z) fun hb h=>it2 h (fun _ z=>z) fun hn h=>it2 h (fun _ z=>z) fun hz h=>?_;refine⟨_,rfl,_,rfl,sz2,fun t ht=>?_⟩;have ntp:p≠t:=Zg hp ht;have ntd:d≠t:=Zg hd ht;have npd:p≠d:=Z9 hp hd (by intro z;cases z);refine⟨_,rfl,p,a.zh0,dx,_,_,rfl,(by rw[Zh ntp];exact hp),T.zis,T.zi2,Wl,_,rfl,d,_,rfl,DPut.k (k:=inl n) (by rw[Zh ntd];exact hd) (Rp (by rw[en.length];exact hl)),?_⟩;rw[Bq (en.val_none hn)];refine h _ ⟨⟨dx,_,(by rw[Zh npd,Zh ntp];exact hp),Zb,?_⟩,?_⟩ fun b o e hb=>(by rw[Zh hb,Zh (Zg e ht)];exact e)
 ·refine Wk.snoc (by rw[Zh (Ne.symm ntd)];exact Zb) (en.mono fun b xs e=>?_);rw[Zh (Z9 e hd (by intro z;cases z)),Zh (Zg e ht)];exact e
 ·rw[zqg];exact Il nd hn
abbrev Vw:Stmt:=Zx (top 40) 4
theorem Ou:Zm ["self","number"] ["self","number"] (Zj Vw):=fnS
theorem Ov(F:Fun K "strike" "Roster.strike" Vw f fd)(T:Tx K mg a):FnOk P w K mg base (CX1 P w) 1 f fd ["self","number"] (Fc (ca a)):=by
 refine F.okX Ou ⋯ fun _ _ _ _ H _ Q E hr h=>?_;obtain⟨p,d,R,n,g,c,rfl,RA,h⟩:=h;refine⟨_,(Ze (Zy (Ay (Zn (K:=K) rfl (pv 0) rfl) (pv 1) ⟨rfl,rfl,rfl,rfl⟩))),?_⟩;obtain⟨⟨dx,kvs,hp,hd,en⟩,nd⟩:=id RA;have npd:p≠d:=Z9 hp hd (by intro z;cases z);obtain⟨t,e1,e2⟩:=en.val_some nd (show (n,g,c)∈R++[(n,g,c)] by simp);have hn:n∉R.map (·.1):=by
  rw[zqg,List.nodup_append] at nd;exact fun z=>nd.2.2 n z n (by simp) rfl
 refine⟨_,rfl,p,a.zh0,dx,_,_,rfl,hp,T.zis,T.zi2,Wl,d,rfl,.inl ⟨kvs,.inl hd⟩,_,rfl,kvs,inl n,_,hd,rfl,e1,?_⟩;refine h _ ⟨⟨dx,_,(by rw[Zh npd];exact hp),Zb,(en.unsnoc hn).mono fun b xs e=>?_⟩,?_⟩ fun b o e hb=>(by rw[Zh hb];exact e)
 ·rw[Zh (Z9 e hd (by intro z;cases z))];exact e
 ·rw[zqg,List.nodup_append] at nd;exact nd.1
abbrev Vj:Stmt:=Zx (top 40) 6
theorem Pu:Zm ["self"] ["self"] (Zj Vj):=fnS
theorem Pw(F:Fun K "numbers" "Roster.numbers" Vj f fd)(T:Tx K mg a):FnOk P w K mg base (CX1 P w) 1 f fd ["self"] (M8 (ca a)):=by
 refine F.okX Pu ⋯ fun _ _ _ _ H _ Q E hr h=>?_;obtain⟨p,d,R,rfl,RA,h⟩:=h;refine⟨_,(Ze (Zo (Yt (Ex rfl) (by rfl) T.zjv PyProof.Rows.boot_list (Za (Zn (K:=K) rfl (pv 0) rfl) Zd)))),?_⟩;obtain⟨⟨dx,kvs,hp,hd,en⟩,nd⟩:=id RA;refine⟨_,rfl,p,a.zh0,dx,_,_,rfl,hp,T.zis,T.zi2,Wl,d,kvs,rfl,.inl hd,fun l hl=>?_⟩;rw[en.keys];exact h l hl
abbrev Uq:Stmt:=Zx (top 40) 7
theorem Nq:Zm ["self","number"] ["self","number"] (Zj Uq):=fnS
theorem Nr(F:Fun K "entry" "Roster.entry" Uq f fd)(T:Tx K mg a)(zic:Zt P w K mg base a.zh0 "check_known" 1 ["self","number"] (V7 (ca a))):FnOk P w K mg base (CX1 P w) 2 f fd ["self","number"] (Fd (ca a)):=by
 refine F.okX Nq ⋯ fun _ _ _ _ H _ Q E hr h=>?_;obtain⟨p,d,R,n,rfl,RA,sn,h1,h2⟩:=h;have hu:=Ws hr;refine⟨_,(Zc (Zy (Y8 (pv 0) T.zis zic (hr.mono ⋯) Zk (Za (pv 1) Zd)))
 (Ze (Zo (pD hu (Zn (K:=K) rfl (pv 0) rfl) (pv 1))))),?_⟩
 obtain⟨⟨dx,kvs,hp,hd,en⟩,nd⟩:=id RA;refine⟨_,rfl,p,dx,_,rfl,hp,Yy.no ⋯,_,rfl,p,d,R,n,rfl,RA,sn,?_⟩;refine Gy (fun hn=>?_) (fun hn=>h1 hn);obtain⟨⟨m,g,c⟩,q,rfl⟩:=zqh.mp hn;obtain⟨t,e1,e2⟩:=en.val_some nd q;exact⟨_,rfl,p,a.zh0,dx,_,_,rfl,hp,T.zis,T.zi2,Wl,_,rfl,d,_,rfl,(by rw[<- e1];exact DGet.k (k:=inl m) hd),h2 g c t q e2⟩
abbrev Vx:Stmt:=Zx (top 40) 10
theorem Ow:Zm ["self","number"] ["self","number"] (Zj Vx):=fnS
theorem Ox(F:Fun K "person" "Roster.person" Vx f fd)(T:Tx K mg a)(zk3:Zt P w K mg base a.zh0 "entry" 2 ["self","number"] (Fd (ca a))):FnOk P w K mg base (CX1 P w) 3 f fd ["self","number"] (Fe (ca a)):=by
 refine F.okX Ow ⋯ fun _ _ _ _ H _ Q E hr h=>?_;obtain⟨p,d,R,n,rfl,RA,sn,h1,h2⟩:=h;refine⟨_,(Ze (Zo (Z3 (Ff (K:=K) rfl) (Yd (Za (pv 1) Zd)) (Y8 (pv 0) T.zis zk3 (hr.mono ⋯) Zk (Za (pv 1) Zd))))),?_⟩;obtain⟨⟨dx,kvs,hp,hd,en⟩,nd⟩:=id RA;refine⟨_,rfl,sz1,fun t1 ht1=>?_⟩;have s1:=Zf (o:=.tup [.int n]) ht1;have q1:upd H t1 (.tup [.int n]) t1=some (.tup [.int n]):=Zb;generalize upd H t1 (.tup [.int n])=H1 at s1 q1;refine⟨_,rfl,p,dx,_,rfl,s1 _ _ hp,Yy.no ⋯,_,rfl,p,d,R,n,rfl,RA.same s1,sn,fun hn=>h1 hn H1 s1,fun g c t q ht=>?_⟩;refine⟨t1,t,_,_,rfl,rfl,SqT.of q1,SqT.of ht,by simp,by show 1+2<=sizeLine;exact sz3,fun z=>absurd z (by simp),fun _ t2 ht2=>?_⟩;exact h2 g c t2 _ q Zb (s1.trans (Zf ht2)) (s1.free ht2)
abbrev Lv:Stmt:=top 4
theorem B2:Zm ["people","match","out","ledger","rest"] ["people","match","out","ledger","rest"] (Zj Lv):=fnS
theorem B3(F:Fun K "takers" "takers" Lv f fd)(T:Tx K mg a)(zmq:Yi P w K mg base "reasons" 3 ["referee","match","out","ledger","rest"] (Jk K a.zhz)):FnOk P w K mg base (CX1 P w) 4 f fd ["people","match","out","ledger","rest"] (G7 K a.zhz):=by
 refine F.okX B2 ⋯ fun _ _ _ _ H _ Q E hr h=>?_;obtain⟨lp,lo,tm,p,lr,ld,Rs,ts,Ms,os,h,gu,d,rest,rfl,hp,tl,ho,hoo,ht,LA,hl,hq⟩:=h;refine⟨_,(Ze (Zo (Tz rfl (cT ["match","ledger","rest","out"] [1,3,4,2]) (Yv (K:=K) rfl (pv 0)) (fun _ _ _ _ _=>Io (Ud (Ji (K:=K) rfl (D2 zmq (hr.mono ⋯) zac rfl (Za (pv 0) (Za (pv 1) (Za (Ww (Mw (K:=K) rfl) (pI (iU K) (pv 0) Zi) (pv 4) (by with_unfolding_all rfl)) (Za (pv 2) (Za (pv 3) Zd)))))) (fun _=>rfl)))) (fun _ _ _ _ _=>(pI (iU K) (pv 0) Zi))))),?_⟩;have hlen:ts.length=Ms.length:=by rw[tl.length,zp3]
 refine⟨_,rfl,lp,rfl,⟨_,SqL.of hp⟩,?_⟩;refine Tu (K:=K) (a:=lp) (xs:=ts) (fun i ys H'=>Same H H'/\ys=((Ms.take i).filter (S4 Rs h gu d os rest)).map fun m=>V.int m.1) ⟨Same.refl _,rfl⟩ (fun i ys H' _ ⟨s,_⟩=>SqL.of (s _ _ hp)) (by rw[hlen];exact szN hl) (fun i ys H' ⟨_,e⟩=>by rw[e,zp3];exact zqr (zrp _ _) (List.length_take_le _ _)) ?_ ?_
 ·rintro i x ys H' hx ⟨sm,rfl⟩;obtain⟨t,m,rfl,hm,htt⟩:=zam tl hx;have htt':=sm _ _ htt;refine⟨_,rfl,_,rfl,_,rfl,t,_,_,_,rfl,rfl,SqT.of htt',(show atI (pV m) 0=some _ from rfl),_,rfl,lo,os,rfl,.inl (SqL.of (sm _ _ ho)),rfl,List.all_eq_true.mpr (fun y hy=>zaj (hoo y hy)),_,rfl,_,rfl,t,tm,p,lr,ld,Rs,m.1,m.2.1,m.2.2,h,gu,d,rest,inV (.int m.1) os,rfl,htt',sm _ _ ht,LA.same sm,fun l H2 hl2 s2 _=>?_⟩;refine⟨_,.inl ⟨_,SqL.of hl2,rfl⟩,?_⟩;have e:((Iv Rs m.1 m.2.1 m.2.2 h gu d (inV (.int m.1) os) rest).map V.str).isEmpty=S4 Rs h gu d os rest m:=by unfold S4;rw[List.isEmpty_map]
  have hys:∀ ys',((Ms.take (i+1)).filter (S4 Rs h gu d os rest)).map (fun m=>V.int m.1)=((Ms.take i).filter (S4 Rs h gu d os rest)).map (fun m=>V.int m.1)++ys'↔ys'=if S4 Rs h gu d os rest m then [V.int m.1] else []:=fun ys'=>by
   rw[zre,hm,List.filter_append,zqg,List.append_cancel_left_eq];cases q:S4 Rs h gu d os rest m<;>simp[q,eq_comm]
  dsimp only;rw[e];refine itB (fun hb=>?_) (fun hb=>?_)
  ·rw[Bool.not_not] at hb;refine⟨_,rfl,t,_,_,_,rfl,rfl,SqT.of (s2 _ _ htt'),(show atI (pV m) 0=some _ from rfl),sm.trans s2,?_⟩;exact((hys [V.int m.1]).mpr (by rw[hb];rfl)).symm
  ·rw[Bool.not_not] at hb;refine⟨sm.trans s2,?_⟩;have:=(hys []).mpr (by rw[hb];rfl);rw[List.append_nil] at this;exact this.symm
 ·rintro ys H' ⟨sm,rfl⟩ l hl';rw[hlen,zqz];exact hq l _ Zb (sm.trans (Zf hl')) (sm.free hl')
abbrev Ur:Stmt:=top 42
theorem Wh:Zm ["given","taken","place","number"] ["given"] (Zj Ur):=fnS
theorem Nt(F:Fun K "places_taken" "places_taken" Ur f fd)(T:Tx K mg a):FnOk P w K mg base (CX1 P w) 1 f fd ["given"] (D8 K):=by
 refine F.okX Wh ⋯ fun _ _ _ _ H _ Q E hr h=>?_;obtain⟨b,gs,rfl,hb,ho,hinj,hl,h⟩:=h;have hu:=Ws hr;refine⟨_,(Zc (pS 1 Wh.nd Gw)
 (Zc (Wi PassesOwn.leaving rfl (zcj (K:=K) rfl rfl T.zkb (Za (pv 0) Zd)) (V3 (K:=K) (n:=2) rfl rfl (Z8 (pN 2 Wh.nd) (Z8 (pN 3 Wh.nd) V2)))
  (Ze (Zz (Zp Pd (pv 3) Xw (Zr _))
   (Ze (Wf hu (pv 1) (pv 3) (pv 2) rfl))
   Zq)))
 (Ze (Zo (pv 1))))),?_⟩
 have line:100<sizeLine:=by rw[sizeLine_eq];decide
 intro d hd
 let jv1:Nat->L2.St->Hp->Prop:=fun i σ' H'=>(∃ u v,σ'=[some (.ref b),some (.ref d),u,v])/\Same H H'/\∃ kvs,H' d=some (.dK kvs)/\kvs.length<=i/\(∀ (n:Int) (j:Nat),j<i->gs[j]?=some (.int n)->valV kvs (inl n:Key)=some (.int (j:Nat)))/\(∀ n:Int,(∀ j:Nat,j<i->gs[j]?≠some (.int n))->valV kvs (inl n:Key)=none)
 refine⟨_,rfl,b,rfl,⟨gs,SqL.of (Zf hd _ _ hb)⟩,zas (xs:=gs) jv1
  ⟨⟨none,none,rfl⟩,Zf hd,[],Zb,zqa _,fun n j hj=>absurd hj (zrw _),fun n _=>rfl⟩ (fun i σ' H' hi p=>SqL.of (p.2.1 _ _ hb)) (fun i x t σ' H' hx p htn=>?_) (fun σ' H' p=>?_)⟩
 ·obtain⟨⟨u,v,rfl⟩,hs,kvs,hk,hkl,h1,h2⟩:=p;have s2:=hs.trans (Zf (o:=.tup [.int (i:Nat),x]) htn);have hk2:=Zf (o:=.tup [.int (i:Nat),x]) htn _ _ hk;refine⟨t,_,rfl,SqT.of Zb,rfl,_,_,rfl,_,_,rfl,rfl,?_⟩;generalize upd H' t (.tup [.int (i:Nat),x])=H2 at s2 hk2;have hi:i<gs.length:=(zp4.mp hx).1;refine Vp (b:=!decide (x=.non)) (fun Q k=>⟨_,rfl,rfl,_,rfl,k⟩) ?_;rcases ho x (zqf hx) with rfl|⟨n,rfl⟩
  ·refine iteF (Zv ⟨⟨_,_,rfl⟩,s2,kvs,hk2,by omega,fun n j hj hg=>?_,fun n hn=>h2 n fun j hj=>hn j ⋯⟩);by_cases e:j=i
   ·subst e;rw[hx] at hg;cases hg
   ·exact h1 n j ⋯ hg
  ·refine iteT ⟨_,rfl,_,rfl,_,rfl,d,_,rfl,DPut.k (k:=inl n) hk2 ⋯,⟨_,_,rfl⟩,?_,_,Zb,?_,fun m j hj hg=>?_,fun m hm=>?_⟩
   ·exact Xu hd s2
   ·exact zqr (X1 kvs _ _) ⋯
   ·rw[Tq];by_cases e:j=i
    ·subst e;rw[hx] at hg;cases hg;rw[if_pos rfl]
    ·have hne:¬ ((inl m:Key)=inl n):=fun z=>by
      rw[inl.inj z] at hg;exact e (hinj j i n hg hx)
     rw[if_neg hne];exact h1 m j ⋯ hg
   ·have hne:¬ ((inl m:Key)=inl n):=fun z=>by
     rw[inl.inj z] at hm;exact hm i ⋯ hx
    rw[Tq,if_neg hne];exact h2 m fun j hj=>hm j ⋯
 ·obtain⟨⟨u,v,rfl⟩,hs,kvs,hk,hkl,h1,h2⟩:=p;exact⟨_,rfl,h d kvs H' hk ⟨fun n j hj=>h1 n j (zp4.mp hj).1 hj,fun n hn=>h2 n fun j _=>hn j⟩ hs hd⟩
abbrev Sg:Stmt:=top 43
theorem Xe:Zm ["may","taken","start","into","waiting","done","place","number"] ["may","taken","start"] (Zj Sg):=fnS
theorem Ky(F:Fun K "steps_into" "steps_into" Sg f fd)(T:Tx K mg a):FnOk P w K mg base (CX1 P w) 1 f fd ["may","taken","start"] (zay K):=by
 refine F.okX Xe ⋯ fun _ _ _ _ H _ Q E hr h=>?_;obtain⟨l,d,ls,rows,kvs,gs,p,rfl,hl,il,hrl,hd,tk,FP,hp,h⟩:=h;have hu:=Ws hr;refine⟨_,(Zc (pS 3 Xe.nd (Dw (Tr (pv 2) Xw Dv) rfl rfl (by simp) ⋯))
 (Zc (pS 4 Xe.nd (Z4 (Za (pv 2) Zd)))
 (Zc (pS 5 Xe.nd Zi)
 (Zc (Gj PassesOwn.leaving (Zp K7 (pv 5) (Zs (cL K) (by rfl) T.zjl PySem.boot_len (Za (pv 4) Zd)) (Zr _))
  (Zc (pS 6 Xe.nd (pI (iL K) (pv 4) (pv 5)))
  (Zc (pS 5 Xe.nd (Z3 Vv (pv 5) Zi))
  (Ze (Wi PassesOwn.leaving rfl (Yv (K:=K) rfl (pI (iL K) (pv 0) (pv 6))) (pN 7 Xe.nd)
   (Ze (Zz (PW.pt (Mj (Qh (Mr hu (pv 7) (pv 1))) (Pc (Qh (Oa hu (pD hu (pv 1) (pv 7)) (pv 3))))))
    (Zc (Wf hu (pv 3) (pD hu (pv 1) (pv 7)) (Yd (Za (pv 6) (Za (pv 7) Zd))) rfl)
    (Ze (Yq (pv 4) (pD hu (pv 1) (pv 7)))))
    Zq)))))))
 (Ze (Zo (pv 3))))))),?_⟩
 show let y1:TS:=_;let y2:TS:=Z1 _ y1;let y3:TS:=_;let y4:TS:=Z1 (Ac _ (Z1 _ y2)) y3;let y5:TS:=Z1 _ y4;let y6:TS:=Z1 _ y5;Z1 _ y6 _ _ _;intro y1 y2 y3 y4 y5 y6;have line0:200<sizeLine:=by rw[sizeLine_eq];decide
 intro ld hld;refine⟨_,rfl,Zb,[(inl (p:Int),.non)],rfl,(by show 1<=15;decide),?_⟩;have s0:Same H (upd (upd H ld (.dK [])) ld (.dK (T8 [] [(inl (p:Int),.non)]))):=Xu hld (Zf hld);have q0:upd (upd H ld (.dK [])) ld (.dK (T8 [] [(inl (p:Int),.non)])) ld=some (.dK [((inl (p:Int):Key),V.non)]):=Zb;generalize upd (upd H ld (.dK [])) ld (.dK (T8 [] [(inl (p:Int),.non)]))=H1 at s0 q0;refine⟨_,rfl,sz1,fun ln hln=>?_⟩;have s1:=Zf (o:=.lst [.int p]) hln;have e1:upd H1 ln (.lst [.int p]) ln=some (.lst (Sn [p])):=Zb;have q1:=s1 _ _ q0;have s01:=s0.trans s1;have nln:ld≠ln:=Zg q0 hln;have fln:H ln=none:=s0.free hln;generalize upd H1 ln (.lst [.int p])=H2 at s1 e1 q1 s01;have hbound:∀ line:List Nat,line.Nodup->(∀ c∈line,c<rows.length)->line.length<=rows.length:=fun line nd hc=>by
  have:=nd.length_le_of_subset (l₂:=List.range rows.length) fun c hcc=>zrb.mpr (hc c hcc);rw[zq4] at this;exact this
 refine⟨fun m σ' H'=>∃ (line:List Nat) (dep:Nat->Nat) (fr:Nat->Option (Nat×Int)) (into:List (Key×V)) (dn:Nat) (v6 v7:Option V),m=rows.length-dn/\dn<=line.length/\σ'=[some (.ref l),some (.ref d),some (.int p),some (.ref ld),some (.ref ln),some (.int (dn:Nat)),v6,v7]/\Same H H'/\H' ld=some (.dK into)/\H' ln=some (.lst (Sn line))/\Xd H' into line fr/\Bfs rows gs p line dep/\Done rows gs line dep dn/\Ui rows gs p line dep fr/\(∀ q∈line,q<rows.length)/\∀ here,line[dn]?=some here->∀ x∈line,dep x<=dep here+1,
  ⟨_,[p],fun _=>0,fun _=>none,_,0,_,_,rfl,zqo _,rfl,s01,q1,e1,E4 _ _,Bl rows gs p,fun i q hi=>absurd hi (zrw _),E5,by simpa using hp,fun here _ x _=>zqo _⟩,?_⟩
 rintro m σ Ha ⟨line,dep,fr,into,dn,v6,v7,rfl,hdn,rfl,sa,hda,hna,io,B,Dn,fo,hlt,near⟩;have hll:=hbound _ B.nodup hlt;have hnl:(Sn line).length=line.length:=by unfold Sn;rw[zp3]
 refine⟨_,rfl,_,rfl,ln,_,rfl,.inl (SqL.of hna),_,_,rfl,rfl,_,rfl,?_⟩;rw[hnl];by_cases hlt2:dn<line.length
 ·rw[zp8 (show ((dn:Nat):Int)<(line.length:Nat) by omega)];refine iteT ?_;obtain⟨here,hh⟩:∃ here,line[dn]?=some here:=⟨_,zp5 hlt2⟩;have hhm:=zqf hh;have hhere:=hlt here hhm;have hhv:(Sn line)[dn]?=some (.int (here:Nat)):=by unfold Sn;rw[zqb,hh];rfl
  refine⟨fun σ' H'=>∃ (line:List Nat) (dep:Nat->Nat) (fr:Nat->Option (Nat×Int)) (into:List (Key×V)) (v6 v7:Option V),dn+1<=line.length/\σ'=[some (.ref l),some (.ref d),some (.int p),some (.ref ld),some (.ref ln),some (.int ((dn+1:Nat):Int)),v6,v7]/\Same H H'/\H' ld=some (.dK into)/\H' ln=some (.lst (Sn line))/\Xd H' into line fr/\Bfs rows gs p line dep/\Done rows gs line dep (dn+1)/\Ui rows gs p line dep fr/\(∀ q∈line,q<rows.length)/\∀ here,line[dn+1]?=some here->∀ x∈line,dep x<=dep here+1,
   fun σ' H' ⟨line,dep,fr,into,v6,v7,a1,a2,a3,a4,a5,a6,a7,a8,a9,a10,a11⟩=>⟨rows.length-(dn+1),by omega,line,dep,fr,into,dn+1,v6,v7,rfl,a1,a2,a3,a4,a5,a6,a7,a8,a9,a10,a11⟩,?_⟩
  have hr':rows[here]?=some (rows[here]'hhere):=zp5 hhere;generalize (rows[here]'hhere)=r at hr';obtain⟨lr,e2,e3⟩:=il.getR hr';have hl':(ls.map V.ref)[here]?=some (.ref lr):=by rw[zqb,e2];rfl
  refine⟨_,rfl,_,rfl,ln,_,_,_,rfl,rfl,SqL.of hna,Yw hhv,?_⟩;refine⟨_,rfl,_,_,rfl,rfl,?_⟩;refine⟨_,rfl,_,rfl,l,_,_,_,rfl,rfl,SqL.of (sa _ _ hl),Yw hl',lr,rfl,⟨_,SqL.of (sa _ _ e3)⟩,?_⟩
  let jv2:Nat->L2.St->Hp->Prop:=fun j σ' H'=>∃ (line:List Nat) (dep:Nat->Nat) (fr:Nat->Option (Nat×Int)) (into:List (Key×V)) (v7:Option V),σ'=[some (.ref l),some (.ref d),some (.int p),some (.ref ld),some (.ref ln),some (.int ((dn+1:Nat):Int)),some (.int (here:Nat)),v7]/\Same H H'/\H' ld=some (.dK into)/\H' ln=some (.lst (Sn line))/\Xd H' into line fr/\Bfs rows gs p line dep/\Done rows gs line dep dn/\Ui rows gs p line dep fr/\(∀ q∈line,q<rows.length)/\line[dn]?=some here/\(∀ x∈line,dep x<=dep here+1)/\∀ n∈r.take j,∀ q':Nat,gs[q']?=some (.int n)->q'∈line
  refine Wu (K:=K) (a:=lr) (xs:=r.map V.int) jv2
   ⟨line,dep,fr,into,_,rfl,sa,hda,hna,io,B,Dn,fo,hlt,hh,near here hh,by simp⟩ (fun j σ' H' _ ⟨_,_,_,_,_,_,z,_⟩=>SqL.of (z _ _ e3)) ?_ ?_
  ·rintro j y σ' Hx hy ⟨line,dep,fr,into,w7,rfl,sx,hdx,hnx,io,B,Dn,fo,hlt,hh,near,pr⟩;have hj:j<r.length:=by have:=(zp4.mp hy).1;rw[zp3] at this;exact this
   have hhm:=zqf hh;have hrj:r[j]?=some (r[j]'hj):=zp5 hj;have etk:r.take (j+1)=r.take j++[r[j]'hj]:=zq0 hj;generalize (r[j]'hj)=n at hrj etk;have ey:y=.int n:=by rw[zqb,hrj] at hy;exact(Option.some.inj hy).symm
   subst ey;have hnr:=zqf hrj;have hll:=hbound _ B.nodup hlt;have prev:(∀ q':Nat,gs[q']?=some (.int n)->q'∈line)->∀ m∈r.take (j+1),∀ q':Nat,gs[q']?=some (.int m)->q'∈line:=fun k m hm=>by
    rw[etk] at hm;rcases zqi.mp hm with z|z
    ·exact pr m z
    ·rw[zp9.mp z];exact k
   rcases tk.iff n with ⟨q',hq',hv⟩|⟨hno,hv⟩
   ·by_cases hin:q'∈line
    ·refine Vp (b:=false) (fun Q k=>?_) (iteF (Zv ⟨line,dep,fr,into,_,rfl,sx,hdx,hnx,io,B,Dn,fo,hlt,hh,near,prev fun q2 h2=>by rw[FP.inj q2 q' n h2 hq'];exact hin⟩));refine⟨_,rfl,_,rfl,d,_,rfl,DGet.k (k:=inl n) (sx _ _ hd),_,rfl,?_⟩;rw[hv];refine iteT ⟨_,rfl,_,rfl,d,_,rfl,hv▸DGet.k (k:=inl n) (sx _ _ hd),_,rfl,ld,_,rfl,DGet.k (k:=inl (q':Int)) hdx,_,rfl,?_⟩;rw[(io.has q').mpr hin];exact k
    ·have hnin:(valV into (inl (q':Int):Key)).isSome=false:=by
      rw[Bool.eq_false_iff];exact fun z=>hin ((io.has q').mp z)
     have hq'l:q' < rows.length:=by
      have:=(zp4.mp hq').1;rw[FP.len] at this;exact this
     have ha:adjN rows gs here n q':=⟨⟨r,hr',hnr⟩,hq'⟩;obtain⟨B',old,all⟩:=B.app (dn:=dn) hh near ha hin;refine Vp (b:=true) (fun Q k=>?_) (iteT ?_)
     ·refine⟨_,rfl,_,rfl,d,_,rfl,DGet.k (k:=inl n) (sx _ _ hd),_,rfl,?_⟩;rw[hv];refine iteT ⟨_,rfl,_,rfl,d,_,rfl,hv▸DGet.k (k:=inl n) (sx _ _ hd),_,rfl,ld,_,rfl,DGet.k (k:=inl (q':Int)) hdx,_,rfl,?_⟩;rw[hnin];exact k
     ·refine⟨_,rfl,_,rfl,sz2,fun t ht=>?_⟩;have t1:=Zf (o:=.tup [.int (here:Nat),.int n]) ht;have st:=sx.trans t1;have hdt:=t1 _ _ hdx;have hnt:=t1 _ _ hnx;have et:upd Hx t (.tup [.int (here:Nat),.int n]) t=some (.tup [.int (here:Nat),.int n]):=Zb;have iot:=io.same t1;generalize upd Hx t (.tup [.int (here:Nat),.int n])=Ht at t1 st hdt hnt et iot;refine⟨_,rfl,_,rfl,_,rfl,d,_,rfl,hv▸DGet.k (k:=inl n) (st _ _ hd),ld,_,rfl,DPut.k (k:=inl (q':Int)) hdt ?_,?_⟩
      ·have:=io.len;omega
      have sd:Same H (upd Ht ld (.dK (putK into (inl (q':Int)) (.ref t)))):=Xu hld st;have ed:upd Ht ld (.dK (putK into (inl (q':Int)) (.ref t))) ld=some (.dK (putK into (inl (q':Int)) (.ref t))):=Zb;have en:upd Ht ld (.dK (putK into (inl (q':Int)) (.ref t))) ln=some (.lst (Sn line)):=by rw[Zh (Ne.symm nln)];exact hnt
      have iod:Xd (upd Ht ld (.dK (putK into (inl (q':Int)) (.ref t)))) (putK into (inl (q':Int)) (.ref t)) (line++[q']) (Nf fr q' (here,n)) :=
       (iot.app hin et).mono fun c xs e=>by rw[Zh (Z9 e hdt (fun z=>nomatch z))];exact e
      generalize upd Ht ld (.dK (putK into (inl (q':Int)) (.ref t)))=Hd at sd ed en iod;have hsz:(Sn line).length<sizeLine:=by unfold Sn;rw[zp3];omega
      refine⟨_,rfl,ln,_,rfl,en,_,rfl,_,rfl,d,_,rfl,hv▸DGet.k (k:=inl n) (sd _ _ hd),_,en,hsz,line++[q'],Wz dep q' (dep here+1),Nf fr q' (here,n),putK into (inl (q':Int)) (.ref t),_,rfl,Xu fln sd,?_,?_,?_,B',Dn.app ?_ ⟨_,rfl⟩ old,fo.app hin B.memp hhm ha,?_,?_,?_,?_⟩
      ·rw[Zh nln];exact ed
      ·rw[Zb];unfold Sn;rw[zqg];rfl
      ·exact iod.mono fun c xs e=>by rw[Zh (Z9 e en (fun z=>nomatch z))];exact e
      ·have:=(zp4.mp hh).1;omega
      ·intro q hq;rcases zqi.mp hq with z|z
       ·exact hlt q z
       ·rw[zp9.mp z];exact hq'l
      ·rw[zqw (zp4.mp hh).1];exact hh
      ·intro x hx;rw[old here hhm];exact all x hx
      ·intro m hm q2 h2;rw[etk] at hm;rcases zqi.mp hm with z|z
       ·exact zqv _ (pr m z q2 h2)
       ·rw[zp9.mp z] at h2;rw[FP.inj q2 q' n h2 hq'];exact zqq _ (zp9.mpr rfl)
   ·refine Vp (b:=false) (fun Q k=>?_) (iteF (Zv ⟨line,dep,fr,into,_,rfl,sx,hdx,hnx,io,B,Dn,fo,hlt,hh,near,prev fun q2 h2=>absurd h2 (hno q2)⟩));refine⟨_,rfl,_,rfl,d,_,rfl,DGet.k (k:=inl n) (sx _ _ hd),_,rfl,?_⟩;rw[hv];exact iteF k
  ·rintro σ' Hx ⟨line,dep,fr,into,w7,rfl,sx,hdx,hnx,io,B,Dn,fo,hlt,hh,near,pr⟩;rw[zp3,zqz] at pr;have hlt3:=(zp4.mp hh).1;refine⟨line,dep,fr,into,_,_,by omega,rfl,sx,hdx,hnx,io,B,fun i q hi hq n q' ha=>?_,fo,hlt,fun here2 hh2 x hx=>?_⟩
   ·by_cases e:i=dn
    ·rw[e,hh] at hq;cases hq;obtain⟨⟨r2,h1,h2⟩,h3⟩:=ha;rw[hr'] at h1;cases h1;have hm:=pr n h2 q' h3;exact⟨hm,near q' hm⟩
    ·exact Dn i q ⋯ hq n q' ha
   ·have:=B.sorted dn (dn+1) here here2 ⋯ hh hh2;have:=near x hx;omega
 ·rw[zqd (show ¬ (((dn:Nat):Int)<(line.length:Nat)) by omega)];refine iteF ⟨_,rfl,?_⟩;have e:dn=line.length:=by omega
  subst e;exact h ld into line dep fr Ha hda io B Dn fo hlt sa hld
abbrev Us:Stmt:=top 44
theorem So:Zm ["numbers","taken","number"] ["numbers","taken"] (Zj Us):=fnS
theorem Nu(F:Fun K "free_referee" "free_referee" Us f fd)(T:Tx K mg a):FnOk P w K mg base (CX1 P w) 1 f fd ["numbers","taken"] (Jo K):=by
 refine F.okX So ⋯ fun _ _ _ _ H _ Q E hr h=>?_;obtain⟨l,d,r,kvs,rfl,hl,hd,h⟩:=h;have hu:=Ws hr;refine⟨_,(Zc (Wi PassesOwn.leaving rfl (Yv (K:=K) rfl (pv 0)) (pN 2 So.nd)
  (Ze (Zz (Qh (Oa hu (pv 2) (pv 1)))
   (Ze (Zo (pv 2)))
   Zq)))
 (Ze (Zo Xw))),?_⟩
 let jv3:Nat->L2.St->Hp->Prop:=fun i σ' H'=>(∃ u,σ'=[some (.ref l),some (.ref d),u])/\H'=H/\∀ n∈r.take i,(valV kvs (inl n:Key)).isSome=true
 refine⟨_,rfl,l,rfl,⟨_,SqL.of hl⟩,Wu (xs:=r.map V.int) jv3
  ⟨⟨none,rfl⟩,rfl,by simp⟩ (fun i σ' H' hi p=>by rw[p.2.1];exact SqL.of hl) (fun i x σ' H' hx p=>?_) (fun σ' H' p=>?_)⟩
 ·obtain⟨⟨u,rfl⟩,rfl,hp⟩:=p;have hi:i<r.length:=by have:=(zp4.mp hx).1;rw[zp3] at this;exact this
  have e:x=.int (r[i]'hi):=by
   rw[zqb,zp5 hi] at hx;exact(Option.some.inj hx).symm
  subst e;refine Vp (b:=!(valV kvs (inl (r[i]'hi):Key)).isSome) (fun Q k=>⟨_,rfl,_,rfl,d,_,rfl,DGet.k (k:=inl (r[i]'hi)) hd,_,rfl,k⟩) ?_;cases hv:valV kvs (inl (r[i]'hi):Key) with
  | none=>exact iteT ⟨_,rfl,h (some (r[i]'hi)) (fun n hn=>by cases hn;exact⟨zq7 hi,hv⟩) (fun z=>nomatch z)⟩
  | some y =>
    refine iteF (Zv ⟨⟨_,rfl⟩,rfl,fun n hn=>?_⟩);rw[zq0 hi] at hn;rcases zqi.mp hn with z|z
    ·exact hp n z
    ·rw[zp9.mp z,hv];rfl
 ·obtain⟨⟨u,rfl⟩,rfl,hp⟩:=p;rw[zp3,zqz] at hp;exact h none (fun n z=>nomatch z) fun _=>hp
abbrev Lw:Stmt:=top 45
theorem Rx:Zm ["into","place","number","steps","step"] ["into","place","number"] (Zj Lw):=fnS
theorem B4(F:Fun K "traced" "traced" Lw f fd)(T:Tx K mg a):FnOk P w K mg base (CX1 P w) 1 f fd ["into","place","number"] (G9 K):=by
 refine F.okX Rx ⋯ fun _ _ _ _ H _ Q E hr h=>?_;obtain⟨t,q,p,w,rows,gs,into,line,dep,fr,rfl,ht,io,fo,d0,hp,hq,hdq,h⟩:=h;have hu:=Ws hr;refine⟨_,(Zc (pS 3 Rx.nd (Z4 (Za (Yd (Za (pv 1) (Za (pv 2) Zd))) Zd)))
 (Zc (pS 4 Rx.nd (pD hu (pv 0) (pv 1)))
 (Zc (Gj PassesOwn.leaving (Zp Pd (pv 4) Xw (Zr _))
  (Zc (Yq (pv 3) (pv 4))
  (Ze (pS 4 Rx.nd (pD hu (pv 0) (pI (iU K) (pv 4) Zi))))))
 (Zc (Zy (Ik PySem.F.plainAttrs_list PySem.F.slot_list_reverse PySem.F.type_list_reverse Eu (pv 3)))
 (Ze (Zo (pv 3))))))),?_⟩
 have line0:200<sizeLine:=by rw[sizeLine_eq];decide
 have get:∀ {H':Hp},Same H H'->∀ k:Nat,DGet H' t (.int (k:Nat)) (valV into (inl (k:Int):Key)):=fun {H'} hs k=>.inl ⟨into,inl (k:Int),ht.imp (hs _ _) (fun ⟨o,e⟩=>⟨o,hs _ _ e⟩),rfl,rfl⟩;have fr0:∀ c∈line,fr c=none->c=p:=fun c hc hf=>by
  by_cases e:c=p
  ·exact e
  ·obtain⟨par,n,h1,_⟩:=fo.2 c hc e;rw[hf] at h1;cases h1
 have some_of:∀ c∈line,∃ v,valV into (inl (c:Int):Key)=some v:=fun c hc=>zrc.mp ((io.has c).mpr hc);refine⟨_,rfl,_,rfl,sz2,fun m hm=>⟨sz1,fun lt hlt=>?_⟩⟩;have s1:=Zf (o:=.tup [.int (q:Nat),oV w]) hm;have e1:upd H m (.tup [.int (q:Nat),oV w]) m=some (.tup (Vf (q,w))):=Zb;generalize upd H m (.tup [.int (q:Nat),oV w])=H1 at s1 e1 hlt;have s2:=Zf (o:=.lst [V.ref m]) hlt;have e2:upd H1 lt (.lst [V.ref m]) lt=some (.lst [V.ref m]):=Zb;have e3:=s2 _ _ e1;have s3:=s1.trans s2;have hltn:H lt=none:=s1.free hlt;generalize upd H1 lt (.lst [V.ref m])=H2 at s2 e2 e3 s3;obtain⟨v0,hv0⟩:=some_of q hq;refine⟨_,rfl,_,rfl,t,v0,rfl,hv0▸get s3 q,?_⟩;refine⟨fun mm σ' H'=>∃ (cur:Nat) (st:List (Nat×Option Int)) (ts:List V) (v:V),mm=dep cur/\cur∈line/\valV into (inl (cur:Int):Key)=some v/\σ'=[some (.ref t),some (.int (q:Nat)),some (oV w),some (.ref lt),some v]/\Same H H'/\H' lt=some (.lst ts)/\Z0 H' ts (st.reverse.map Vf)/\Ch rows gs cur st q w/\st.length+dep cur=dep q+1,
  ⟨_,q,[(q,w)],_,v0,rfl,hq,hv0,rfl,s3,e2,.cons e3 .nil,.one q w,by show 1+dep q=_;omega⟩,?_⟩
 rintro mm σ' Ha ⟨cur,st,ts,v,rfl,hc,hv,rfl,sa,hta,htl,hch,hlen⟩;have htsl:ts.length=st.length:=by have:=htl.length;rw[zp3,List.length_reverse] at this;exact this
 refine⟨_,rfl,rfl,_,rfl,?_⟩;cases hf:fr cur with
 | none =>
   have hcp:=fr0 cur hc hf;subst hcp;have hvn:=io.none cur hc hf;rw[hv] at hvn;cases hvn;refine iteF ?_;refine⟨_,rfl,.inl ⟨rfl,_,SqL.of hta⟩,lt,ts,rfl,rfl,hta,_,rfl,?_⟩;refine h lt ts.reverse st _ Zb ?_ hch ⋯ (Xu hltn sa) hltn;have hr:=htl.reverse;rw[<- List.map_reverse,List.reverse_reverse] at hr;exact hr.mono fun c xs e=>by rw[Zh (Z9 e hta (fun z=>nomatch z))];exact e
 | some x =>
   obtain⟨par,n⟩:=x;obtain⟨tt,h1,h2⟩:=io.some cur hc par n hf;rw[hv] at h1;cases h1;have hcp:cur≠p:=fun z=>by rw[z,fo.1] at hf;cases hf
   obtain⟨par',n',h3,h4,h5,h6⟩:=fo.2 cur hc hcp;rw[hf] at h3;cases h3;obtain⟨v',hv'⟩:=some_of par h4;refine iteT ?_;refine⟨fun σ' H'=>∃ (st:List (Nat×Option Int)) (ts:List V),σ'=[some (.ref t),some (.int (q:Nat)),some (oV w),some (.ref lt),some v']/\Same H H'/\H' lt=some (.lst ts)/\Z0 H' ts (st.reverse.map Vf)/\Ch rows gs par st q w/\st.length+dep par=dep q+1,
    fun σ' H' ⟨st,ts,a1,a2,a3,a4,a5,a6⟩=>⟨dep par,by omega,par,st,ts,v',rfl,h4,hv',a1,a2,a3,a4,a5,a6⟩,?_⟩
   have s4:Same H (upd Ha lt (.lst (ts++[V.ref tt]))):=Xu hltn sa;refine⟨_,rfl,lt,_,rfl,hta,_,rfl,_,hta,by omega,?_⟩;refine⟨_,rfl,_,rfl,tt,_,_,_,rfl,rfl,SqT.of (s4 _ _ h2),rfl,t,v',rfl,hv'▸get s4 par,(par,some n) :: st,ts++[V.ref tt],rfl,s4,Zb,?_,.step h5 hch,?_⟩
   ·rw[zrq,zqg];exact(htl.mono fun c xs e=>by rw[Zh (Z9 e hta (fun z=>nomatch z))];exact e).snoc (s4 _ _ h2)
   ·rw[zqs];omega
abbrev Ga:Stmt:=top 46
theorem Rc:Zm ["may","given","place","taken","into","reached","number"] ["may","given","place"] (Zj Ga):=fnS
theorem zbo(F:Fun K "chain" "chain" Ga f fd)(T:Tx K mg a)(zkv:Yi P w K mg base "places_taken" 1 ["given"] (D8 K))(zln:Yi P w K mg base "steps_into" 1 ["may","taken","start"] (zay K))(zk0:Yi P w K mg base "free_referee" 1 ["numbers","taken"] (Jo K))(zma:Yi P w K mg base "traced" 1 ["into","place","number"] (G9 K)):FnOk P w K mg base (CX1 P w) 2 f fd ["may","given","place"] (Hi K):=by
 refine F.okX Rc ⋯ fun _ _ _ _ H _ Q E hr h=>?_;obtain⟨l,lg,ls,rows,nu,gs,p,rfl,hl,il,mo,hg,FP,hp,hgp,h⟩:=h;refine⟨_,(Zc (pS 3 Rc.nd (pF zkv hr (Za (pv 1) Zd)))
 (Zc (pS 4 Rc.nd (pF zln hr (Za (pv 0) (Za (pv 3) (Za (pv 2) Zd)))))
 (Zc (Wi PassesOwn.leaving rfl (zck (pv 4)) (pN 5 Rc.nd)
  (Zc (pS 6 Rc.nd (pF zk0 hr (Za (pI (iL K) (pv 0) (pv 5)) (Za (pv 3) Zd))))
  (Ze (Zz (Zp Pd (pv 6) Xw (Zr _))
   (Ze (Zo (pF zma hr (Za (pv 4) (Za (pv 5) (Za (pv 6) Zd))))))
   Zq))))
 (Ze (Zo (pF zma hr (Za (pv 4) (Za (Zs (Bo rfl) (by rfl) T.znv PyProof.Rows.boot_max (Za (pv 4) Zd)) (Za Xw Zd))))))))),?_⟩
 have hrl:rows.length<=100:=zqr mo.few ⋯;refine⟨_,rfl,lg,gs,rfl,hg,FP.one,FP.inj,by rw[FP.len];exact hrl,fun d kvs H1 hd1 tk s1 hdn=>?_⟩;refine⟨_,rfl,_,rfl,_,rfl,l,d,ls,rows,kvs,gs,p,rfl,s1 _ _ hl,il.same s1,hrl,hd1,tk,FP,hp,fun t into line dep fr H2 ht io B Dn fo hlt s2 htn=>?_⟩;have hbound:line.length<=rows.length:=by
  have:=B.nodup.length_le_of_subset (l₂:=List.range rows.length) fun c hcc=>zrb.mpr (hlt c hcc);rw[zq4] at this;exact this
 have hd2:=s2 _ _ hd1;have s02:=s1.trans s2;have hfree:∀ q n,(∃ r,rows[q]?=some r/\n∈r)->valV kvs (inl n:Key)=none->Qo rows gs q n:=fun q n hr hv=>⟨hr,fun j hj=>by rw[tk.has n j hj] at hv;cases hv⟩
 have hdep:∀ q∈line,dep q<=100:=fun q hq=>by
  obtain⟨pre,hc,hlp⟩:=fo.back B.d0 (dep q) q q none [(q,none)] rfl hq (.one q none);have nd:=hc.nodup fun k hk=>by
   rw[zp6,hlp];have:=(B.full Dn hk).2;show dep q+1<=k+1;omega
  have hlt':=hc.lt FP hp;have:=nd.length_le_of_subset (l₂:=List.range rows.length) fun x hx=>by
   obtain⟨s,hs,rfl⟩:=zqh.mp hx;exact zrb.mpr (hlt' s hs)
  rw[zp3,zq4,zp6,hlp] at this;omega
 have htH:H t=none:=s1.free htn;refine⟨_,rfl,t,into,rfl,ht,fun o=>?_⟩;have e0:upd H2 t (.frz o (.dK into)) t=some (.frz o (.dK into)):=Zb;have s3:Same H (upd H2 t (.frz o (.dK into))):=Xu htH s02;have hd3:upd H2 t (.frz o (.dK into)) d=some (.dK kvs):=by rw[Zh (Zg hd1 htn)];exact hd2
 have io3:Xd (upd H2 t (.frz o (.dK into))) into line fr:=io.mono fun c xs e=>by rw[Zh (Z9 e ht (fun z=>nomatch z))];exact e
 generalize upd H2 t (.frz o (.dK into))=H3 at e0 s3 hd3 io3;have hil:into.length=line.length:=io.len;have key:∀ (i:Nat) (k:Key) (v:V),into[i]?=some (k,v)->∃ q:Nat,line[i]?=some q/\k=inl (q:Int):=fun i k v e=>by
  have:=congrArg (·[i]?) io.keys;simp only[zqb,e,zq6] at this;cases hq:line[i]? with
  | none=>rw[hq] at this;cases this
  | some q=>rw[hq] at this;exact⟨q,rfl,Option.some.inj this⟩
 let jv4:Nat->L2.St->Hp->Prop:=fun i σ' H'=>(∃ u v,σ'=[some (.ref l),some (.ref lg),some (.int p),some (.ref d),some (.ref t),u,v])/\H'=H3/\∀ (j q:Nat),j<i->line[j]?=some q->¬ V4 rows gs q
 refine zav (a:=t) (o:=o) (kvs:=into) jv4 ⟨⟨none,none,rfl⟩,rfl,fun j q hj=>absurd hj (zrw _)⟩ (fun i σ' H' _ p=>by rw[p.2.1];exact e0) (fun i k v σ' H' hk hP=>?_) (fun σ' H' hP=>?_)
 ·obtain⟨⟨u,v',rfl⟩,rfl,hno⟩:=hP;obtain⟨q,hq,rfl⟩:=key i k v hk;have hqm:=zqf hq;have hqr:rows[q]?=some (rows[q]'(hlt q hqm)):=zp5 (hlt q hqm);generalize (rows[q]'(hlt q hqm))=r at hqr;obtain⟨lr,e2,e3⟩:=il.getR hqr;have hl':(ls.map V.ref)[q]?=some (.ref lr):=by rw[zqb,e2];rfl
  refine⟨_,rfl,_,rfl,l,_,_,_,rfl,rfl,SqL.of (s3 _ _ hl),Yw hl',_,rfl,lr,d,r,kvs,rfl,s3 _ _ e3,hd3,fun w hw1 hw2=>?_⟩;walk_at "if";refine Vp (b:=!decide (oV w=.non)) (fun Q k=>⟨_,rfl,rfl,_,rfl,k⟩) ?_;cases w with
  | none =>
    refine iteF (Zv ⟨⟨_,_,rfl⟩,rfl,fun j q2 hj hq2=>?_⟩);by_cases e:j=i
    ·rw[e,hq] at hq2;cases hq2;rintro⟨n,⟨r2,h1,h2⟩,h3⟩;rw[hqr] at h1;cases h1;have:=hw2 rfl n h2;rw[tk.not n h3] at this;cases this
    ·exact hno j q2 ⋯ hq2
  | some n =>
    obtain⟨hn1,hn2⟩:=hw1 n rfl;refine iteT ⟨_,rfl,_,rfl,_,rfl,t,q,p,some n,rows,gs,into,line,dep,fr,rfl,.inr ⟨o,e0⟩,io3,fo,B.d0,B.memp,hqm,hdep q hqm,fun lt ts st H4 h1 h2 h3 h4 s4 hltn=>?_⟩;have hf:=hfree q n ⟨r,hqr,hn1⟩ hn2;have Di:Done rows gs line dep i:=fun j x hj=>Dn j x (Nat.lt_trans hj (zp4.mp hq).1);exact h lt ts st q (some n) H4 h1 h2 (Ez B Di hq hno hf h3 h4) (s3.trans s4) (s3.free hltn)
 ·obtain⟨⟨u,v',rfl⟩,rfl,hno⟩:=hP;have hpos:0<line.length:=List.length_pos_of_mem B.memp;refine⟨_,rfl,⟨_,rfl,t,into,line.map fun q:Nat=>(q:Int),rfl,.inr ⟨o,e0⟩,by rw[io.keys,zrj];rfl,by rw[zp3];exact hpos,fun M hM hmax=>?_⟩⟩;obtain⟨e,he,rfl⟩:=zqh.mp hM;refine⟨t,e,p,none,rows,gs,into,line,dep,fr,rfl,.inr ⟨o,e0⟩,io3,fo,B.d0,B.memp,he,hdep e he,fun lt ts st H4 h1 h2 h3 h4 s4 hltn=>?_⟩;refine h lt ts st e none H4 h1 h2 (E2 B Dn (fun q hq=>?_) (fun q hq=>?_) h3 h4) (s3.trans s4) (s3.free hltn)
  ·obtain⟨j,hj,e2⟩:=zrg hq;exact hno j q ⋯ (by rw[zp5 hj,e2])
  ·have:=hmax _ (zqh.mpr ⟨q,hq,rfl⟩);omega
abbrev Oy:Stmt:=top 47
theorem Sh:Zm ["given","steps","behind","place","number"] ["given","steps"] (Zj Oy):=fnS
theorem Df(F:Fun K "stepped" "stepped" Oy f fd)(T:Tx K mg a):FnOk P w K mg base (CX1 P w) 1 f fd ["given","steps"] (Og K):=by
 refine F.okX Sh ⋯ fun _ _ _ _ H _ Q E hr h=>?_;obtain⟨b,c,xs,ts,st,rfl,hb,hc,ht,hst,ho,hl,hls,h⟩:=h;refine⟨_,(Zc (pS 2 Sh.nd (Yt (Xt (K:=K) rfl) (by rfl) T.zjv PyProof.Rows.boot_list (Za (pv 0) Zd)))
 (Zc (Wi PassesOwn.leaving rfl (Yv (K:=K) rfl (pv 1)) (V3 (K:=K) (n:=2) rfl rfl (Z8 (pN 3 Sh.nd) (Z8 (pN 4 Sh.nd) V2)))
  (Ze (Ab (pv 4) (zdr (pv 2) (pv 3) Az))))
 (Ze (Zo (pv 2))))),?_⟩
 have htl:ts.length=st.length:=by have:=ht.length;rw[zp3] at this;exact this
 refine⟨_,rfl,b,_,rfl,.inl (SqL.of hb),fun l hln=>?_⟩
 let jv5:Nat->L2.St->Hp->Prop:=fun i σ' H'=>(∃ u v,σ'=[some (.ref b),some (.ref c),some (.ref l),u,v])/\H' l=some (.lst (Ym (st.take i) xs))/\(∀ a o,H a=some o->H' a=some o)
 refine⟨_,rfl,c,rfl,⟨ts,SqL.of (Zf hln _ _ hc)⟩,Wu (xs:=ts) jv5 ⟨⟨none,none,rfl⟩,Zb,Zf hln⟩ (fun i σ' H' hi p=>SqL.of (p.2.2 _ _ hc)) (fun i x σ' H' hx p=>?_) (fun σ' H' p=>?_)⟩
 ·obtain⟨⟨u,v,rfl⟩,hl2,hs⟩:=p;have hi:i<st.length:=by rw[<- htl];exact(zp4.mp hx).1
  obtain⟨t,e1,e2⟩:=zf7 ht (zp5 hi);rw[hx] at e1;cases e1;refine⟨t,_,rfl,SqT.of (hs _ _ e2),rfl,_,_,rfl,_,_,rfl,rfl,?_⟩;have hlen:(Ym (st.take i) xs).length=xs.length:=Xp _ _;have hp:(st[i]'hi).1<xs.length:=hst _ (zq7 hi);have e3:Ym (st.take (i+1)) xs=(Ym (st.take i) xs).set (st[i]'hi).1 (oV (st[i]'hi).2):=by
   rw[zq0 hi,Jn];rfl
  refine⟨_,rfl,_,rfl,_,rfl,l,_,_,(st[i]'hi).1,rfl,rfl,hl2,(show ixN _ (((st[i]'hi).1:Nat):Int)=some _ by unfold ixN;rw[if_pos ⋯,if_pos ⋯,zq5]),⟨_,_,rfl⟩,?_,fun a o q=>?_⟩
  ·rw[e3];exact Zb
  ·rw[Zh (Zg q hln)];exact hs a o q
 ·obtain⟨⟨u,v,rfl⟩,hl2,hs⟩:=p;rw[htl,zqz] at hl2;exact⟨_,rfl,h l H' hl2 hs hln⟩
abbrev Dg:Stmt:=top 49
theorem Mg:Zm ["may","given","place"] ["may"] (Zj Dg):=fnS
theorem zc0(F:Fun K "fill" "fill" Dg f fd)(T:Tx K mg a)(zj5:Yi P w K mg base "stepped" 1 ["given","steps"] (Og K))(zly:Yi P w K mg base "chain" 2 ["may","given","place"] (Hi K)):FnOk P w K mg base (CX1 P w) 3 f fd ["may"] (zan K):=by
 refine F.okX Mg ⋯ fun _ _ _ _ H _ Q E hr h=>?_;obtain⟨l,ls,rows,nu,rfl,hl,il,mo,h⟩:=h;refine⟨_,(Zc (Ni (i:=1) Mg.nd rfl rfl rfl (cT [] []) (Yv (K:=K) rfl (pv 0)) (fun _ _ _ _ _=>U3) (fun _ _ _ _ _=>Xw))
 (Zc (Wi PassesOwn.leaving rfl (Ua rfl T.zjq (Za (Zs (cL K) (by rfl) T.zjl PySem.boot_len (Za (pv 0) Zd)) Zd)) (pN 2 Mg.nd)
  (Ze (pS 1 Mg.nd (pF zj5 hr (Za (pv 1) (Za (pF zly hr (Za (pv 0) (Za (pv 1) (Za (pv 2) Zd)))) Zd))))))
 (Ze (Zo (pv 1))))),?_⟩
 have hlen:=il.length;have hrl:rows.length<=100:=zqr mo.few ⋯;refine⟨_,rfl,l,rfl,⟨_,SqL.of hl⟩,?_⟩;refine Tu (K:=K) (a:=l) (xs:=ls.map V.ref) (fun i ys H'=>H'=H/\ys=(rows.take i).map fun _=>V.non) ⟨rfl,by simp⟩ (fun i ys H' _ z=>by rw[z.1];exact SqL.of hl) (szN (by rw[zp3];omega)) (fun i ys H' z=>by rw[z.2,zp3,List.length_take];omega) ?_ ?_
 ·rintro i x ys H' hx ⟨rfl,rfl⟩;have hi:i<rows.length:=by
   have:=(zp4.mp hx).1;rw[zp3] at this;omega
  unfold tYes;dsimp only;rw[if_pos rfl];refine⟨rfl,?_⟩;rw[zq0 hi,zqg];rfl
 ·rintro ys H' ⟨rfl,rfl⟩ lg hlg;rw[zp3,hlen,zqz];have s1:=Zf (o:=.lst (rows.map fun _=>V.non)) hlg;have e1:upd H' lg (.lst (rows.map fun _=>V.non)) lg=some (.lst (rows.map fun _=>V.non)):=Zb;generalize upd H' lg (.lst (rows.map fun _=>V.non))=H1 at s1 e1;refine⟨_,rfl,l,_,rfl,.inl (SqL.of (s1 _ _ hl)),_,rfl,by omega,by rw[zp3];omega,?_⟩;rw[zp3,hlen,zq5]
  let jv6:Nat->L2.St->Hp->Prop:=fun i σ' Hx=>∃ (lg:Addr) (gs:List V) (v2:Option V),σ'=[some (.ref l),some (.ref lg),v2]/\Same H' Hx/\Hx lg=some (.lst gs)/\V5 rows gs i/\H' lg=none
  refine Rn jv6 ⟨lg,_,_,rfl,s1,e1,Ko rows,hlg⟩ ?_ ?_
  ·rintro i σ' Hx hi ⟨lg,gs,v2,rfl,sx,hgx,F,hn⟩;rw[zru];refine⟨_,rfl,⟨_,rfl,_,rfl,_,rfl,l,lg,ls,rows,nu,gs,i,rfl,sx _ _ hl,il.same sx,mo,hgx,F.fill,hi,F.non (zqa _) hi,fun lt ts st e w H2 h1 h2 c s2 hltn=>?_⟩⟩;refine⟨lg,lt,gs,ts,st,rfl,s2 _ _ hgx,h1,h2,fun s hs=>?_,F.fill.one,by rw[F.fill.len];omega,?_,fun l' H3 h3 s3 hl'=>?_⟩
   ·rw[F.fill.len];exact c.ch.lt F.fill hi s hs
   ·have:=c.len F.fill hi;omega
   ·exact⟨l',_,_,rfl,(sx.trans s2).trans s3,h3,F.step hi c,(sx.trans s2).free hl'⟩
  ·rintro σ' Hx ⟨lg,gs,v2,rfl,sx,hgx,F,hn⟩;exact⟨_,rfl,h lg gs Hx hgx F.fill F.last sx hn⟩
abbrev Q5:Stmt:=top 50
theorem F6:Zm ["given","number"] ["given","number"] (Zj Q5):=fnS
theorem F7(F:Fun K "place_of" "place_of" Q5 f fd)(T:Tx K mg a):FnOk P w K mg base (CX1 P w) 1 f fd ["given","number"] (Jl K):=by
 refine F.okX F6 ⋯ fun _ _ _ _ H _ Q E hr h=>?_;obtain⟨b,xs,n,rfl,hb,ho,hl,h⟩:=h;refine⟨_,(Ze (Zo (Gi (Zp (Mw (K:=K) rfl) (pv 1) (pv 0) (by with_unfolding_all rfl)) (A0 PySem.F.plainAttrs_list PySem.F.slot_list_index PySem.F.type_list_index zaq (pv 0) (Za (pv 1) Zd)) Xw))),?_⟩;have fl:xs.all Ts=true:=List.all_eq_true.mpr fun x hx=>by rcases ho x hx with rfl|⟨_,rfl⟩<;>rfl
 refine⟨_,rfl,_,rfl,b,xs,rfl,.inl (SqL.of hb),rfl,fl,_,rfl,?_⟩;have key:=@zar xs n ho;show if inV (V.int n) xs=true then _ else _
 cases hp:X2 xs n with
 | none =>
   rw[hp] at h;have hno:¬ inV (V.int n) xs=true:=fun z=>by
    obtain⟨j,hj⟩:=key.mp z;have:=List.find?_eq_none.mp hp j (zrb.mpr (zp4.mp hj).1);exact this (zp8 hj)
   rw[if_neg hno];exact h H (Same.refl H)
 | some j =>
   rw[hp] at h;obtain⟨h1,h2,h3⟩:=List.find?_range_eq_some.mp hp;have hj:xs[j]?=some (.int n):=of_decide_eq_true h1;rw[if_pos (key.mpr ⟨j,hj⟩)];refine⟨_,rfl,?_,_,rfl,b,xs,.int n,j,rfl,rfl,hb,rfl,fl,⟨_,hj,(Mc (.inr ⟨_,rfl⟩)).mpr rfl⟩,fun m z hm hz=>?_,h H (Same.refl H)⟩
   ·exact .inl ⟨rfl,xs,SqL.of hb⟩
   ·have:=h3 m hm;have hne:¬ z=.int n:=fun q=>by
     rw[q] at hz;rw[zp8 hz] at this;cases this
    cases hb2:eqV z (.int n) with
    | false=>rfl
    | true=>exact absurd ((Mc (ho z (zqf hz))).mp hb2) hne
abbrev Vk:Stmt:=Zx (top 52) 0
theorem Px:Zm ["self","listed","lists","given","gaps"] ["self","listed","lists","given","gaps"] (Zj Vk):=fnS
theorem Py(F:Fun K "__init__" "Sheet.__init__" Vk f fd)(T:Tx K mg a):FnOk P w K mg base (CX1 P w) 1 f fd ["self","listed","lists","given","gaps"] (Pq (ca a)):=by
 refine F.okX Px ⋯ fun _ _ _ _ H _ Q E hr h=>?_;obtain⟨q,dx,l1,l2,l3,l4,rfl,hq,h⟩:=h;refine⟨_,(Zc (Yr (K:=K) rfl (pv 0) (pv 1) rfl)
 (Zc (Yr (K:=K) rfl (pv 0) (pv 2) rfl)
 (Zc (Yr (K:=K) rfl (pv 0) (pv 3) rfl)
 (Ze (Yr (K:=K) rfl (pv 0) (pv 4) rfl))))),?_⟩
 refine⟨_,rfl,_,rfl,q,a.zh1,dx,[],rfl,hq,T.zir,T.zjy,⋯,?_⟩;refine⟨_,rfl,_,rfl,q,a.zh1,dx,[("listed",.ref l1)],rfl,Zb,T.zir,T.zl8,(by show 1<1000;decide),?_⟩;rw[zhb];refine⟨_,rfl,_,rfl,q,a.zh1,dx,_,rfl,Zb,T.zir,T.zj9,(by show 2<1000;decide),?_⟩;rw[zhc];refine⟨_,rfl,_,rfl,q,a.zh1,dx,_,rfl,Zb,T.zir,T.zlv,(by show 3<1000;decide),?_⟩;rw[zhd];refine h _ ?_;rw[N8,N8,N8];rfl
abbrev Ut:Stmt:=Zx (top 52) 1
theorem Nv:Zm ["self","lists"] ["self","lists"] (Zj Ut):=fnS
theorem Nw(F:Fun K "barred" "Sheet.barred" Ut f fd)(T:Tx K mg a)(zkm:U6 P w K mg base "Sheet" a.zh1 1 ["self","listed","lists","given","gaps"] (Pq (ca a))):FnOk P w K mg base (CX1 P w) 3 f fd ["self","lists"] (Fh (ca a)):=by
 refine F.okX Nv ⋯ fun _ _ _ _ H _ Q E hr h=>?_;obtain⟨ok,q,l2,ls,rows,s,rfl,SA,hl2,il,ok2,okl,no,h⟩:=h;refine⟨_,(Ze (Zo (Ip zkm (hr.mono ⋯) Zk rfl (Za (Zn (K:=K) rfl (pv 0) rfl) (Za (pv 1) (Za (Zn (K:=K) rfl (pv 0) rfl) (Za (Zn (K:=K) rfl (pv 0) rfl) Zd))))))),?_⟩;obtain⟨dx,m1,m2,m3,m4,ts,ms,gts,a1,a2,a3,a4,a5,a6,a7,a8,o1,o2,o3,o4,o5,o6⟩:=id SA;refine⟨_,rfl,q,a.zh1,dx,_,_,rfl,a1,T.zir,T.zjy,Rv,_,rfl,_,rfl,q,a.zh1,dx,_,_,rfl,a1,T.zir,T.zj9,S6,_,rfl,q,a.zh1,dx,_,_,rfl,a1,T.zir,T.zlv,Hk,?_⟩;intro q' dx' hq' hdx' ne;refine⟨q',dx',m1,l2,m3,m4,rfl,Zb,fun H' e=>⟨rfl,?_⟩⟩;obtain⟨s1,q1⟩:=Qt (C:=a.zh1) (l1:=m1) (l2:=l2) (l3:=m3) (l4:=m4) hq' hdx' ne;rw[<- e] at s1 q1;exact h q' H' ⟨dx',m1,l2,m3,m4,ts,ls,gts,q1,s1 _ _ a2,a3.same s1,s1 _ _ hl2,il.same s1,s1 _ _ a6,s1 _ _ a7,a8.keep (fun _ _ _ z=>s1 _ _ z) (fun _ _ z=>s1 _ _ z),no _ hq',o2,ok2,o4,o5,okl⟩ s1 hq'
abbrev Wo:Stmt:=Zx (top 52) 2
theorem Xf:Zm ["self","number","lists","place","gap","steps"] ["self","number","lists"] (Zj Wo):=fnS
theorem R4(F:Fun K "fallen_out" "Sheet.fallen_out" Wo f fd)(T:Tx K mg a)(zi9:Zt P w K mg base a.zh1 "where" 2 ["self","number"] (Oh (ca a)))(zj5:Yi P w K mg base "stepped" 1 ["given","steps"] (Og K))(zly:Yi P w K mg base "chain" 2 ["may","given","place"] (Hi K))(zkm:U6 P w K mg base "Sheet" a.zh1 1 ["self","listed","lists","given","gaps"] (Pq (ca a))):FnOk P w K mg base (CX1 P w) 3 f fd ["self","number","lists"] (Fi (ca a)):=by
 refine F.okX Xf ⋯ fun _ _ _ _ H _ Q E hr h=>?_;obtain⟨ok,q,l2,ls,rows,nu,s,n,p,rfl,SA,hl2,il,ok2,okl,no,mo,ho,hgp,hun,FP,hgz,h⟩:=h;refine⟨_,(Zc (pS 3 Xf.nd (Y8 (pv 0) T.zir zi9 (hr.mono ⋯) Zk (Za (pv 1) Zd)))
 (Zc (pS 4 Xf.nd (pF zj5 hr (Za (Zn (K:=K) rfl (pv 0) rfl) (Za (Z4 (Za (Yd (Za (pv 3) (Za Xw Zd))) Zd)) Zd))))
 (Zc (pS 5 Xf.nd (pF zly hr (Za (pv 2) (Za (pv 4) (Za (pv 3) Zd)))))
 (Ze (Zo (Ip zkm (hr.mono ⋯) Zk rfl (Za (Zn (K:=K) rfl (pv 0) rfl) (Za (pv 2) (Za (pF zj5 hr (Za (pv 4) (Za (pv 5) Zd))) (Za (Z3 Ug (Zn (K:=K) rfl (pv 0) rfl) (Z4 (Za (Yd (Za (pv 1) (Za (pv 5) Zd))) Zd))) Zd)))))))))),?_⟩
 obtain⟨dx,m1,m2,m3,m4,ts,ms,gts,a1,a2,a3,a4,a5,a6,a7,a8,o1,o2,o3,o4,o5,o6⟩:=id SA;have hrl:rows.length<=100:=zqr mo.few ⋯;have hgl:s.gv.length<=100:=by have:=FP.len;rw[zrf] at this;omega
 have hpl:p<s.gv.length:=(zp4.mp hgp).1;have hpr:p<rows.length:=by have:=FP.len;rw[zrf] at this;omega
 have hplace:X2 s.gv n=some p:=by
  unfold X2;rw[List.find?_eq_some_iff_getElem];refine⟨zp8 hgp,p,by rw[zq4];exact hpl,by rw[List.getElem_range],fun j hj=>?_⟩;rw[List.getElem_range,Bool.not_eq_true',decide_eq_false_iff_not];exact fun z=>absurd (hun j z) ⋯
 refine⟨_,rfl,q,dx,_,rfl,a1,Sa ⋯ ⋯ ⋯ ⋯,_,rfl,ok,q,s,n,rfl,SA,ho,hgl,fun H1 s1=>?_⟩;rw[hplace,show oN (some p)=V.int (p:Nat) from rfl];have SA1:=SA.same s1;refine⟨_,rfl,q,a.zh1,dx,_,_,rfl,s1 _ _ a1,T.zir,T.zj9,S6,_,rfl,sz2,fun t1 ht1=>⟨sz1,fun lx hlx=>?_⟩⟩;have s2:=Zf (o:=.tup [.int (p:Nat),.non]) ht1;have q2:upd H1 t1 (.tup [.int (p:Nat),.non]) t1=some (.tup (Vf (p,none))):=Zb;generalize upd H1 t1 (.tup [.int (p:Nat),.non])=H2 at s2 q2 hlx;have s3:=Zf (o:=.lst [V.ref t1]) hlx;have q3:upd H2 lx (.lst [V.ref t1]) lx=some (.lst [V.ref t1]):=Zb;have q23:=s3 _ _ q2;generalize upd H2 lx (.lst [V.ref t1])=H3 at s3 q3 q23;have s13:=s1.trans (s2.trans s3);refine⟨m3,lx,s.gv,[V.ref t1],[(p,none)],rfl,s13 _ _ a6,q3,.cons q23 .nil,fun st hst=>by rw[zp9.mp hst];exact hpl,ho,hgl,by show 1<=100;decide,fun lg H4 hg4 s4 f4=>?_⟩;have s14:=s13.trans s4;have hg4:H4 lg=some (.lst (s.gv.set p .non)):=hg4;refine⟨_,rfl,_,rfl,_,rfl,l2,lg,ls,rows,nu,s.gv.set p .non,p,rfl,s14 _ _ hl2,il.same s14,mo,hg4,FP,hpr,by rw[zq1 hpl],fun lt us st e w H5 hlt tl CR s5 f5=>?_⟩;have s15:=s14.trans s5;have hst100:st.length<=100:=zqr (CR.len FP hpr) hrl;refine⟨_,rfl,q,a.zh1,dx,_,_,rfl,s15 _ _ a1,T.zir,T.zjy,Rv,_,rfl,_,rfl,_,rfl,lg,lt,s.gv.set p .non,us,st,rfl,s5 _ _ hg4,hlt,tl,fun x hx=>?_,FP.one,by rw[FP.len];exact hrl,hst100,fun l3 H6 h6 s6 f6=>?_⟩
 ·rw[FP.len];exact CR.ch.lt FP hpr x hx
 have s16:=s15.trans s6;refine⟨_,rfl,q,a.zh1,dx,_,_,rfl,s16 _ _ a1,T.zir,T.zlv,Hk,_,rfl,_,rfl,sz2,fun t2 ht2=>⟨sz1,fun ly hly=>?_⟩⟩;have s7:=Zf (o:=.tup [.int n,.ref lt]) ht2;have q7:upd H6 t2 (.tup [.int n,.ref lt]) t2=some (.tup [.int n,.ref lt]):=Zb;generalize upd H6 t2 (.tup [.int n,.ref lt])=H7 at s7 q7 hly;have s8:=Zf (o:=.lst [V.ref t2]) hly;have q8:upd H7 ly (.lst [V.ref t2]) ly=some (.lst [V.ref t2]):=Zb;have q78:=s8 _ _ q7;generalize upd H7 ly (.lst [V.ref t2])=H8 at s8 q8 q78;have s18:=s16.trans (s7.trans s8);refine⟨m4,ly,gts,[V.ref t2],rfl,rfl,s18 _ _ a7,q8,by have:=a8.length;show gts.length+1<=sizeLine;have:=Tv;omega,fun l4 hl4=>?_⟩;have s9:=Zf (o:=.lst (gts++[V.ref t2])) hl4;have q9:upd H8 l4 (.lst (gts++[V.ref t2])) l4=some (.lst (gts++[V.ref t2])):=Zb;generalize upd H8 l4 (.lst (gts++[V.ref t2]))=H9 at s9 q9;have s19:=s18.trans s9;intro q' dx' hq' hdx' ne;refine⟨q',dx',m1,l2,l3,l4,rfl,Zb,fun H' e'=>⟨rfl,?_⟩⟩;obtain⟨s10,q10⟩:=Qt (C:=a.zh1) (l1:=m1) (l2:=l2) (l3:=l3) (l4:=l4) hq' hdx' ne;rw[<- e'] at s10 q10;have s:=s19.trans s10;have s6x:=s7.trans (s8.trans (s9.trans s10));have s5x:=s6.trans s6x;refine h q' st e w H' ⟨dx',m1,l2,l3,l4,ts,ls,gts++[V.ref t2],q10,s _ _ a2,a3.same s,s _ _ hl2,il.same s,s6x _ _ h6,s10 _ _ q9,?_,no _ (s19.free hq'),o2,ok2,no _ (s15.free f6),no _ (s18.free hl4),okl⟩ CR s (s19.free hq');exact(a8.keep (fun _ _ _ z=>s _ _ z) (fun _ _ z=>s _ _ z)).snoc ((s9.trans s10) _ _ q78) (s5x _ _ hlt) (tl.same s5x) (no _ (s14.free f5))
abbrev Vy:Stmt:=Zx (top 52) 3
theorem Oz:Zm ["self"] ["self"] (Zj Vy):=fnS
theorem O0(F:Fun K "matches" "Sheet.matches" Vy f fd)(T:Tx K mg a):FnOk P w K mg base (CX1 P w) 1 f fd ["self"] (Ng (ca a)):=by
 refine F.okX Oz ⋯ fun _ _ _ _ H _ Q E hr h=>?_;obtain⟨ok,q,s,rfl,SA,h⟩:=h;refine⟨_,(Ze (Zo (Yt (Xt (K:=K) rfl) (by rfl) T.zjv PyProof.Rows.boot_list (Za (Zn (K:=K) rfl (pv 0) rfl) Zd)))),?_⟩;obtain⟨dx,m1,m2,m3,m4,ts,ms,gts,a1,a2,a3,a4,a5,a6,a7,a8,o1,o2,o3,o4,o5,o6⟩:=id SA;refine⟨_,rfl,q,a.zh1,dx,_,_,rfl,a1,T.zir,T.zjy,Rv,m1,_,rfl,.inl (SqL.of a2),fun l hl=>?_⟩;exact h l ts _ Zb (a3.same (Zf hl)) (Zf hl) hl
abbrev Si:Stmt:=Zx (top 52) 7
theorem Kz:Zm ["self"] ["self"] (Zj Si):=fnS
theorem K0(F:Fun K "goes" "Sheet.goes" Si f fd)(T:Tx K mg a):FnOk P w K mg base (CX1 P w) 1 f fd ["self"] (M9 (ca a)):=by
 refine F.okX Kz ⋯ fun _ _ _ _ H _ Q E hr h=>?_;obtain⟨ok,q,s,rfl,SA,h⟩:=h;refine⟨_,(Ze (Zo (Yt (Xt (K:=K) rfl) (by rfl) T.zjv PyProof.Rows.boot_list (Za (Zn (K:=K) rfl (pv 0) rfl) Zd)))),?_⟩;obtain⟨dx,m1,m2,m3,m4,ts,ms,gts,a1,a2,a3,a4,a5,a6,a7,a8,o1,o2,o3,o4,o5,o6⟩:=id SA;refine⟨_,rfl,q,a.zh1,dx,_,_,rfl,a1,T.zir,T.zj9,S6,m3,_,rfl,.inl (SqL.of a6),fun l hl=>?_⟩;exact h l _ Zb (Zf hl) hl
abbrev Tb:Stmt:=Zx (top 52) 8
theorem Ly:Zm ["self","number"] ["self","number"] (Zj Tb):=fnS
theorem Lz(F:Fun K "where" "Sheet.where" Tb f fd)(T:Tx K mg a)(zl2:Yi P w K mg base "place_of" 1 ["given","number"] (Jl K)):FnOk P w K mg base (CX1 P w) 2 f fd ["self","number"] (Oh (ca a)):=by
 refine F.okX Ly ⋯ fun _ _ _ _ H _ Q E hr h=>?_;obtain⟨ok,q,s,n,rfl,SA,ho,hgl,h⟩:=h;refine⟨_,(Ze (Zo (pF zl2 hr (Za (Zn (K:=K) rfl (pv 0) rfl) (Za (pv 1) Zd))))),?_⟩;obtain⟨dx,m1,m2,m3,m4,ts,ms,gts,a1,a2,a3,a4,a5,a6,a7,a8,o1,o2,o3,o4,o5,o6⟩:=id SA;exact⟨_,rfl,q,a.zh1,dx,_,_,rfl,a1,T.zir,T.zj9,S6,_,rfl,m3,s.gv,n,rfl,a6,ho,hgl,fun H' s'=>h H' s'⟩
abbrev Uu:Stmt:=Zx (top 52) 11
theorem Ny:Zm ["self"] ["self"] (Zj Uu):=fnS
theorem Nz(F:Fun K "chains" "Sheet.chains" Uu f fd)(T:Tx K mg a):FnOk P w K mg base (CX1 P w) 1 f fd ["self"] (Lb (ca a)):=by
 refine F.okX Ny ⋯ fun _ _ _ _ H _ Q E hr h=>?_;obtain⟨ok,q,s,rfl,SA,hgz,h⟩:=h;refine⟨_,(Ze (Zo (M7 rfl (Pm.mk (xo:=["number","steps"]) (ys:=[]) (js:=[]) rfl rfl ⋯ ⋯ rfl (by repeat' (first|exact True.intro|apply And.intro|rfl)) (by repeat' (first|exact True.intro|apply And.intro|rfl)) ⋯) (Yv (K:=K) rfl (Zn (K:=K) rfl (pv 0) rfl)) (fun _ _ _ _ _=>U3) (fun _ _ _ _ _=>(V3 (K:=K) (n:=2) rfl rfl (Z8 (V1 (i:=0) (show List.Nodup [("number":Str),("steps":Str)] by decide +kernel) rfl (by first|exact Or.inl rfl|exact Or.inr rfl)) (Z8 (V1 (i:=1) (show List.Nodup [("number":Str),("steps":Str)] by decide +kernel) rfl (by first|exact Or.inl rfl|exact Or.inr rfl)) V2)))) (fun _ _ _ _ _=>(Yd (Za (pv 0) (Za (Yt (Xt (K:=K) rfl) (by rfl) T.zjv PyProof.Rows.boot_list (Za (pv 1) Zd)) Zd))))))),?_⟩;obtain⟨dx,m1,m2,m3,m4,ts,ms,gts,a1,a2,a3,a4,a5,a6,a7,a8,o1,o2,o3,o4,o5,o6⟩:=id SA;have hgts:=a8.length;refine⟨_,rfl,q,a.zh1,dx,_,_,rfl,a1,T.zir,T.zlv,Hk,m4,rfl,⟨_,SqL.of a7⟩,?_⟩;refine Lc (K:=K) (xs:=gts) (fun i ys H'=>Same H H'/\Wm (fun x=>H x=none) H' ys (s.gaps.take i)/\ys.length=i) ⟨Same.refl _,.nil,rfl⟩ (fun i ys H' _ ⟨s',_⟩=>SqL.of (s' _ _ a7)) (szN ⋯) (fun i ys H' ⟨_,_,e⟩=>by omega) ?_ ?_
 ·rintro i x ys H' hx ⟨s1,gl,hyl⟩;obtain⟨t,l,n,us,st,rfl,hgi,ht,hl,tl,_⟩:=a8.get hx;have ht1:=s1 _ _ ht;have hl1:=s1 _ _ hl;refine⟨t,_,rfl,SqT.of ht1,rfl,_,_,rfl,_,_,rfl,rfl,⟨[some (.int n),some (.ref l)],rfl,rfl⟩,?_⟩;unfold tYes;dsimp only;rw[if_pos rfl];refine⟨_,rfl,_,rfl,l,_,rfl,.inl (SqL.of hl1),fun l2 hl2=>?_⟩;have s2:=Zf (o:=.lst us) hl2;have q2:upd H' l2 (.lst us) l2=some (.lst us):=Zb;have f2:H l2=none:=s1.free hl2;generalize upd H' l2 (.lst us)=H2 at s2 q2;refine⟨sz2,fun t2 ht2=>?_⟩;have s3:=Zf (o:=.tup [.int n,.ref l2]) ht2;have s23:=s2.trans s3;refine⟨s1.trans s23,?_,by rw[zp6,hyl];rfl⟩;have e:s.gaps.take (i+1)=s.gaps.take i++[(n,st)]:=by rw[zre,hgi];rfl
  rw[e];exact(gl.keep (fun _ _ _ z=>s23 _ _ z) (fun _ _ z=>s23 _ _ z)).snoc Zb (s3 _ _ q2) (tl.same (s1.trans s23)) f2
 ·rintro ys H' ⟨s1,gl,hyl⟩ l hl;rw[hgts,zqz] at gl;refine h l ys _ Zb ?_ (s1.trans (Zf hl)) (s1.free hl);exact(gl.imp (ok':=fun x=>H x=none/\x≠l) fun x ⟨o,e⟩ z=>⟨z,Zg e hl⟩).keep (fun _ _ _ z=>Zf hl _ _ z) (fun _ _ z=>Zf hl _ _ z)
abbrev Sj:Stmt:=Zx (top 52) 12
theorem K1:Zm ["self"] ["self"] (Zj Sj):=fnS
theorem K2(F:Fun K "rows" "Sheet.rows" Sj f fd)(T:Tx K mg a):FnOk P w K mg base (CX1 P w) 1 f fd ["self"] (Fj (ca a)):=by
 refine F.okX K1 ⋯ fun _ _ _ _ H _ Q E hr h=>?_;obtain⟨ok,q,s,rfl,SA,ho,hgl,hml,h⟩:=h;refine⟨_,(Ze (Zo (M7 rfl (Pm.mk (xo:=["match","number"]) (ys:=[]) (js:=[]) rfl rfl ⋯ ⋯ rfl (by repeat' (first|exact True.intro|apply And.intro|rfl)) (by repeat' (first|exact True.intro|apply And.intro|rfl)) ⋯) (zet (K:=K) rfl rfl T.zn6 (Za (Zn (K:=K) rfl (pv 0) rfl) (Za (Zn (K:=K) rfl (pv 0) rfl) Zd))) (fun _ _ _ _ _=>U3) (fun _ _ _ _ _=>(V3 (K:=K) (n:=2) rfl rfl (Z8 (V1 (i:=0) (show List.Nodup [("match":Str),("number":Str)] by decide +kernel) rfl (by first|exact Or.inl rfl|exact Or.inr rfl)) (Z8 (V1 (i:=1) (show List.Nodup [("match":Str),("number":Str)] by decide +kernel) rfl (by first|exact Or.inl rfl|exact Or.inr rfl)) V2)))) (fun _ _ _ _ _=>(Z3 (Ff (K:=K) rfl) (pv 0) (Yd (Za (pv 1) Zd))))))),?_⟩;obtain⟨dx,m1,m2,m3,m4,ts,ms,gts,a1,a2,a3,a4,a5,a6,a7,a8,o1,o2,o3,o4,o5,o6⟩:=id SA;have hts:ts.length=s.ms.length:=by rw[a3.length,zp3]
 refine⟨_,rfl,q,a.zh1,dx,_,_,rfl,a1,T.zir,T.zjy,Rv,_,rfl,q,a.zh1,dx,_,_,rfl,a1,T.zir,T.zj9,S6,m1,m3,rfl,⟨_,SqL.of a2⟩,⟨_,SqL.of a6⟩,?_⟩;refine Br (K:=K) (xs:=ts) (zs:=s.gv) (fun i ys H'=>Same H H'/\Z0 H' ys (((X4 s).take i).map Ir)/\ys.length=i) ⟨Same.refl _,.nil,rfl⟩ ⋯ (fun i ys H' _ ⟨s',_⟩=>⟨SqL.of (s' _ _ a2),SqL.of (s' _ _ a6)⟩) (szN ⋯) (fun i ys H' ⟨_,_,e⟩=>by omega) ?_ ?_
 ·rintro i x z t ys H' hx hz ⟨s1,tl,hyl⟩ ht;obtain⟨tm,m,rfl,hm,htm⟩:=zam a3 hx;have oz:=ho z (zqf hz);have s2:=s1.trans (Zf (o:=.tup [.ref tm,z]) ht);have tl2:=tl.same (Zf (o:=.tup [.ref tm,z]) ht);have q2:upd H' t (.tup [.ref tm,z]) t=some (.tup [.ref tm,z]):=Zb;generalize upd H' t (.tup [.ref tm,z])=H2 at s2 tl2 q2;refine⟨t,_,rfl,SqT.of q2,rfl,_,_,rfl,_,_,rfl,rfl,⟨[some (.ref tm),some z],rfl,rfl⟩,?_⟩;unfold tYes;dsimp only;rw[if_pos rfl];refine⟨_,rfl,_,rfl,sz1,fun t1 ht1=>?_⟩;have s3:=Zf (o:=.tup [z]) ht1;have q3:upd H2 t1 (.tup [z]) t1=some (.tup [z]):=Zb;generalize upd H2 t1 (.tup [z])=H3 at s3 q3;refine⟨tm,t1,_,_,rfl,rfl,SqT.of ((s2.trans s3) _ _ htm),SqT.of q3,by unfold pV;simp,by show 3+1<=sizeLine;exact sz4,fun z=>absurd z (by simp),fun _ t2 ht2=>?_⟩;have s4:=Zf (o:=.tup (pV m++[z])) ht2;refine⟨s2.trans (s3.trans s4),?_,by rw[zp6,hyl];rfl⟩;rw[Bs hm hz,zqg];refine((tl2.same s3).same s4).snoc ?_;rw[Zb,zez m oz];rfl
 ·rintro ys H' ⟨s1,tl,hyl⟩ l hl;rw[hts,<- Fl hgl,zqz] at tl;exact h l ys _ Zb (tl.same (Zf hl)) (s1.trans (Zf hl)) (s1.free hl)
abbrev Tc:Stmt:=top 53
theorem L6:Zm ["listed","lists"] ["listed","lists"] (Zj Tc):=fnS
theorem L7(F:Fun K "drawn_sheet" "drawn_sheet" Tc f fd)(T:Tx K mg a)(zkm:U6 P w K mg base "Sheet" a.zh1 1 ["self","listed","lists","given","gaps"] (Pq (ca a)))(zn8:Yi P w K mg base "fill" 3 ["may"] (zan K)):FnOk P w K mg base (CX1 P w) 4 f fd ["listed","lists"] (Cc (ca a)):=by
 refine F.okX L6 ⋯ fun _ _ _ _ H _ Q E hr h=>?_;obtain⟨ok,l1,l2,ts,ls,ms,rows,nu,rfl,hl1,tl,hl2,il,ok1,ok2,okl,no,mo,h⟩:=h;refine⟨_,(Ze (Zo (Ip zkm (hr.mono ⋯) Zk rfl (Za (pv 0) (Za (pv 1) (Za (pF zn8 hr (Za (pv 1) Zd)) (Za (Z4 Zd) Zd))))))),?_⟩;refine⟨_,rfl,_,rfl,_,rfl,l2,ls,rows,nu,rfl,hl2,il,mo,fun l3 gv H1 h3 FP SP s1 f3=>?_⟩;refine⟨by show 0<=sizeLine;decide,fun l4 hl4=>?_⟩;have s2:=Zf (o:=.lst []) hl4;have q2:upd H1 l4 (.lst []) l4=some (.lst []):=Zb;generalize upd H1 l4 (.lst [])=H2 at s2 q2;have s12:=s1.trans s2;intro q dx hq hdx ne;refine⟨q,dx,l1,l2,l3,l4,rfl,Zb,fun H' e=>⟨rfl,?_⟩⟩;obtain⟨s3,q3⟩:=Qt (C:=a.zh1) (l1:=l1) (l2:=l2) (l3:=l3) (l4:=l4) hq hdx ne;rw[<- e] at s3 q3;have s:=s12.trans s3;exact h q gv H' ⟨dx,l1,l2,l3,l4,ts,ls,[],q3,s _ _ hl1,tl.same s,s _ _ hl2,il.same s,s3 _ _ (s2 _ _ h3),s3 _ _ q2,.nil,no _ (s12.free hq),ok1,ok2,no _ f3,no _ (s1.free hl4),okl⟩ FP SP s (s12.free hq)
abbrev W8:Stmt:=Zx (top 55) 0
theorem Q6:Zm ["self","rounds","rest"] ["self","rounds","rest"] (Zj W8):=fnS
theorem Q7(F:Fun K "__init__" "Season.__init__" W8 f fd)(T:Tx K mg a)(zih:Yi P w K mg base "check_range" 1 ["value","least","most"] (Pp a.zh8))(znb:U6 P w K mg base "Roster" a.zh0 1 ["self"] (Ca (ca a)))(zna:U6 P w K mg base "Ledger" a.zhz 1 ["self"] (D6 a.zhz)):FnOk P w K mg base (CX1 P w) 3 f fd ["self","rounds","rest"] (Ce (ca a)):=by
 refine F.okX Q6 ⋯ fun _ _ _ _ H _ Q E hr h=>?_;obtain⟨p,dx,r,q,rfl,hp,sr,sq,h⟩:=h;refine⟨_,(Zc (Zy (pF zih hr (Za (pv 1) (Za Zi (Za (Xx rfl T.zjn) Zd)))))
 (Zc (Zy (pF zih hr (Za (pv 2) (Za Zi (Za (Xx rfl T.zkc) Zd)))))
 (Zc (Yr (K:=K) rfl (pv 0) (pv 1) rfl)
 (Zc (Yr (K:=K) rfl (pv 0) (pv 2) rfl)
 (Zc (Yr (K:=K) rfl (pv 0) (D3 znb (hr.mono ⋯) Zk rfl) rfl)
 (Zc (Yr (K:=K) rfl (pv 0) (D3 zna (hr.mono ⋯) Zk rfl) rfl)
 (Zc (Yr (K:=K) rfl (pv 0) Gx rfl)
 (Zc (Yr (K:=K) rfl (pv 0) (Z4 Zd) rfl)
 (Zc (Yr (K:=K) rfl (pv 0) Xw rfl)
 (Ze (Yr (K:=K) rfl (pv 0) (Z4 Zd) rfl))))))))))),?_⟩
 show let y1:TS:=_;let y2:TS:=Z1 _ y1;let y3:TS:=Z1 _ y2;let y4:TS:=Z1 _ y3;let y5:TS:=Z1 _ y4;let y6:TS:=Z1 _ y5;let y7:TS:=Z1 _ y6;let y8:TS:=Z1 _ y7;let y9:TS:=Z1 _ y8;Z1 _ y9 _ _ _;intro y1 y2 y3 y4 y5 y6 y7 y8 y9;refine⟨_,rfl,r,0,60,rfl,sr,Z7 ⋯,Z7 ⋯,?_⟩;refine it2 h (fun _ z=>z) fun h1 h=>?_;refine⟨_,rfl,q,0,10,rfl,sq,Z7 ⋯,Z7 ⋯,?_⟩;refine it2 h (fun _ z=>z) fun h2 hF=>?_;have er:r=((r.toNat:Nat):Int):=by omega
 have eq':q=((q.toNat:Nat):Int):=by omega
 generalize r.toNat=rn at hF er;generalize q.toNat=qn at hF eq';subst er eq';refine⟨_,rfl,_,rfl,p,a.zhw,dx,_,rfl,hp,T.zhx,T.zkp,(by show 0<1000;decide),?_⟩;rw[pF1];refine⟨_,rfl,_,rfl,p,a.zhw,dx,_,rfl,Zb,T.zhx,T.zmr,(by show 1<1000;decide),?_⟩;rw[pF2,N8];have b1:W0 p H (upd H p (.ins a.zhw dx (sF2 (.int rn) (.int qn)))):=.put;have q1:upd H p (.ins a.zhw dx (sF2 (.int rn) (.int qn))) p=some (.ins a.zhw dx (sF2 (.int rn) (.int qn))):=Zb;generalize upd H p (.ins a.zhw dx (sF2 (.int rn) (.int qn)))=H1 at b1 q1;intro pr dxr hpr hdxr ne;refine⟨pr,dxr,rfl,Zb,fun dr hdr=>⟨rfl,?_⟩⟩;have ndp:dr≠pr:=fun z=>by rw[z,Zb] at hdr;cases hdr
 have ndx:dr≠dxr:=fun z=>by rw[z,Zh ne,Zb] at hdr;cases hdr
 have hdr1:H1 dr=none:=by rw[Zh ndp,Zh ndx] at hdr;exact hdr
 have s2:Same H1 (upd (upd (upd (upd H1 dxr (.own pr)) pr (.ins a.zh0 dxr [])) dr (.dK [])) pr (.ins a.zh0 dxr [("entries",.ref dr)])):=fun b o e=>by
  rw[Zh (Zg e hpr),Zh (Zg e hdr1),Zh (Zg e hpr),Zh (Zg e hdxr)];exact e
 have R2:Yy a.zh0 (upd (upd (upd (upd H1 dxr (.own pr)) pr (.ins a.zh0 dxr [])) dr (.dK [])) pr (.ins a.zh0 dxr [("entries",.ref dr)])) pr dr []:=⟨⟨dxr,[],Zb,by rw[Zh ndp,Zb],.nil⟩,List.nodup_nil⟩;generalize upd (upd (upd (upd H1 dxr (.own pr)) pr (.ins a.zh0 dxr [])) dr (.dK [])) pr (.ins a.zh0 dxr [("entries",.ref dr)])=H2 at s2 R2;refine⟨_,rfl,p,a.zhw,dx,_,rfl,s2 _ _ q1,T.zhx,T.zi5,(by show 2<1000;decide),?_⟩;rw[pF3];have np2:pr≠p/\dr≠p:=⟨Ne.symm (Zg q1 hpr),Ne.symm (Zg q1 hdr1)⟩;have b3:W0 p H (upd H2 p (.ins a.zhw dx (sF3 (.int rn) (.int qn) (.ref pr)))):=b1.trans ((W0.of s2).trans .put);have q3:upd H2 p (.ins a.zhw dx (sF3 (.int rn) (.int qn) (.ref pr))) p=some (.ins a.zhw dx (sF3 (.int rn) (.int qn) (.ref pr))):=Zb;have kt3:∀ t xs,H2 t=some (.tup xs)->upd H2 p (.ins a.zhw dx (sF3 (.int rn) (.int qn) (.ref pr))) t=some (.tup xs):=fun t xs e=>by rw[Zh (Z9 e (s2 _ _ q1) (fun z=>nomatch z))];exact e
 have R3:=R2.keep (H':=upd H2 p (.ins a.zhw dx (sF3 (.int rn) (.int qn) (.ref pr)))) (fun o e=>by rw[Zh np2.1];exact e) (fun o e=>by rw[Zh np2.2];exact e) kt3;have fdr:H dr=none:=W0.free b1 ⟨_,q1⟩ hdr1;have hr2:H2 dr=some (.dK [])/\∃ o,H2 pr=some o:=by
  obtain⟨⟨x,kv,z1,z2,z3⟩,_⟩:=R2;cases z3;exact⟨z2,_,z1⟩
 generalize upd H2 p (.ins a.zhw dx (sF3 (.int rn) (.int qn) (.ref pr)))=H3 at b3 q3 R3;intro pl dxl hpl hdxl nel;refine⟨pl,dxl,rfl,Zb,fun lr ld H4 L0 k0 f0 g0 n0=>⟨rfl,?_⟩⟩;obtain⟨s4,fr0,fd0⟩:=zai hpl hdxl nel k0 f0 g0;refine⟨_,rfl,p,a.zhw,dx,_,rfl,s4 _ _ q3,T.zhx,T.zje,(by show 3<1000;decide),?_⟩;rw[pF4];have q4:=s4 _ _ q3;have np4:pl≠p/\lr≠p/\ld≠p:=⟨Ne.symm (Zg q3 hpl),Ne.symm (Zg q3 fr0),Ne.symm (Zg q3 fd0)⟩;have b5:W0 p H (upd H4 p (.ins a.zhw dx (sF4 (.int rn) (.int qn) (.ref pr) (.ref pl)))):=b3.trans ((W0.of s4).trans .put);have q5:upd H4 p (.ins a.zhw dx (sF4 (.int rn) (.int qn) (.ref pr) (.ref pl))) p=some (.ins a.zhw dx (sF4 (.int rn) (.int qn) (.ref pr) (.ref pl))):=Zb;have kt5:∀ t xs,H4 t=some (.tup xs)->upd H4 p (.ins a.zhw dx (sF4 (.int rn) (.int qn) (.ref pr) (.ref pl))) t=some (.tup xs):=fun t xs e=>by rw[Zh (Z9 e q4 (fun z=>nomatch z))];exact e
 have R5:=(R3.same s4).keep (H':=upd H4 p (.ins a.zhw dx (sF4 (.int rn) (.int qn) (.ref pr) (.ref pl)))) (fun o e=>by rw[Zh np2.1];exact e) (fun o e=>by rw[Zh np2.2];exact e) kt5;have L5:=L0.keep (H':=upd H4 p (.ins a.zhw dx (sF4 (.int rn) (.int qn) (.ref pr) (.ref pl)))) (fun o e=>by rw[Zh np4.1];exact e) (fun o e=>by rw[Zh np4.2.1];exact e) (fun o e=>by rw[Zh np4.2.2];exact e) kt5;have flr:H lr=none:=W0.free b3 ⟨_,q3⟩ fr0;have fld:H ld=none:=W0.free b3 ⟨_,q3⟩ fd0;have nrp:pr≠pl/\dr≠pl/\pr≠lr/\dr≠lr/\pr≠ld/\dr≠ld:=by
  obtain⟨⟨x,kv,z1,z2,_⟩,_⟩:=R3;exact⟨Zg z1 hpl,Zg z2 hpl,Zg z1 fr0,Zg z2 fr0,Zg z1 fd0,Zg z2 fd0⟩
 generalize upd H4 p (.ins a.zhw dx (sF4 (.int rn) (.int qn) (.ref pr) (.ref pl)))=H5 at b5 q5 R5 L5;intro da hda;have npa:da≠p:=Ne.symm (Zg q5 hda);refine⟨_,rfl,p,a.zhw,dx,_,rfl,Zf (o:=.dT []) hda _ _ q5,T.zhx,T.zjp,(by show 4<1000;decide),?_⟩;rw[pF5];have b7:W0 p H5 (upd (upd H5 da (.dT [])) p (.ins a.zhw dx (sF5 (.int rn) (.int qn) (.ref pr) (.ref pl) (.ref da)))):=(W0.of (Zf hda)).trans .put;have q7:upd (upd H5 da (.dT [])) p (.ins a.zhw dx (sF5 (.int rn) (.int qn) (.ref pr) (.ref pl) (.ref da))) p=some (.ins a.zhw dx (sF5 (.int rn) (.int qn) (.ref pr) (.ref pl) (.ref da))):=Zb;have d7:upd (upd H5 da (.dT [])) p (.ins a.zhw dx (sF5 (.int rn) (.int qn) (.ref pr) (.ref pl) (.ref da))) da=some (.dT []):=by rw[Zh npa,Zb]
 generalize upd (upd H5 da (.dT [])) p (.ins a.zhw dx (sF5 (.int rn) (.int qn) (.ref pr) (.ref pl) (.ref da)))=H7 at b7 q7 d7;refine⟨by show 0<=sizeLine;decide,fun ls hls=>?_⟩;have nps:ls≠p:=Ne.symm (Zg q7 hls);refine⟨_,rfl,p,a.zhw,dx,_,rfl,Zf (o:=.lst []) hls _ _ q7,T.zhx,T.zkz,(by show 5<1000;decide),?_⟩;rw[pF6];have b9:W0 p H7 (upd (upd H7 ls (.lst [])) p (.ins a.zhw dx (sF6 (.int rn) (.int qn) (.ref pr) (.ref pl) (.ref da) (.ref ls)))):=(W0.of (Zf hls)).trans .put;have q9:upd (upd H7 ls (.lst [])) p (.ins a.zhw dx (sF6 (.int rn) (.int qn) (.ref pr) (.ref pl) (.ref da) (.ref ls))) p=some (.ins a.zhw dx (sF6 (.int rn) (.int qn) (.ref pr) (.ref pl) (.ref da) (.ref ls))):=Zb;have l9:upd (upd H7 ls (.lst [])) p (.ins a.zhw dx (sF6 (.int rn) (.int qn) (.ref pr) (.ref pl) (.ref da) (.ref ls))) ls=some (.lst []):=by rw[Zh nps,Zb]
 generalize upd (upd H7 ls (.lst [])) p (.ins a.zhw dx (sF6 (.int rn) (.int qn) (.ref pr) (.ref pl) (.ref da) (.ref ls)))=H9 at b9 q9 l9;refine⟨_,rfl,p,a.zhw,dx,_,rfl,q9,T.zhx,T.zix,(by show 6<1000;decide),?_⟩;rw[pF7];have b10:W0 p H9 (upd H9 p (.ins a.zhw dx (sF7 (.int rn) (.int qn) (.ref pr) (.ref pl) (.ref da) (.ref ls) .non))):=.put;have q10:upd H9 p (.ins a.zhw dx (sF7 (.int rn) (.int qn) (.ref pr) (.ref pl) (.ref da) (.ref ls) .non)) p=some (.ins a.zhw dx (sF7 (.int rn) (.int qn) (.ref pr) (.ref pl) (.ref da) (.ref ls) .non)):=Zb;generalize upd H9 p (.ins a.zhw dx (sF7 (.int rn) (.int qn) (.ref pr) (.ref pl) (.ref da) (.ref ls) .non))=H10 at b10 q10;refine⟨by show 0<=sizeLine;decide,fun lt hlt=>?_⟩;have npt:lt≠p:=Ne.symm (Zg q10 hlt);refine⟨_,rfl,p,a.zhw,dx,_,rfl,Zf (o:=.lst []) hlt _ _ q10,T.zhx,T.zi0,(by show 7<1000;decide),?_⟩;rw[pF8];have b12:W0 p H10 (upd (upd H10 lt (.lst [])) p (.ins a.zhw dx (sF8 (.int rn) (.int qn) (.ref pr) (.ref pl) (.ref da) (.ref ls) .non (.ref lt)))):=(W0.of (Zf hlt)).trans .put;have q12:upd (upd H10 lt (.lst [])) p (.ins a.zhw dx (sF8 (.int rn) (.int qn) (.ref pr) (.ref pl) (.ref da) (.ref ls) .non (.ref lt))) p=some (.ins a.zhw dx (sF8 (.int rn) (.int qn) (.ref pr) (.ref pl) (.ref da) (.ref ls) .non (.ref lt))):=Zb;have l12:upd (upd H10 lt (.lst [])) p (.ins a.zhw dx (sF8 (.int rn) (.int qn) (.ref pr) (.ref pl) (.ref da) (.ref ls) .non (.ref lt))) lt=some (.lst []):=by rw[Zh npt,Zb]
 generalize upd (upd H10 lt (.lst [])) p (.ins a.zhw dx (sF8 (.int rn) (.int qn) (.ref pr) (.ref pl) (.ref da) (.ref ls) .non (.ref lt)))=H12 at b12 q12 l12;have b912:=b10.trans b12;have b712:=b9.trans b912;have b512:=b7.trans b712;have bb:=b5.trans b512;have kt:∀ t xs,H5 t=some (.tup xs)->H12 t=some (.tup xs):=fun t xs e=>b512 t _ e (Z9 e q5 (fun z=>nomatch z));have R12:=R5.keep (fun o e=>b512 _ o e np2.1) (fun o e=>b512 _ o e np2.2) kt;have L12:=L5.keep (fun o e=>b512 _ o e np4.1) (fun o e=>b512 _ o e np4.2.1) (fun o e=>b512 _ o e np4.2.2) kt;have d12:=b712 _ _ d7 npa;have l912:=b912 _ _ l9 nps;have fda:H da=none:=W0.free b5 ⟨_,q5⟩ hda;have fls:H ls=none:=W0.free (b5.trans b7) ⟨_,q7⟩ hls;have flt:H lt=none:=W0.free (b5.trans (b7.trans (b9.trans b10))) ⟨_,q10⟩ hlt;have ex5:(∃ o,H5 pr=some o)/\(∃ o,H5 dr=some o)/\(∃ o,H5 pl=some o)/\(∃ o,H5 lr=some o)/\(∃ o,H5 ld=some o):=by
  obtain⟨⟨x,kv,z1,z2,_⟩,_⟩:=id R5;obtain⟨⟨y,w1⟩,⟨rs,w2,_⟩,⟨ks,w3,_⟩⟩:=id L5;exact⟨⟨_,z1⟩,⟨_,z2⟩,⟨_,w1⟩,⟨_,w2⟩,⟨_,w3⟩⟩
 have n5:∀ {x y:Addr},(∃ o,H5 x=some o)->H5 y=none->x≠y:=fun ⟨o,e⟩ hy=>Zg e hy;have fls5:H5 ls=none:=W0.free b7 ⟨_,q7⟩ hls;have flt5:H5 lt=none:=W0.free (b7.trans (b9.trans b10)) ⟨_,q10⟩ hlt;have ndas:da≠ls:=Zg d7 hls;have ndat:da≠lt:=Zg (b10 _ _ (b9 _ _ d7 npa) npa) hlt;have nst:ls≠lt:=Zg (b10 _ _ l9 nps) hlt;obtain⟨e1,e2,e3,e4,e5⟩:=ex5;have nrl:lr≠ld:=n0;refine hF ⟨p,pr,dr,pl,lr,ld,da,ls,lt⟩ H12 rfl ⟨⟨dx,.non,q12,rfl⟩,R12,L12,⟨[],d12,fun i n=>rfl,zqa _⟩,⟨[],l912,.nil⟩,⟨[],l12,.nil⟩,?_,?_⟩ bb ?_
 ·show [p,dr,lr,ld,da,ls,lt].Nodup;simp only[zqt,zp7,zq2,or_false,not_or];exact⟨⟨Ne.symm np2.2,Ne.symm np4.2.1,Ne.symm np4.2.2,Ne.symm npa,Ne.symm nps,Ne.symm npt⟩,⟨nrp.2.2.2.1,nrp.2.2.2.2.2,n5 e2 hda,n5 e2 fls5,n5 e2 flt5⟩,⟨nrl,n5 e4 hda,n5 e4 fls5,n5 e4 flt5⟩,⟨n5 e5 hda,n5 e5 fls5,n5 e5 flt5⟩,⟨ndas,ndat⟩,nst,by simp,List.nodup_nil⟩
 ·have hpr5:∃ x fs,H5 pr=some (.ins a.zh0 x fs):=by obtain⟨⟨x,kv,z1,_⟩,_⟩:=R5;exact⟨_,_,z1⟩
  have hdr5:∃ kv,H5 dr=some (.dK kv):=by obtain⟨⟨x,kv,_,z2,_⟩,_⟩:=R5;exact⟨_,z2⟩
  have hpl5:∃ x fs,H5 pl=some (.ins a.zhz x fs):=by obtain⟨⟨y,w1⟩,_⟩:=L5;exact⟨_,_,w1⟩
  obtain⟨x1,y1,z1⟩:=hpr5;obtain⟨y2,z2⟩:=hdr5;obtain⟨x3,y3,z3⟩:=hpl5;obtain⟨_,⟨rs,w2,_⟩,⟨ks,w3,_⟩⟩:=id L5;have nm:∀ m,m∈([p,dr,lr,ld,da,ls,lt]:List Addr)↔m=p\/m=dr\/m=lr\/m=ld\/m=da\/m=ls\/m=lt:=fun m=>by simp
  refine⟨fun hm=>?_,fun hm=>?_⟩
  ·rcases(nm _).mp hm with q|q|q|q|q|q|q
   ·exact np2.1 q
   ·exact Z9 z1 z2 (fun z=>nomatch z) q
   ·exact nrp.2.2.1 q
   ·exact nrp.2.2.2.2.1 q
   ·exact n5 e1 hda q
   ·exact n5 e1 fls5 q
   ·exact n5 e1 flt5 q
  ·rcases(nm _).mp hm with q|q|q|q|q|q|q
   ·exact np4.1 q
   ·exact nrp.2.1 q.symm
   ·exact Z9 z3 w2 (fun z=>nomatch z) q
   ·exact Z9 z3 w3 (fun z=>nomatch z) q
   ·exact n5 e3 hda q
   ·exact n5 e3 fls5 q
   ·exact n5 e3 flt5 q
 ·intro x hx hxp;simp only[SAd.fp,zp7,zq2,or_false] at hx;rcases hx with q|q|q|q|q|q|q
  ·exact absurd q hxp
  ·rw[q];exact fdr
  ·rw[q];exact flr
  ·rw[q];exact fld
  ·rw[q];exact fda
  ·rw[q];exact fls
  ·rw[q];exact flt
abbrev Xk:Stmt:=Zx (top 55) 1
theorem Td:Zm ["self"] ["self"] (Zj Xk):=fnS
theorem Te(F:Fun K "check_not_over" "Season.check_not_over" Xk f fd)(T:Tx K mg a)(zh4:Zt P w K mg base a.zhw "at_hand" 2 ["self"] (Uj (ca a))):FnOk P w K mg base (CX1 P w) 3 f fd ["self"] (Oi (ca a)):=by
 refine F.okX Td ⋯ fun _ _ _ _ H _ Q E hr h=>?_;obtain⟨A',S,rfl,SA,h⟩:=h;refine⟨_,(Ze (Zz (Zp R8 (Yk (pv 0) T.zhx zh4 (hr.mono ⋯) Zk) (Zn (K:=K) rfl (pv 0) rfl) (Zr _))
  (Ze (Y1 Y0 rfl T.znw rfl (Za Zl Zd)))
  Zq)),?_⟩
 obtain⟨⟨dx,v,a1,a2⟩,b,c,_⟩:=id SA;refine⟨_,rfl,A'.p,dx,_,rfl,a1,Ye ⋯,A',S,rfl,SA,_,rfl,A'.p,a.zhw,dx,_,_,rfl,a1,T.zhx,T.zkp,Jq,_,_,rfl,rfl,_,rfl,?_⟩;refine itD (fun hc=>?_) (fun hc=>?_)
 ·rw[if_pos (by unfold atV at hc;omega)] at h;exact⟨sz1,h⟩
 ·rw[if_neg (by unfold atV at hc;omega)] at h;exact h
abbrev Xq:Stmt:=Zx (top 55) 2
theorem T2:Zm ["self"] ["self"] (Zj Xq):=fnS
theorem T3(F:Fun K "check_undrawn" "Season.check_undrawn" Xq f fd)(T:Tx K mg a)(zil:Zt P w K mg base a.zhw "check_not_over" 3 ["self"] (Oi (ca a))):FnOk P w K mg base (CX1 P w) 4 f fd ["self"] (Oj (ca a)):=by
 refine F.okX T2 ⋯ fun _ _ _ _ H _ Q E hr h=>?_;obtain⟨A',S,rfl,SA,h⟩:=h;refine⟨_,(Zc (Zy (Yk (pv 0) T.zhx zil (hr.mono ⋯) Zk))
 (Ze (Zz (Zp Pd (Zn (K:=K) rfl (pv 0) rfl) Xw (Zr _))
  (Ze (Y1 Y0 rfl T.zob rfl (Za Zl Zd)))
  Zq))),?_⟩
 obtain⟨⟨dx,v,a1,a2⟩,b,c,_⟩:=id SA;refine⟨_,rfl,A'.p,dx,_,rfl,a1,Ye ⋯,A',S,rfl,SA,?_⟩;refine it2 h (fun _ z=>z) fun hn h=>?_;refine⟨_,rfl,A'.p,a.zhw,dx,_,_,rfl,a1,T.zhx,T.zix,X5,rfl,_,rfl,?_⟩;cases hc:S.cur with
 | none =>
   rw[hc] at a2 h;have a2:v=.non:=a2;rw[a2];exact iteF h
 | some s =>
   rw[hc] at a2 h;obtain⟨q,rfl,_⟩:=a2;exact iteT ⟨sz1,h⟩
abbrev Wa:Stmt:=Zx (top 55) 3
theorem Sv:Zm ["self","at"] ["self","at"] (Zj Wa):=fnS
theorem Sw(F:Fun K "check_round" "Season.check_round" Wa f fd)(T:Tx K mg a):FnOk P w K mg base (CX1 P w) 1 f fd ["self","at"] (Me (ca a)):=by
 refine F.okX Sv ⋯ fun _ _ _ _ H _ Q E hr h=>?_;obtain⟨A',S,i,rfl,SA,si,h⟩:=h;refine⟨_,(Ze (Zz (PW.pt (Tn (Zp K7 (pv 1) Zi (Zr _)) (Vu (Zp R8 (pv 1) (Zn (K:=K) rfl (pv 0) rfl) (Zr _)))))
  (Ze (Y1 Y0 rfl T.znr rfl (Za (Wy (Zw (Wj (pv 1)) (Zw (Xi ⋯) Wx)) ⋯) Zd)))
  Zq)),?_⟩
 obtain⟨⟨dx,v,a1,a2⟩,b,c,_⟩:=id SA;refine⟨_,rfl,_,_,rfl,rfl,_,rfl,?_⟩;refine itD (fun hc=>?_) (fun hc=>?_)
 ·rw[if_pos (.inl hc)] at h;refine iteT ?_;exact⟨_,rfl,.inl ⟨_,rfl,si⟩,fun z=>⟨sz1,h⟩⟩
 refine⟨_,rfl,_,rfl,A'.p,a.zhw,dx,_,_,rfl,a1,T.zhx,T.zkp,Jq,_,_,rfl,rfl,_,rfl,?_⟩;refine itD (fun hc2=>?_) (fun hc2=>?_)
 ·rw[if_pos (.inr hc2)] at h;exact⟨_,rfl,.inl ⟨_,rfl,si⟩,fun z=>⟨sz1,h⟩⟩
 ·rw[if_neg (fun z=>z.elim hc hc2)] at h;exact h
abbrev Wb:Stmt:=Zx (top 55) 4
theorem Rf:Zm ["self"] ["self"] (Zj Wb):=fnS
theorem Rg(F:Fun K "check_room" "Season.check_room" Wb f fd)(T:Tx K mg a):FnOk P w K mg base (CX1 P w) 1 f fd ["self"] (Hl (ca a)):=by
 refine F.okX Rf ⋯ fun _ _ _ _ H _ Q E hr h=>?_;obtain⟨A',S,rfl,SA,h⟩:=h;refine⟨_,(Ze (Zz (Zp zc2 (Zs (cL K) (by rfl) T.zjl PySem.boot_len (Za (Zn (K:=K) rfl (pv 0) rfl) Zd)) (Xx rfl T.zjg) (Zr _))
  (Ze (Y1 Y0 rfl T.znh rfl (Za (Wy (Zw (Wj (Xx rfl T.zjg)) (Zw (Xi ⋯) Wx)) ⋯) Zd)))
  Zq)),?_⟩
 obtain⟨⟨dx,v,a1,a2⟩,b,c,d,f,⟨us,g1,g2⟩,nd,np⟩:=id SA;refine⟨_,rfl,A'.p,a.zhw,dx,_,_,rfl,a1,T.zhx,T.zi0,Vt,A'.lt,_,rfl,.inl (SqL.of g1),_,_,rfl,rfl,_,rfl,?_⟩;rw[g2.length];refine itD (fun hc=>?_) (fun hc=>?_)
 ·rw[if_pos ⋯] at h;exact⟨.inl ⟨_,rfl,Z7 ⋯⟩,fun z=>⟨sz1,h⟩⟩
 ·rw[if_neg ⋯] at h;exact h
abbrev Tf:Stmt:=Zx (top 55) 5
theorem L8:Zm ["self","word","number","at"] ["self","word","number","at"] (Zj Tf):=fnS
theorem L9(F:Fun K "note" "Season.note" Tf f fd)(T:Tx K mg a):FnOk P w K mg base (CX1 P w) 1 f fd ["self","word","number","at"] (Hm (ca a)):=by
 refine F.okX L8 ⋯ fun _ _ _ _ H _ Q E hr h=>?_;obtain⟨A',S,w',n,i,rfl,SA,hz,h⟩:=h;refine⟨_,(Ze (Yq (Zn (K:=K) rfl (pv 0) rfl) (Yd (Za (Yd (Za (pv 1) (Za (pv 2) (Za (pv 3) Zd)))) (Za (Zn (K:=K) rfl (pv 0) rfl) Zd))))),?_⟩;obtain⟨⟨dx,v,a1,a2⟩,b,c,⟨kvs,d1,d2⟩,⟨vs,f1,f2⟩,⟨us,g1,g2⟩,nd,np⟩:=id SA;refine⟨_,rfl,A'.p,a.zhw,dx,_,_,rfl,a1,T.zhx,T.zi0,Vt,A'.lt,us,rfl,g1,?_⟩;refine⟨_,rfl,_,rfl,_,rfl,sz3,fun t1 ht1=>?_⟩;have s1:=Zf (o:=.tup [.str w',.int n,.int i]) ht1;have q1:upd H t1 (.tup [.str w',.int n,.int i]) t1=some (.tup (Y9 (w',n,i))):=Zb;generalize upd H t1 (.tup [.str w',.int n,.int i])=H1 at s1 q1;refine⟨_,rfl,A'.p,a.zhw,dx,_,_,rfl,s1 _ _ a1,T.zhx,T.zix,X5,sz2,fun t2 ht2=>?_⟩;have s2:=Zf (o:=.tup [.ref t1,v]) ht2;have q2:upd H1 t2 (.tup [.ref t1,v]) t2=some (.tup [.ref t1,v]):=Zb;have q12:=s2 _ _ q1;have s12:=s1.trans s2;generalize upd H1 t2 (.tup [.ref t1,v])=H2 at s2 q2 q12 s12;refine⟨us,s12 _ _ g1,by have:=g2.length;have:=Tv;omega,?_⟩;have fr:FrS A' H (upd H2 A'.lt (.lst (us++[.ref t2]))):=fun b o e hb=>by
  rw[Zh (fun z=>hb (by rw[z];simp[SAd.fp]))];exact s12 _ _ e
 have kt:=SA.tups fr;have kp:∀ x o,x≠A'.lt->H x=some o->upd H2 A'.lt (.lst (us++[.ref t2])) x=some o:=fun x o hx e=>by rw[Zh hx];exact s12 _ _ e
 have kt2:∀ t xs,H2 t=some (.tup xs)->upd H2 A'.lt (.lst (us++[.ref t2])) t=some (.tup xs):=fun t xs e=>by
  rw[Zh (Z9 e (s12 _ _ g1) (fun z=>nomatch z))];exact e
 have ko:∀ x o,x∉A'.fp->H x=some o->upd H2 A'.lt (.lst (us++[.ref t2])) x=some o:=fun x o hx e=>fr x o e hx;have nd':=nd;simp only[SAd.fp,zqt,zp7,zq2,or_false,not_or] at nd';obtain⟨⟨n1,n2,n3,n4,n5,n6⟩,⟨n7,n8,n9,n10,n11⟩,⟨n12,n13,n14,n15⟩,⟨n16,n17,n18⟩,⟨n19,n20⟩,n21,_⟩:=nd';have npt:A'.pr≠A'.lt/\A'.pl≠A'.lt:=⟨fun z=>np.1 (by rw[z];simp[SAd.fp]),fun z=>np.2 (by rw[z];simp[SAd.fp])⟩;refine h _ ⟨⟨dx,v,kp _ _ n6 a1,a2.keep ko kt⟩,b.keep (fun o e=>kp _ o npt.1 e) (fun o e=>kp _ o n11 e) kt,c.keep (fun o e=>kp _ o npt.2 e) (fun o e=>kp _ o n15 e) (fun o e=>kp _ o n18 e) kt,⟨kvs,kp _ _ n20 d1,d2⟩,⟨vs,kp _ _ n21 f1,f2.keep ko kt⟩,⟨us++[.ref t2],Zb,?_⟩,nd,np⟩ fr;exact(g2.keep ko kt).snoc (kt2 _ _ q2) (kt2 _ _ q12) (a2.keep ko kt)
abbrev Xr:Stmt:=Zx (top 55) 6
theorem T4:Zm ["self"] ["self"] (Zj Xr):=fnS
theorem T5(F:Fun K "sheet_at_hand" "Season.sheet_at_hand" Xr f fd)(T:Tx K mg a):FnOk P w K mg base (CX1 P w) 1 f fd ["self"] (Qu (ca a)):=by
 refine F.okX T4 ⋯ fun _ _ _ _ H _ Q E hr h=>?_;obtain⟨A',S,rfl,SA,h1,h2⟩:=h;refine⟨_,(Zc (Zz (Zp Mn (Zn (K:=K) rfl (pv 0) rfl) Xw (Zr _))
  (Ze (Y1 Y0 rfl T.zni rfl (Za Zl Zd)))
  Zq)
 (Ze (Zo (Zn (K:=K) rfl (pv 0) rfl)))),?_⟩
 obtain⟨⟨dx,v,a1,a2⟩,b,c,_⟩:=id SA;refine⟨_,rfl,A'.p,a.zhw,dx,_,_,rfl,a1,T.zhx,T.zix,X5,rfl,_,rfl,?_⟩;cases hc:S.cur with
 | none =>
   rw[hc] at a2;have a2:v=.non:=a2;rw[a2];exact iteT ⟨sz1,h1 hc⟩
 | some s =>
   rw[hc] at a2;obtain⟨q,rfl,hs⟩:=a2;refine iteF ?_;exact⟨_,rfl,A'.p,a.zhw,dx,_,_,rfl,a1,T.zhx,T.zix,X5,h2 s q hc hs⟩
abbrev W9:Stmt:=Zx (top 55) 7
theorem Q8:Zm ["self","at"] ["self","at"] (Zj W9):=fnS
theorem Q9(F:Fun K "sheet_of" "Season.sheet_of" W9 f fd)(T:Tx K mg a)(zib:Zt P w K mg base a.zhw "check_round" 1 ["self","at"] (Me (ca a)))(zid:Zt P w K mg base a.zhz "over" 1 ["self"] (Oe a.zhz))(zh4:Zt P w K mg base a.zhw "at_hand" 2 ["self"] (Uj (ca a)))(zin:Zt P w K mg base a.zhw "sheet_at_hand" 1 ["self"] (Qu (ca a))):FnOk P w K mg base (CX1 P w) 3 f fd ["self","at"] (Js (ca a)):=by
 refine F.okX Q8 ⋯ fun _ _ _ _ H _ Q E hr h=>?_;obtain⟨A',S,i,rfl,SA,si,hol,h⟩:=h;refine⟨_,(Zc (Zy (Y8 (pv 0) T.zhx zib (hr.mono ⋯) Zk (Za (pv 1) Zd)))
 (Zc (Zz (Zp Aj (pv 1) (Yk (Zn (K:=K) rfl (pv 0) rfl) T.zi1 zid (hr.mono ⋯) Zk) (Zr _))
  (Ze (Zo (pI (iL K) (Zn (K:=K) rfl (pv 0) rfl) (Z3 Ag (pv 1) Zi))))
  Zq)
 (Zc (Zz (Zp R8 (pv 1) (Yk (pv 0) T.zhx zh4 (hr.mono ⋯) Zk) (Zr _))
  (Ze (Y1 Y0 rfl T.zni rfl (Za (Wy (Zw (Xi ⋯) (Zw (Wj (pv 1)) (Zw (Xi ⋯) Wx))) ⋯) Zd)))
  Zq)
 (Ze (Zo (Yk (pv 0) T.zhx zin (hr.mono ⋯) Zk)))))),?_⟩
 obtain⟨⟨dx,v,a1,a2⟩,b,c,d,⟨vs,f1,f2⟩,_⟩:=id SA;obtain⟨⟨dxl,hpl⟩,_⟩:=id c;refine⟨_,rfl,A'.p,dx,_,rfl,a1,Ye ⋯,_,rfl,A',S,i,rfl,SA,si,?_⟩;refine it2 h (fun _ z=>z) fun hn h=>?_;refine⟨_,rfl,_,rfl,A'.p,a.zhw,dx,_,_,rfl,a1,T.zhx,T.zje,Ub,A'.pl,dxl,_,rfl,hpl,M5 ⋯ ⋯,A'.pl,A'.lr,A'.ld,S.led,rfl,c,_,_,rfl,rfl,_,rfl,?_⟩;refine itD (fun hc=>?_) (fun hc=>?_)
 ·have hk:(i-1).toNat<S.old.length:=by omega
  have hs:V8 S i=some (S.old[(i-1).toNat]'hk):=by unfold V8;rw[if_pos hc];exact zp5 hk
  obtain⟨q,e1,e2⟩:=f2.getR (zp5 hk);exact⟨_,rfl,A'.p,a.zhw,dx,_,_,rfl,a1,T.zhx,T.zkz,Jr,_,rfl,_,_,rfl,rfl,A'.ls,_,_,_,rfl,rfl,SqL.of f1,(show atI vs (i-1)=some (.ref q) by rw[show i-1=(((i-1).toNat:Nat):Int) by omega];exact Yw e1),h.2 _ q hs e2⟩
 ·refine Zv ?_;refine⟨_,rfl,_,rfl,A'.p,dx,_,rfl,a1,Ye ⋯,A',S,rfl,SA,_,_,rfl,rfl,_,rfl,?_⟩;refine itD (fun hc2=>?_) (fun hc2=>?_)
  ·exact⟨_,rfl,.inl ⟨_,rfl,si⟩,fun z=>⟨sz1,h.1 (by unfold V8;rw[if_neg hc,if_pos (by unfold atV at hc2;omega)])⟩⟩
  ·have hs:V8 S i=S.cur:=by unfold V8;rw[if_neg hc,if_neg (by unfold atV at hc2;omega)]
   exact⟨_,rfl,A'.p,dx,_,rfl,a1,Ye ⋯,A',S,rfl,SA,fun hz=>h.1 (by rw[hs];exact hz),fun s q hz hq=>h.2 s q (by rw[hs];exact hz) hq⟩
abbrev Wq:Stmt:=Zx (top 55) 8
theorem Xg:Zm ["self","listed","people","at","out"] ["self","listed"] (Zj Wq):=fnS
theorem R6(F:Fun K "takers_of" "Season.takers_of" Wq f fd)(T:Tx K mg a)(zjj:Zt P w K mg base a.zh0 "numbers" 1 ["self"] (M8 (ca a)))(zkf:Zt P w K mg base a.zh0 "person" 3 ["self","number"] (Fe (ca a)))(zh4:Zt P w K mg base a.zhw "at_hand" 2 ["self"] (Uj (ca a)))(znm:Yi P w K mg base "takers" 4 ["people","match","out","ledger","rest"] (G7 K a.zhz)):FnOk P w K mg base (CX1 P w) 5 f fd ["self","listed"] (Qv (ca a)):=by
 refine F.okX Xg ⋯ fun _ _ _ _ H _ Q E hr h=>?_;obtain⟨A',S,l,ts,ms,rfl,SA,hl,tl,hml,hpl,hsm,h⟩:=h;have hu:=Ws hr;refine⟨_,(Zc (pS 2 Xg.nd (Tz rfl (cT ["self"] [0]) (Yv (K:=K) rfl (Yk (Zn (K:=K) rfl (pv 0) rfl) T.zis zjj (hr.mono ⋯) Zk)) (fun _ _ _ _ _=>U3) (fun _ _ _ _ _=>(Y8 (Zn (K:=K) rfl (pv 1) rfl) T.zis zkf (hr.mono ⋯) zac (Za (pv 0) Zd)))))
 (Zc (pS 3 Xg.nd (Yk (pv 0) T.zhx zh4 (hr.mono ⋯) Zk))
 (Zc (pS 4 Xg.nd (Tz rfl (cT ["at","self"] [3,0]) (Yv (K:=K) rfl (Yk (Zn (K:=K) rfl (pv 0) rfl) T.zis zjj (hr.mono ⋯) Zk)) (fun _ _ _ _ _=>Io (Qh (Mr hu (Yd (Za (pv 1) (Za (pv 0) Zd))) (Zn (K:=K) rfl (pv 2) rfl)))) (fun _ _ _ _ _=>(pv 0))))
 (Ze (Zo (Tz rfl (cT ["people","out","self"] [2,4,0]) (Yv (K:=K) rfl (pv 1)) (fun _ _ _ _ _=>U3) (fun _ _ _ _ _=>(D2 znm (hr.mono ⋯) zac rfl (Za (pv 1) (Za (pv 0) (Za (pv 2) (Za (Zn (K:=K) rfl (pv 3) rfl) (Za (Zn (K:=K) rfl (pv 3) rfl) Zd))))))))))))),?_⟩
 obtain⟨⟨dx,v,a1,a2⟩,b,c,⟨kvs,d1,d2⟩,_⟩:=id SA;obtain⟨⟨dxr,kvr,hpr,hdr,en⟩,ndr⟩:=id b;refine⟨_,rfl,A'.p,a.zhw,dx,_,_,rfl,a1,T.zhx,T.zi5,Wt,A'.pr,dxr,_,rfl,hpr,Yy.no ⋯,A'.pr,A'.dr,S.ppl,rfl,b,fun ln hln=>?_⟩;have s1:=Zf (o:=.lst (S.ppl.map fun x=>V.int x.1)) hln;have q1:upd H ln (.lst (S.ppl.map fun x=>V.int x.1)) ln=some (.lst (S.ppl.map fun x=>V.int x.1)):=Zb;generalize upd H ln (.lst (S.ppl.map fun x=>V.int x.1))=H1 at s1 q1;have hnl:(S.ppl.map fun x=>V.int x.1).length=S.ppl.length:=by rw[zp3]
 refine⟨ln,rfl,⟨_,SqL.of q1⟩,Tu (K:=K) (xs:=S.ppl.map fun x=>V.int x.1) (fun i ys H'=>Same H H'/\Same H1 H'/\Z0 H' ys ((S.ppl.take i).map pV)/\ys.length=i) ⟨s1,Same.refl _,.nil,rfl⟩ (fun i ys H' _ ⟨_,z,_⟩=>SqL.of (z _ _ q1)) (szN ⋯) (fun i ys H' ⟨_,_,_,e⟩=>by omega) ?_ ?_⟩
 ·rintro i x ys H' hx ⟨sh,s1',tl',hyl⟩;have hi:i<S.ppl.length:=by have:=(zp4.mp hx).1;omega
  have hpi:S.ppl[i]?=some (S.ppl[i]'hi):=zp5 hi;have etk:S.ppl.take (i+1)=S.ppl.take i++[S.ppl[i]'hi]:=zq0 hi;have hmem:S.ppl[i]'hi∈S.ppl:=zq7 hi;have ex:x=.int (S.ppl[i]'hi).1:=by rw[zqb,hpi] at hx;exact(Option.some.inj hx).symm
  generalize (S.ppl[i]'hi)=pp at hpi etk hmem ex;subst ex;unfold tYes;dsimp only;rw[if_pos rfl];refine⟨_,rfl,A'.p,a.zhw,dx,_,_,rfl,sh _ _ a1,T.zhx,T.zi5,Wt,A'.pr,dxr,_,rfl,sh _ _ hpr,Yy.no ⋯,_,rfl,A'.pr,A'.dr,S.ppl,pp.1,rfl,b.same sh,hsm pp hmem,fun z=>absurd (zqh.mpr ⟨pp,hmem,rfl⟩) z,fun g c' t H2 hm ht s2 _=>?_⟩;have epp:=zco b.nd hm hmem rfl;rw[epp] at ht;refine⟨sh.trans s2,s1'.trans s2,?_,by rw[zp6,hyl];rfl⟩;rw[etk,zqg];exact(tl'.same s2).snoc ht
 rintro ys H2 ⟨sh2,s12,tl2,hyl⟩ lp hlp;rw[hnl,zqz] at tl2;have s3:=sh2.trans (Zf (o:=.lst ys) hlp);have q3:upd H2 lp (.lst ys) lp=some (.lst ys):=Zb;have tl3:=tl2.same (Zf (o:=.lst ys) hlp);generalize upd H2 lp (.lst ys)=H3 at s3 q3 tl3;have SA3:=SA.same s3;refine⟨_,rfl,A'.p,dx,_,rfl,s3 _ _ a1,Ye ⋯,A',S,rfl,SA3,?_⟩;refine⟨_,rfl,A'.p,a.zhw,dx,_,_,rfl,s3 _ _ a1,T.zhx,T.zi5,Wt,A'.pr,dxr,_,rfl,s3 _ _ hpr,Yy.no ⋯,A'.pr,A'.dr,S.ppl,rfl,b.same s3,fun ln4 hln4=>?_⟩;have s4:=Zf (o:=.lst (S.ppl.map fun x=>V.int x.1)) hln4;have q4:upd H3 ln4 (.lst (S.ppl.map fun x=>V.int x.1)) ln4=some (.lst (S.ppl.map fun x=>V.int x.1)):=Zb;generalize upd H3 ln4 (.lst (S.ppl.map fun x=>V.int x.1))=H4 at s4 q4;refine⟨ln4,rfl,⟨_,SqL.of q4⟩,Tu (K:=K) (xs:=S.ppl.map fun x=>V.int x.1) (fun i ys H'=>Same H4 H'/\ys=((S.ppl.take i).filter (pIn S.out (atV S))).map fun x=>V.int x.1) ⟨Same.refl _,rfl⟩ (fun i ys H' _ ⟨z,_⟩=>SqL.of (z _ _ q4)) (szN ⋯) (fun i ys H' ⟨_,e⟩=>by rw[e,zp3];exact zqr (zrp _ _) (List.length_take_le _ _)) ?_ ?_⟩
 ·rintro i x zs H' hx ⟨s4',rfl⟩;have hi:i<S.ppl.length:=by have:=(zp4.mp hx).1;omega
  have hpi:S.ppl[i]?=some (S.ppl[i]'hi):=zp5 hi;have etk:S.ppl.take (i+1)=S.ppl.take i++[S.ppl[i]'hi]:=zq0 hi;have ex:x=.int (S.ppl[i]'hi).1:=by rw[zqb,hpi] at hx;exact(Option.some.inj hx).symm
  generalize (S.ppl[i]'hi)=pp at hpi etk ex;subst ex;refine⟨_,rfl,_,rfl,sz2,fun t ht=>?_⟩;have s5:=Zf (o:=.tup [.int (atV S),.int pp.1]) ht;have q5:upd H' t (.tup [.int (atV S),.int pp.1]) t=some (.tup (([inl (atV S),inl pp.1]:List Key).map kV)):=Zb;generalize upd H' t (.tup [.int (atV S),.int pp.1])=H5 at s5 q5;have sh5:=s3.trans (s4.trans (s4'.trans s5));refine⟨_,rfl,A'.p,a.zhw,dx,_,_,rfl,sh5 _ _ a1,T.zhx,T.zjp,Tw,A'.da,_,rfl,DGet.t (k:=[inl (atV S),inl pp.1]) (sh5 _ _ d1) q5,_,rfl,?_⟩;rw[d2.isSome];have e2:∀ ws,((S.ppl.take (i+1)).filter (pIn S.out (atV S))).map (fun x=>V.int x.1)=((S.ppl.take i).filter (pIn S.out (atV S))).map (fun x=>V.int x.1)++ws↔ws=if pIn S.out (atV S) pp then [V.int pp.1] else []:=fun ws=>by
   rw[etk,List.filter_append,zqg,List.append_cancel_left_eq];cases q:pIn S.out (atV S) pp<;>simp[q,eq_comm]
  refine itB (fun hb=>?_) (fun hb=>?_)
  ·exact⟨_,rfl,s4'.trans s5,((e2 [V.int pp.1]).mpr (by rw[show pIn S.out (atV S) pp=true from hb];rfl)).symm⟩
  ·refine⟨s4'.trans s5,?_⟩;have:=(e2 []).mpr (by rw[show pIn S.out (atV S) pp=false from hb];rfl);rw[List.append_nil] at this;exact this.symm
 rintro zs H5 ⟨s45,rfl⟩ lo hlo;rw[hnl,zqz];have s6:=s45.trans (Zf (o:=.lst (outV S)) hlo);have q6:upd H5 lo (.lst (outV S)) lo=some (.lst (outV S)):=Zb;show Ve 4 (V.ref lo) _ (upd H5 lo (.lst (outV S))) _;generalize upd H5 lo (.lst (outV S))=H6 at s6 q6;have s36:=s4.trans s6;have s06:=s3.trans s36;have hl6:=s06 _ _ hl;have hts:ts.length=ms.length:=by rw[tl.length,zp3]
 refine⟨_,rfl,l,rfl,⟨_,SqL.of hl6⟩,Tu (K:=K) (xs:=ts) (fun i ys H'=>Same H6 H'/\∃ ls,ys=ls.map V.ref/\ILs H' ls ((mayS S ms).take i)/\ls.length=i/\∀ x∈ls,H x=none) ⟨Same.refl _,[],rfl,.nil,rfl,by simp⟩ (fun i ys H' _ ⟨z,_⟩=>SqL.of (z _ _ hl6)) (szN ⋯) (fun i ys H' ⟨_,ls,e1,_,e2,_⟩=>by rw[e1,zp3];omega) ?_ ?_⟩
 ·rintro i x ys' H' hx ⟨s6',ls,rfl,il,hll,hfr⟩;obtain⟨tm,m,rfl,hm,htm⟩:=zam tl hx;have s0:=s06.trans s6';unfold tYes;dsimp only;rw[if_pos rfl];refine⟨_,rfl,_,rfl,_,rfl,_,rfl,A'.p,a.zhw,dx,_,_,rfl,s0 _ _ a1,T.zhx,T.zje,Ub,_,rfl,A'.p,a.zhw,dx,_,_,rfl,s0 _ _ a1,T.zhx,T.zmr,zcn,lp,lo,tm,A'.pl,A'.lr,A'.ld,S.led,ys,S.ppl,outV S,m.1,m.2.1,m.2.2,S.rest,rfl,(s36.trans s6') _ _ q3,tl3.same (s36.trans s6'),s6' _ _ q6,za3 S,s0 _ _ htm,c.same s0,by omega,fun l2 H2 hl2 s2 f2=>?_⟩;rw[ze0] at hl2;refine⟨s6'.trans s2,ls++[l2],by rw[zqg];rfl,?_,by rw[zp6,hll];rfl,fun y hy=>?_⟩
  ·have e:(mayS S ms).take (i+1)=(mayS S ms).take i++[Hn S m]:=by
    unfold mayS;rw[zre,zqb,hm];rfl
   rw[e];exact(il.same s2).snoc hl2
  ·rcases zqi.mp hy with z|z
   ·exact hfr y z
   ·rw[zp9.mp z];exact s0.free f2
 ·rintro ys' H' ⟨s6',ls,rfl,il,hll,hfr⟩ l' hl';have hmy:(mayS S ms).length=ms.length:=by unfold mayS;rw[zp3]
  rw[hts,<- hmy,zqz] at il;have s0:=s06.trans s6';exact h l' ls _ Zb (il.same (Zf hl')) (s0.trans (Zf hl')) (s0.free hl') hfr
abbrev Uv:Stmt:=Zx (top 55) 9
theorem N1:Zm ["self","number","grade","club"] ["self","number","grade","club"] (Zj Uv):=fnS
theorem N2(F:Fun K "enrol" "Season.enrol" Uv f fd)(T:Tx K mg a)(zim:Zt P w K mg base a.zhw "check_undrawn" 4 ["self"] (Oj (ca a)))(ziw:Zt P w K mg base a.zh0 "check_new" 2 ["self","number","grade","club"] (Qs (ca a)))(zig:Zt P w K mg base a.zhw "check_room" 1 ["self"] (Hl (ca a)))(ziy:Zt P w K mg base a.zhw "note" 1 ["self","word","number","at"] (Hm (ca a)))(zh4:Zt P w K mg base a.zhw "at_hand" 2 ["self"] (Uj (ca a)))(zlj:Zt P w K mg base a.zh0 "add" 3 ["self","number","grade","club"] (za2 (ca a))):FnOk P w K mg base (CX1 P w) 5 f fd ["self","number","grade","club"] (Cf (ca a)):=by
 refine F.okX N1 ⋯ fun _ _ _ _ H _ Q E hr h=>?_;obtain⟨A',S,n,g,c0,rfl,SA,sm,hz,hz2,h⟩:=h;refine⟨_,(Zc (Zy (Yk (pv 0) T.zhx zim (hr.mono ⋯) Zk))
 (Zc (Zy (Y8 (Zn (K:=K) rfl (pv 0) rfl) T.zis ziw (hr.mono ⋯) Zk (Za (pv 1) (Za (pv 2) (Za (pv 3) Zd)))))
 (Zc (Zy (Yk (pv 0) T.zhx zig (hr.mono ⋯) Zk))
 (Zc (Zy (Y8 (pv 0) T.zhx ziy (hr.mono ⋯) Zk (Za Zl (Za (pv 1) (Za (Yk (pv 0) T.zhx zh4 (hr.mono ⋯) Zk) Zd)))))
 (Ze (Zy (Y8 (Zn (K:=K) rfl (pv 0) rfl) T.zis zlj (hr.mono ⋯) Zk (Za (pv 1) (Za (pv 2) (Za (pv 3) Zd)))))))))),?_⟩
 obtain⟨⟨dx,v,a1,a2⟩,b,c,_⟩:=id SA;obtain⟨⟨dxr,kvr,hpr,hdr,en⟩,ndr⟩:=id b;refine⟨_,rfl,A'.p,dx,_,rfl,a1,Ye ⋯,A',S,rfl,SA,?_⟩;refine it2 h (fun _ z=>z) fun h1 h=>it2 h (fun _ z=>z) fun h2 h=>?_;refine⟨_,rfl,A'.p,a.zhw,dx,_,_,rfl,a1,T.zhx,T.zi5,Wt,A'.pr,dxr,_,rfl,hpr,Yy.no ⋯,_,rfl,_,rfl,_,rfl,A'.pr,A'.dr,S.ppl,n,g,c0,rfl,b,sm,?_⟩;refine it2 h (fun _ z=>z) fun h3 h=>it2 h (fun _ z=>z) fun h4 h=>it2 h (fun _ z=>z) fun h5 h=>?_;refine⟨_,rfl,A'.p,dx,_,rfl,a1,Ye ⋯,A',S,rfl,SA,?_⟩;refine it2 h (fun _ z=>z) fun h6 h=>?_;refine⟨_,rfl,A'.p,dx,_,rfl,a1,Ye ⋯,_,rfl,_,rfl,A'.p,dx,_,rfl,a1,Ye ⋯,A',S,rfl,SA,A',S,"enrol",n,atV S,rfl,SA,hz,fun H1 SA1 f1=>?_⟩;obtain⟨⟨dx1,v1,a11,a12⟩,b1,c1,_⟩:=id SA1;obtain⟨⟨dxr1,kvr1,hpr1,hdr1,en1⟩,ndr1⟩:=id b1;refine⟨_,rfl,A'.p,a.zhw,dx1,_,_,rfl,a11,T.zhx,T.zi5,Wt,A'.pr,dxr1,_,rfl,hpr1,Yy.no ⋯,_,rfl,_,rfl,_,rfl,A'.pr,A'.dr,S.ppl,n,g,c0,rfl,b1,sm,hz2,?_⟩;rw[if_neg h3,if_neg h4,if_neg h5];intro H2 R2 k2;obtain⟨SA2,f2⟩:=SA1.setRos R2 k2;exact h H2 SA2 (f1.trans f2)
abbrev Vl:Stmt:=Zx (top 55) 10
theorem U5:Zm ["self","matches","listed"] ["self","matches"] (Zj Vl):=fnS
theorem Pz(F:Fun K "draw_up" "Season.draw_up" Vl f fd)(T:Tx K mg a)(zim:Zt P w K mg base a.zhw "check_undrawn" 4 ["self"] (Oj (ca a)))(zmm:Yi P w K mg base "checked" 3 ["matches"] (Ld K (ca a)))(zig:Zt P w K mg base a.zhw "check_room" 1 ["self"] (Hl (ca a)))(ziy:Zt P w K mg base a.zhw "note" 1 ["self","word","number","at"] (Hm (ca a)))(zh4:Zt P w K mg base a.zhw "at_hand" 2 ["self"] (Uj (ca a)))(zlg:Yi P w K mg base "drawn_sheet" 4 ["listed","lists"] (Cc (ca a)))(ziv:Zt P w K mg base a.zhw "takers_of" 5 ["self","listed"] (Qv (ca a)))(zji:Zt P w K mg base a.zh1 "goes" 1 ["self"] (M9 (ca a))):FnOk P w K mg base (CX1 P w) 6 f fd ["self","matches"] (Fp K (ca a)):=by
 refine F.okX U5 ⋯ fun _ _ _ _ H _ Q E hr h=>?_;obtain⟨A',S,b,ts,ms,rfl,SA,hs,tl,sm,hml,hz,po,h⟩:=h;refine⟨_,(Zc (Zy (Yk (pv 0) T.zhx zim (hr.mono ⋯) Zk))
 (Zc (pS 2 U5.nd (pF zmm hr (Za (pv 1) Zd)))
 (Zc (Zy (Yk (pv 0) T.zhx zig (hr.mono ⋯) Zk))
 (Zc (Zy (Y8 (pv 0) T.zhx ziy (hr.mono ⋯) Zk (Za Zl (Za (Zs (cL K) (by rfl) T.zjl PySem.boot_len (Za (pv 2) Zd)) (Za (Yk (pv 0) T.zhx zh4 (hr.mono ⋯) Zk) Zd)))))
 (Zc (Yr (K:=K) rfl (pv 0) (pF zlg hr (Za (pv 2) (Za (Y8 (pv 0) T.zhx ziv (hr.mono ⋯) Zk (Za (pv 2) Zd)) Zd))) rfl)
 (Ze (Zo (Yk (Zn (K:=K) rfl (pv 0) rfl) T.zir zji (hr.mono ⋯) Zk)))))))),?_⟩
 obtain⟨⟨dx,v,a1,a2⟩,br,cl,_⟩:=id SA;have hts:ts.length=ms.length:=by rw[tl.length,zp3]
 refine⟨_,rfl,A'.p,dx,_,rfl,a1,Ye ⋯,A',S,rfl,SA,?_⟩;refine it2 h (fun _ z=>z) fun h1 h=>it2 h (fun _ z=>z) fun h2 h=>?_;refine⟨_,rfl,b,ts,ms,rfl,hs,tl,sm,hml,h.1,h.2.1,h.2.2.1,fun g1 g2 g3 l1 hl1=>?_⟩;have h4:=h.2.2.2 g1 g2 g3;have s1:=Zf (o:=.lst ts) hl1;have q1:upd H l1 (.lst ts) l1=some (.lst ts):=Zb;generalize upd H l1 (.lst ts)=H1 at s1 q1;have SA1:=SA.same s1;have a11:=s1 _ _ a1;refine⟨_,rfl,A'.p,dx,_,rfl,a11,Ye ⋯,A',S,rfl,SA1,?_⟩;refine Gy (fun z=>h4.1 z H1 s1) (fun hroom=>?_);refine⟨_,rfl,A'.p,dx,_,rfl,a11,Ye ⋯,_,rfl,l1,_,rfl,.inl (SqL.of q1),_,rfl,A'.p,dx,_,rfl,a11,Ye ⋯,A',S,rfl,SA1,A',S,"draw up",(ts.length:Nat),atV S,rfl,SA1,hz,fun H2 SA2 f2=>?_⟩;rw[hts] at SA2;have ok1:l1∉A'.fp:=SA.newOk l1 hl1;have q12:=f2 _ _ q1 ok1;have tl2:=(tl.same s1).mono (SA1.tups f2);obtain⟨⟨dx2,v2,a21,a22⟩,br2,_⟩:=id SA2;refine⟨_,rfl,_,rfl,A'.p,dx2,_,rfl,a21,Ye ⋯,_,rfl,A',_,l1,ts,ms,rfl,SA2,q12,tl2,by omega,zqr po.2 ⋯,po.small,fun l2 ls H3 h3 il3 s3 f3 fl3=>?_⟩;have SA3:=SA2.same s3;have mo:Nd (mayS S ms) (S.ppl.map (·.1)):=po.may br2.nd g1;refine⟨(·∉A'.fp),l1,l2,ts,ls,ms,mayS S ms,_,rfl,s3 _ _ q12,tl2.same s3,h3,il3,ok1,SA2.newOk l2 f3,fun x hx=>SA2.newOk x (fl3 x hx),SA3.newOk,mo,fun q gv H4 ShA FP SP s4 fq=>?_⟩;have SA4:=SA3.same s4;obtain⟨⟨dx4,v4,a41,a42⟩,_⟩:=id SA4;refine⟨_,rfl,A'.p,a.zhw,dx4,_,rfl,a41,T.zhx,T.zix,(by show 8<1000;decide),?_⟩;obtain⟨SA5,f5,Sh5⟩:=SA4.newSheet a41 ShA;generalize upd H4 A'.p (.ins a.zhw dx4 (putF "sheet" (.ref q) (seaF A' S.len S.rest v4)))=H5 at SA5 f5 Sh5;obtain⟨⟨dx5,v5,a51,a52⟩,_⟩:=id SA5;obtain⟨q',rfl,Sq⟩:=a52;obtain⟨dxq,m1,m2,m3,m4,hq'⟩:=ShAt.ins Sq;refine⟨_,rfl,A'.p,a.zhw,dx5,_,_,rfl,a51,T.zhx,T.zix,X5,q',dxq,_,rfl,hq',Sa ⋯ ⋯ ⋯ ⋯,(·∉A'.fp),q',_,rfl,Sq,fun l H6 hl s6 fl=>?_⟩;have fr5:FrS A' H H5:=(FrS.of A' s1).trans (f2.trans ((FrS.of A' (s3.trans s4)).trans f5));exact h4.2 ⋯ l gv H6 hl (SA5.same s6) FP SP (fr5.trans (FrS.of A' s6)) (fr5.free SA5 fl)
abbrev Tg:Stmt:=Zx (top 55) 11
theorem Ka:Zm ["self","at","number"] ["self","at","number"] (Zj Tg):=fnS
theorem Kb(F:Fun K "away" "Season.away" Tg f fd)(T:Tx K mg a)(zib:Zt P w K mg base a.zhw "check_round" 1 ["self","at"] (Me (ca a)))(zid:Zt P w K mg base a.zhz "over" 1 ["self"] (Oe a.zhz))(zic:Zt P w K mg base a.zh0 "check_known" 1 ["self","number"] (V7 (ca a)))(zig:Zt P w K mg base a.zhw "check_room" 1 ["self"] (Hl (ca a)))(ziy:Zt P w K mg base a.zhw "note" 1 ["self","word","number","at"] (Hm (ca a)))(zh4:Zt P w K mg base a.zhw "at_hand" 2 ["self"] (Uj (ca a)))(zj2:Zt P w K mg base a.zhw "step_in" 6 ["self","number"] (Fq (ca a))):FnOk P w K mg base (CX1 P w) 7 f fd ["self","at","number"] (za6 (ca a)):=by
 refine F.okX Ka ⋯ fun _ _ _ _ H _ Q E hr h=>?_;obtain⟨A',S,i,n,rfl,SA,si,sn,hz,hoz,po,hcur,h⟩:=h;have hu:=Ws hr;refine⟨_,(Zc (Zy (Y8 (pv 0) T.zhx zib (hr.mono ⋯) Zk (Za (pv 1) Zd)))
 (Zc (Zz (Zp Aj (pv 1) (Yk (Zn (K:=K) rfl (pv 0) rfl) T.zi1 zid (hr.mono ⋯) Zk) (Zr _))
  (Ze (Y1 Y0 rfl T.zn4 rfl (Za (Wy (Zw (Xi ⋯) (Zw (Wj (pv 1)) (Zw (Xi ⋯) Wx))) ⋯) Zd)))
  Zq)
 (Zc (Zy (Y8 (Zn (K:=K) rfl (pv 0) rfl) T.zis zic (hr.mono ⋯) Zk (Za (pv 2) Zd)))
 (Zc (Zz (Qh (Mr hu (Yd (Za (pv 1) (Za (pv 2) Zd))) (Zn (K:=K) rfl (pv 0) rfl)))
  (Ze (Y1 Y0 rfl T.znt rfl (Za (Wy (Zw (Xi ⋯) (Zw (Wj (pv 2)) (Zw (Xi ⋯) (Zw (Wj (pv 1)) (Zw (Xi ⋯) Wx))))) ⋯) Zd)))
  Zq)
 (Zc (Zy (Yk (pv 0) T.zhx zig (hr.mono ⋯) Zk))
 (Zc (Zy (Y8 (pv 0) T.zhx ziy (hr.mono ⋯) Zk (Za Zl (Za (pv 2) (Za (pv 1) Zd)))))
 (Zc (Wf hu (Zn (K:=K) rfl (pv 0) rfl) (Yd (Za (pv 1) (Za (pv 2) Zd))) Vq rfl)
 (Zc (Zz (PW.pt (Tn (Zp R8 (pv 1) (Yk (pv 0) T.zhx zh4 (hr.mono ⋯) Zk) (Zr _)) (Vu (Zp Mn (Zn (K:=K) rfl (pv 0) rfl) Xw (Zr _)))))
  (Ze (Zo (Z4 Zd)))
  Zq)
 (Ze (Zo (Y8 (pv 0) T.zhx zj2 (hr.mono ⋯) Zk (Za (pv 2) Zd)))))))))))),?_⟩
 show let y1:TS:=_;let y2:TS:=Z1 _ y1;let y3:TS:=Z1 _ y2;let y4:TS:=Z1 _ y3;let y5:TS:=Z1 _ y4;let y6:TS:=Z1 _ y5;let y7:TS:=Z1 _ y6;let y8:TS:=Z1 _ y7;Z1 _ y8 _ _ _;intro y1 y2 y3 y4 y5 y6 y7 y8;obtain⟨⟨dx,v,a1,a2⟩,br,cl,⟨kvs,d1,d2⟩,_⟩:=id SA;obtain⟨⟨dxl,hpl⟩,_⟩:=id cl;obtain⟨⟨dxr,kvr,hpr,hdr,en⟩,ndr⟩:=id br;refine⟨_,rfl,A'.p,dx,_,rfl,a1,Ye ⋯,_,rfl,A',S,i,rfl,SA,si,?_⟩;refine it2 h (fun _ z=>z) fun h1 h=>?_;refine⟨_,rfl,_,rfl,A'.p,a.zhw,dx,_,_,rfl,a1,T.zhx,T.zje,Ub,A'.pl,dxl,_,rfl,hpl,M5 ⋯ ⋯,A'.pl,A'.lr,A'.ld,S.led,rfl,cl,_,_,rfl,rfl,_,rfl,?_⟩;refine itD (fun hc=>?_) (fun hc=>?_)
 ·rw[if_pos hc] at h;exact⟨_,rfl,.inl ⟨_,rfl,si⟩,fun z=>⟨sz1,h⟩⟩
 rw[if_neg hc] at h;refine Zv ?_;refine⟨_,rfl,A'.p,a.zhw,dx,_,_,rfl,a1,T.zhx,T.zi5,Wt,A'.pr,dxr,_,rfl,hpr,Yy.no ⋯,_,rfl,A'.pr,A'.dr,S.ppl,n,rfl,br,sn,?_⟩;refine it2 h (fun hk h=>?_) (fun _ z=>z);refine⟨_,rfl,_,rfl,sz2,fun t ht=>?_⟩;have s1:=Zf (o:=.tup [.int i,.int n]) ht;have q1:upd H t (.tup [.int i,.int n]) t=some (.tup (([inl i,inl n]:List Key).map kV)):=Zb;generalize upd H t (.tup [.int i,.int n])=H1 at s1 q1;have SA1:=SA.same s1;have a11:=s1 _ _ a1;refine⟨_,rfl,A'.p,a.zhw,dx,_,_,rfl,a11,T.zhx,T.zjp,Tw,A'.da,_,rfl,DGet.t (k:=[inl i,inl n]) (s1 _ _ d1) q1,_,rfl,?_⟩;rw[d2.isSome];refine itD (fun hm=>?_) (fun hm=>?_)
 ·rw[if_pos hm] at h;exact⟨_,rfl,.inl ⟨_,rfl,sn⟩,_,rfl,.inl ⟨_,rfl,si⟩,fun z=>⟨sz1,h H1 s1⟩⟩
 rw[if_neg hm] at h;refine Zv ?_;refine⟨_,rfl,A'.p,dx,_,rfl,a11,Ye ⋯,A',S,rfl,SA1,?_⟩;refine it2 h (fun _ z=>z H1 s1) fun h6 h=>?_;refine⟨_,rfl,A'.p,dx,_,rfl,a11,Ye ⋯,_,rfl,_,rfl,A',S,"away",n,i,rfl,SA1,hz,fun H2 SA2 f2=>?_⟩;obtain⟨⟨dx2,v2,a21,a22⟩,br2,cl2,⟨kvs2,d21,d22⟩,_⟩:=id SA2;refine⟨_,rfl,A'.p,a.zhw,dx2,_,_,rfl,a21,T.zhx,T.zjp,Tw,_,rfl,_,rfl,sz2,fun t2 ht2=>?_⟩;have s3:=Zf (o:=.tup [.int i,.int n]) ht2;have q3:upd H2 t2 (.tup [.int i,.int n]) t2=some (.tup (([inl i,inl n]:List Key).map kV)):=Zb;generalize upd H2 t2 (.tup [.int i,.int n])=H3 at s3 q3;have SA3:=SA2.same s3;refine⟨A'.da,_,rfl,DPut.t (k:=[inl i,inl n]) (s3 _ _ d21) q3 (by have:=d22.2;have h9:kvs2.length<=S.out.length:=this;have:=Tv;omega),?_⟩;obtain⟨SA4,f4⟩:=SA3.setOut (out:=S.out++[(i,n)]) Zb (d22.put i n) (fun b o e hb=>by rw[Zh hb];exact e);generalize upd H3 A'.da (.dT (putK kvs2 [inl i,inl n] (.bl true)))=H4 at SA4 f4;have SA4:Zu (ca a) H4 A' (Xa S i n):=SA4;have fr4:FrS A' H H4:=(FrS.of A' s1).trans (f2.trans ((FrS.of A' s3).trans f4));obtain⟨⟨dx4,v4,a41,a42⟩,br4,_⟩:=id SA4;have empty:(S.cur=none\/atV S<i)->∀ l,H4 l=none->Q (.ref l) (upd H4 l (.lst [])):=fun hz l hl=>h.1 hz l _ Zb (SA4.same (Zf hl)) (fr4.trans (FrS.of A' (Zf hl))) (fr4.free SA4 hl);refine⟨_,rfl,_,rfl,A'.p,dx4,_,rfl,a41,Ye ⋯,A',_,rfl,SA4,_,_,rfl,rfl,_,rfl,?_⟩;refine itD (fun hgt=>?_) (fun hle=>?_)
 ·refine iteT ?_;exact⟨by show 0<=sizeLine;decide,fun l hl=>empty (.inr hgt) l hl⟩
 have hat:i=atV S:=by
  have hle:¬ (atV S<i):=hle;unfold atV at hle ⊢;omega
 refine⟨_,rfl,A'.p,a.zhw,dx4,_,_,rfl,a41,T.zhx,T.zix,X5,rfl,_,rfl,?_⟩;cases hc4:S.cur with
 | none =>
   have e4:v4=.non:=by
    have:ShO a.zh1 (·∉A'.fp) H4 v4 S.cur:=a42;rw[hc4] at this;exact this
   rw[e4];refine iteT ?_;exact⟨by show 0<=sizeLine;decide,fun l hl=>empty (.inl hc4) l hl⟩
 | some s =>
   have e4:∃ q,v4=.ref q:=by
    have:ShO a.zh1 (·∉A'.fp) H4 v4 S.cur:=a42;rw[hc4] at this;obtain⟨q,e,_⟩:=this;exact⟨q,e⟩
   obtain⟨q4,rfl⟩:=e4;refine iteF (Zv ?_);obtain⟨hm20,FP,emay,hgz⟩:=hcur s hc4;have po4:S7 (Xa S i n):=po;have hgl:s.gv.length<=100:=by rw[FP.len,emay];unfold mayS;rw[zp3];omega
   refine⟨_,rfl,A'.p,dx4,_,rfl,a41,Ye ⋯,_,rfl,A',Xa S i n,n,s,(Xa S i n).ppl.map (·.1),rfl,SA4,hc4,po4,hm20,FP.one,hgl,hgz,po4.may br4.nd hm20,fun hp l H5 hl SA5 f5 fl=>?_,fun p hp=>?_⟩
   ·exact h.2.1 s hat hc4 hp l H5 hl SA5 (fr4.trans f5) (fr4.free SA4 fl)
   ·have hgp:=Qx hp;refine⟨hgp,fun j hj=>FP.inj j p n hj hgp,?_,fun l us st e w' H5 hl tl CR SA5 f5 fl=>?_⟩
    ·rw[hat,Ul,<- emay];exact V6 FP hgp
    ·exact h.2.2 s p hat hc4 hp l us st e w' H5 hl tl CR SA5 (fr4.trans f5) (fr4.free SA4 fl)
abbrev Vm:Stmt:=Zx (top 55) 12
theorem Va:Zm ["self","number","lists","fallen"] ["self","number"] (Zj Vm):=fnS
theorem P0(F:Fun K "step_in" "Season.step_in" Vm f fd)(T:Tx K mg a)(ziv:Zt P w K mg base a.zhw "takers_of" 5 ["self","listed"] (Qv (ca a)))(zki:Zt P w K mg base a.zh1 "matches" 1 ["self"] (Ng (ca a)))(zi9:Zt P w K mg base a.zh1 "where" 2 ["self","number"] (Oh (ca a)))(zks:Zt P w K mg base a.zh1 "barred" 3 ["self","lists"] (Fh (ca a)))(zjr:Zt P w K mg base a.zh1 "fallen_out" 3 ["self","number","lists"] (Fi (ca a)))(zkr:Zt P w K mg base a.zh1 "chains" 1 ["self"] (Lb (ca a))):FnOk P w K mg base (CX1 P w) 6 f fd ["self","number"] (Fq (ca a)):=by
 refine F.okX Va ⋯ fun _ _ _ _ H _ Q E hr h=>?_;obtain⟨A',S,n,s,nu,rfl,SA,hc,po,hml,ho,hgl,hgz,mo,h1,h2⟩:=h;refine⟨_,(Zc (pS 2 Va.nd (Y8 (pv 0) T.zhx ziv (hr.mono ⋯) Zk (Za (Yk (Zn (K:=K) rfl (pv 0) rfl) T.zir zki (hr.mono ⋯) Zk) Zd)))
 (Zc (Zz (Zp Mn (Y8 (Zn (K:=K) rfl (pv 0) rfl) T.zir zi9 (hr.mono ⋯) Zk (Za (pv 1) Zd)) Xw (Zr _))
  (Zc (Yr (K:=K) rfl (pv 0) (Y8 (Zn (K:=K) rfl (pv 0) rfl) T.zir zks (hr.mono ⋯) Zk (Za (pv 2) Zd)) rfl)
  (Ze (Zo (Z4 Zd))))
  Zq)
 (Zc (Yr (K:=K) rfl (pv 0) (Y8 (Zn (K:=K) rfl (pv 0) rfl) T.zir zjr (hr.mono ⋯) Zk (Za (pv 1) (Za (pv 2) Zd))) rfl)
 (Zc (pS 3 Va.nd (Yk (Zn (K:=K) rfl (pv 0) rfl) T.zir zkr (hr.mono ⋯) Zk))
 (Ze (Zo (pI (iU K) (pI (iL K) (pv 3) (Af Ee Zi)) Zi))))))),?_⟩
 obtain⟨⟨dx,v,a1,a2⟩,br,cl,_⟩:=id SA;rw[hc] at a2;obtain⟨q,rfl,Sq⟩:=a2;obtain⟨dxq,m1,m2,m3,m4,hq⟩:=ShAt.ins Sq;refine⟨_,rfl,A'.p,dx,_,rfl,a1,Ye ⋯,_,rfl,A'.p,a.zhw,dx,_,_,rfl,a1,T.zhx,T.zix,X5,q,dxq,_,rfl,hq,Sa ⋯ ⋯ ⋯ ⋯,(·∉A'.fp),q,s,rfl,Sq,fun l1 ts H1 hl1 tl s1 f1=>?_⟩;have SA1:=SA.same s1;refine⟨A',S,l1,ts,s.ms,rfl,SA1,hl1,tl,by omega,zqr po.2 ⋯,po.small,fun l2 ls H2 h3 il3 s2 f3 fl3=>?_⟩;have s12:=s1.trans s2;have SA2:=SA1.same s2;have Sq2:=Sq.same s12;refine⟨_,rfl,A'.p,a.zhw,dx,_,_,rfl,s12 _ _ a1,T.zhx,T.zix,X5,q,dxq,_,rfl,s12 _ _ hq,Sa ⋯ ⋯ ⋯ ⋯,_,rfl,(·∉A'.fp),q,s,n,rfl,Sq2,ho,hgl,fun H3 s3=>?_⟩;have s13:=s12.trans s3;have SA3:=SA2.same s3;have Sq3:=Sq2.same s3;have il4:=il3.same s3;refine⟨rfl,_,rfl,?_⟩;cases hp:X2 s.gv n with
 | none =>
   refine iteT ?_;refine⟨_,rfl,A'.p,a.zhw,dx,_,_,rfl,s13 _ _ a1,T.zhx,T.zix,X5,q,dxq,_,rfl,s13 _ _ hq,Sa ⋯ ⋯ ⋯ ⋯,_,rfl,(·∉A'.fp),q,l2,ls,mayS S s.ms,s,rfl,Sq3,s3 _ _ h3,il4,SA1.newOk l2 f3,fun x hx=>SA1.newOk x (fl3 x hx),SA3.newOk,fun q' H4 ShA s4 fq=>?_⟩;have SA4:=SA3.same s4;obtain⟨⟨dx4,v4,a41,a42⟩,_⟩:=id SA4;refine⟨_,rfl,A'.p,a.zhw,dx4,_,rfl,a41,T.zhx,T.zix,(by show 8<1000;decide),?_⟩;obtain⟨SA5,f5,Sh5⟩:=SA4.newSheet a41 ShA;generalize upd H4 A'.p (.ins a.zhw dx4 (putF "sheet" (.ref q') (seaF A' S.len S.rest v4)))=H5 at SA5 f5 Sh5;have fr5:FrS A' H H5:=(FrS.of A' (s13.trans s4)).trans f5;refine⟨by show 0<=sizeLine;decide,fun l hl=>?_⟩;exact h1 hp l _ Zb (SA5.same (Zf hl)) (fr5.trans (FrS.of A' (Zf hl))) (fr5.free SA5 hl)
 | some p =>
   refine iteF (Zv ?_);obtain⟨hgp,hun,FP,h3'⟩:=h2 p hp;refine⟨_,rfl,A'.p,a.zhw,dx,_,_,rfl,s13 _ _ a1,T.zhx,T.zix,X5,q,dxq,_,rfl,s13 _ _ hq,Sa ⋯ ⋯ ⋯ ⋯,_,rfl,_,rfl,(·∉A'.fp),q,l2,ls,mayS S s.ms,nu,s,n,p,rfl,Sq3,s3 _ _ h3,il4,SA1.newOk l2 f3,fun x hx=>SA1.newOk x (fl3 x hx),SA3.newOk,mo,ho,hgp,hun,FP,by omega,fun q' st e w' H4 ShA CR s4 fq=>?_⟩;have SA4:=SA3.same s4;obtain⟨⟨dx4,v4,a41,a42⟩,_⟩:=id SA4;refine⟨_,rfl,A'.p,a.zhw,dx4,_,rfl,a41,T.zhx,T.zix,(by show 8<1000;decide),?_⟩;obtain⟨SA5,f5,Sh5⟩:=SA4.newSheet a41 ShA;generalize upd H4 A'.p (.ins a.zhw dx4 (putF "sheet" (.ref q') (seaF A' S.len S.rest v4)))=H5 at SA5 f5 Sh5;have fr5:FrS A' H H5:=(FrS.of A' (s13.trans s4)).trans f5;obtain⟨⟨dx5,v5,a51,a52⟩,_⟩:=id SA5;obtain⟨q5,rfl,Sq5⟩:=a52;obtain⟨dxq5,m51,m52,m53,m54,hq5⟩:=ShAt.ins Sq5;refine⟨_,rfl,A'.p,a.zhw,dx5,_,_,rfl,a51,T.zhx,T.zix,X5,q5,dxq5,_,rfl,hq5,Sa ⋯ ⋯ ⋯ ⋯,(·∉A'.fp),q5,_,rfl,Sq5,by show (s.gaps++[(n,st)]).length<=1000;rw[zp6];show s.gaps.length+1<=1000;omega,fun l us H6 hl gl s6 fl=>?_⟩;obtain⟨vs',t,l',us',rfl,ht,hl',tl',ok',_⟩:=Wm.unsnoc gl;refine⟨_,rfl,_,rfl,l,_,_,_,rfl,rfl,SqL.of hl,za4,t,_,_,_,rfl,rfl,SqT.of ht,rfl,?_⟩;exact h3' l' us' st e w' H6 hl' tl' CR (SA5.same s6) (fr5.trans (FrS.of A' s6)) (fr5.free SA5 ok')
abbrev Uw:Stmt:=Zx (top 55) 13
theorem Sr:Zm ["self","sheet"] ["self"] (Zj Uw):=fnS
theorem N3(F:Fun K "close" "Season.close" Uw f fd)(T:Tx K mg a)(zil:Zt P w K mg base a.zhw "check_not_over" 3 ["self"] (Oi (ca a)))(zin:Zt P w K mg base a.zhw "sheet_at_hand" 1 ["self"] (Qu (ca a)))(zk1:Zt P w K mg base a.zhz "write" 1 ["self","rows"] (Fg a.zhz))(zlp:Zt P w K mg base a.zh1 "rows" 1 ["self"] (Fj (ca a)))(zid:Zt P w K mg base a.zhz "over" 1 ["self"] (Oe a.zhz)):FnOk P w K mg base (CX1 P w) 4 f fd ["self"] (Cg (ca a)):=by
 refine F.okX Sr ⋯ fun _ _ _ _ H _ Q E hr h=>?_;obtain⟨A',S,rfl,SA,ht,hl,hol,hcur,h⟩:=h;refine⟨_,(Zc (Zy (Yk (pv 0) T.zhx zil (hr.mono ⋯) Zk))
 (Zc (pS 1 Sr.nd (Yk (pv 0) T.zhx zin (hr.mono ⋯) Zk))
 (Zc (Zy (Y8 (Zn (K:=K) rfl (pv 0) rfl) T.zi1 zk1 (hr.mono ⋯) Zk (Za (Yk (pv 1) T.zir zlp (hr.mono ⋯) Zk) Zd)))
 (Zc (Yq (Zn (K:=K) rfl (pv 0) rfl) (pv 1))
 (Zc (Yr (K:=K) rfl (pv 0) Xw rfl)
 (Zc (Yr (K:=K) rfl (pv 0) (Z4 Zd) rfl)
 (Ze (Zo (Yk (Zn (K:=K) rfl (pv 0) rfl) T.zi1 zid (hr.mono ⋯) Zk))))))))),?_⟩
 obtain⟨⟨dx,v,a1,a2⟩,br,cl,_⟩:=id SA;obtain⟨⟨dxl,hpl⟩,_⟩:=id cl;refine⟨_,rfl,A'.p,dx,_,rfl,a1,Ye ⋯,A',S,rfl,SA,?_⟩;refine it2 h (fun _ z=>z) fun h1 h=>?_;refine⟨_,rfl,A'.p,dx,_,rfl,a1,Ye ⋯,A',S,rfl,SA,h.1,fun s q hc Sq=>?_⟩;obtain⟨ho,hgl,hml⟩:=hcur s hc;obtain⟨dxq,m1,m2,m3,m4,hq⟩:=ShAt.ins Sq;refine⟨_,rfl,A'.p,a.zhw,dx,_,_,rfl,a1,T.zhx,T.zje,Ub,A'.pl,dxl,_,rfl,hpl,M5 ⋯ ⋯,_,rfl,q,dxq,_,rfl,hq,Sa ⋯ ⋯ ⋯ ⋯,(·∉A'.fp),q,s,rfl,Sq,ho,hgl,hml,fun l1 ts H1 hl1 tl s1 f1=>?_⟩;have SA1:=SA.same s1;have ok1:l1∉A'.fp:=SA.newOk l1 f1;refine⟨A'.pl,A'.lr,A'.ld,S.led,l1,ts,X4 s,rfl,SA1.led,hl1,fun z=>ok1 (by rw[z];simp[SAd.fp]),tl,by rw[Fl hgl];omega,hl,fun H2 L2' k2=>?_⟩;obtain⟨SA2,f2⟩:=SA1.setLed L2' k2;obtain⟨⟨dx2,v2,a21,a22⟩,br2,cl2,d2,⟨vs,f21,f22⟩,_⟩:=id SA2;have Sq2:=(Sq.same s1).keep (fun x o hx e=>f2 x o e hx) (SA1.tups f2);refine⟨_,rfl,A'.p,a.zhw,dx2,_,_,rfl,a21,T.zhx,T.zkz,Jr,A'.ls,vs,rfl,f21,_,rfl,vs,f21,by have:=f22.length;have h9:vs.length=S.old.length:=this;have:=Tv;omega,?_⟩;have k3:∀ b o,H2 b=some o->b≠A'.ls->upd H2 A'.ls (.lst (vs++[.ref q])) b=some o:=fun b o e hb=>by rw[Zh hb];exact e
 have kt3:∀ t xs,H2 t=some (.tup xs)->upd H2 A'.ls (.lst (vs++[.ref q])) t=some (.tup xs):=fun t xs e=>k3 t _ e (Z9 e f21 (fun z=>nomatch z));have ko3:∀ x o,x∉A'.fp->H2 x=some o->upd H2 A'.ls (.lst (vs++[.ref q])) x=some o:=fun x o hx e=>k3 x o e fun z=>hx (by rw[z];simp[SAd.fp]);obtain⟨SA3,f3⟩:=SA2.setOld (old:=S.old++[s]) Zb ((f22.keep ko3 kt3).snoc (Sq2.keep ko3 kt3)) k3;generalize upd H2 A'.ls (.lst (vs++[.ref q]))=H3 at SA3 f3;obtain⟨⟨dx3,v3,a31,a32⟩,_⟩:=id SA3;refine⟨_,rfl,A'.p,a.zhw,dx3,_,rfl,a31,T.zhx,T.zix,(by show 8<1000;decide),?_⟩;obtain⟨SA4,f4⟩:=SA3.setCur (H':=upd H3 A'.p (.ins a.zhw dx3 (putF "sheet" .non (seaF A' S.len S.rest v3)))) (cur:=none) (v:=.non) ⟨dx3,by rw[Zb];exact congrArg (fun x=>some (HO.ins a.zhw dx3 x)) Qw⟩ rfl (fun b o e hb=>by rw[Zh hb];exact e);generalize upd H3 A'.p (.ins a.zhw dx3 (putF "sheet" .non (seaF A' S.len S.rest v3)))=H4 at SA4 f4;obtain⟨⟨dx4,v4,a41,a42⟩,_⟩:=id SA4;refine⟨by show 0<=sizeLine;decide,fun x hx=>?_⟩;have npx:A'.p≠x:=Zg a41 hx;refine⟨_,rfl,A'.p,a.zhw,dx4,_,rfl,(by rw[Zh npx];exact a41),T.zhx,T.zi0,(by show 8<1000;decide),?_⟩;obtain⟨SA5,f5⟩:=SA4.freshStd hx a41 a42 rfl;have fr4:FrS A' H H4:=(FrS.of A' s1).trans (f2.trans (f3.trans f4));have fx:H x=none:=fr4.free SA4 hx;generalize upd (upd H4 x (.lst [])) A'.p (.ins a.zhw dx4 (putF "standing" (.ref x) (seaF A' S.len S.rest v4)))=H5 at SA5 f5;have SA5:Zu (ca a) H5 { A' with lt:=x } (Hq S s):=SA5;obtain⟨⟨dx5,v5,a51,a52⟩,br5,cl5,_⟩:=id SA5;obtain⟨⟨dxl5,hpl5⟩,_⟩:=id cl5;refine⟨_,rfl,A'.p,a.zhw,dx5,_,_,rfl,a51,T.zhx,T.zje,Ub,A'.pl,dxl5,_,rfl,hpl5,M5 ⋯ ⋯,A'.pl,A'.lr,A'.ld,S.led++[X4 s],rfl,cl5,?_⟩;have hfin:=h.2 s x H5 hc SA5 (fr4.trans f5) fx;have e:(((S.led++[X4 s]).length:Nat):Int)=atV S:=by rw[zp6];rfl
 rw[e];exact hfin
abbrev Wr:Stmt:=Zx (top 55) 14
theorem Wc:Zm ["self","last","deed"] ["self"] (Zj Wr):=fnS
theorem R7(F:Fun K "take_back" "Season.take_back" Wr f fd)(T:Tx K mg a)(zkg:Zt P w K mg base a.zh0 "strike" 1 ["self","number"] (Fc (ca a))):FnOk P w K mg base (CX1 P w) 2 f fd ["self"] (Lg (ca a)):=by
 refine F.okX Wc ⋯ fun _ _ _ _ H _ Q E hr h=>?_;obtain⟨A',S,rfl,SA,h1,h2⟩:=h;have hu:=Ws hr;refine⟨_,(Zc (Zz (Ud (Ji (K:=K) rfl (Zn (K:=K) rfl (pv 0) rfl) (fun _=>rfl)))
  (Ze (Y1 Y0 rfl T.zl0 rfl (Za Zl Zd)))
  Zq)
 (Zc (pS 1 Wc.nd (Ik PySem.F.plainAttrs_list PySem.F.slot_list_pop PySem.F.type_list_pop Et (Zn (K:=K) rfl (pv 0) rfl)))
 (Zc (pS 2 Wc.nd (pI (iU K) (pv 1) Zi))
 (Zc (Yr (K:=K) rfl (pv 0) (pI (iU K) (pv 1) Zi) rfl)
 (Zc (Zz (Zp Y6 (pI (iU K) (pv 2) Zi) Zl (Zr _))
  (Ze (Zy (Y8 (Zn (K:=K) rfl (pv 0) rfl) T.zis zkg (hr.mono ⋯) Zk (Za (pI (iU K) (pv 2) Zi) Zd))))
  Zq)
 (Zc (Zz (Zp Y6 (pI (iU K) (pv 2) Zi) Zl (Zr _))
  (Ze (Zy (za1 hu (Zn (K:=K) rfl (pv 0) rfl) (Yd (Za (pI (iU K) (pv 2) Zi) (Za (pI (iU K) (pv 2) Zi) Zd))) ⟨rfl,rfl,rfl,rfl⟩)))
  Zq)
 (Ze (Zo (pv 2))))))))),?_⟩
 show let y1:TS:=_;let y2:TS:=Z1 _ y1;let y3:TS:=Z1 _ y2;let y4:TS:=Z1 _ y3;let y5:TS:=Z1 _ y4;let y6:TS:=Z1 _ y5;Z1 _ y6 _ _ _;intro y1 y2 y3 y4 y5 y6;obtain⟨⟨dx,v,a1,a2⟩,br,cl,d0,f0,⟨us,g1,g2⟩,_⟩:=id SA;refine⟨_,rfl,A'.p,a.zhw,dx,_,_,rfl,a1,T.zhx,T.zi0,Vt,_,.inl ⟨_,SqL.of g1,rfl⟩,?_⟩;have hul:=g2.length;rcases List.eq_nil_or_concat S.std with hn|⟨std',⟨d,s⟩,he⟩
 ·rw[hn] at hul;have hu0:us=[]:=List.length_eq_zero_iff.mp hul;rw[hu0];exact iteT ⟨sz1,h1 hn⟩
 have he:S.std=std'++[(d,s)]:=by rw[he,List.concat_eq_append]
 rw[he] at g2;obtain⟨vs',t,u,v',rfl,ht,hu',hs,g3⟩:=Vs.unsnoc g2;have hne:(vs'++[V.ref t]).isEmpty=false:=by cases vs'<;>rfl
 rw[hne];refine iteF (Zv ?_);obtain⟨ppl,out,hbk,hfin⟩:=h2 std' d s he;refine⟨_,rfl,A'.p,a.zhw,dx,_,_,rfl,a1,T.zhx,T.zi0,Vt,.inl ⟨rfl,_,SqL.of g1⟩,A'.lt,_,V.ref t,rfl,rfl,g1,by simp,?_⟩;rw[List.dropLast_concat];have k1:∀ b o,H b=some o->b≠A'.lt->upd H A'.lt (.lst vs') b=some o:=fun b o e hb=>by rw[Zh hb];exact e
 have kt1:∀ t xs,H t=some (.tup xs)->upd H A'.lt (.lst vs') t=some (.tup xs):=fun t xs e=>k1 t _ e (Z9 e g1 (fun z=>nomatch z));have ko1:∀ x o,x∉A'.fp->H x=some o->upd H A'.lt (.lst vs') x=some o:=fun x o hx e=>k1 x o e fun z=>hx (by rw[z];simp[SAd.fp]);obtain⟨SA1,f1⟩:=SA.setStd (std:=std') Zb (g3.keep ko1 kt1) k1;have ht1:=kt1 _ _ ht;have hu1:=kt1 _ _ hu';have hs1:=hs.keep ko1 kt1;generalize upd H A'.lt (.lst vs')=H1 at SA1 f1 ht1 hu1 hs1;refine⟨_,rfl,t,_,_,_,rfl,rfl,SqT.of ht1,rfl,?_⟩;obtain⟨⟨dx1,v1,a11,a12⟩,_⟩:=id SA1;refine⟨_,rfl,t,_,_,_,rfl,rfl,SqT.of ht1,rfl,_,rfl,A'.p,a.zhw,dx1,_,rfl,a11,T.zhx,T.zix,(by show 8<1000;decide),?_⟩;have k2:∀ b o,H1 b=some o->b≠A'.p->upd H1 A'.p (.ins a.zhw dx1 (putF "sheet" v' (seaF A' S.len S.rest v1))) b=some o:=fun b o e hb=>by rw[Zh hb];exact e
 have kt2:∀ t xs,H1 t=some (.tup xs)->upd H1 A'.p (.ins a.zhw dx1 (putF "sheet" v' (seaF A' S.len S.rest v1))) t=some (.tup xs):=fun t xs e=>k2 t _ e (Z9 e a11 (fun z=>nomatch z));obtain⟨SA2,f2⟩:=SA1.setCur (cur:=s) (v:=v') ⟨dx1,by rw[Zb];exact congrArg (fun x=>some (HO.ins a.zhw dx1 x)) Qw⟩ (hs1.keep (fun x o hx e=>k2 x o e fun z=>hx (by rw[z];simp[SAd.fp])) kt2) k2;have hu2:=kt2 _ _ hu1;generalize upd H1 A'.p (.ins a.zhw dx1 (putF "sheet" v' (seaF A' S.len S.rest v1)))=H2 at SA2 f2 hu2;have fr2:=f1.trans f2;have d0:atI (Y9 d) 0=some (.str d.1):=rfl;have d1:atI (Y9 d) 1=some (.int d.2.1):=rfl;have d2:atI (Y9 d) 2=some (.int d.2.2):=rfl;have es:∀ w:Str,decide (V.str d.1=V.str w)=decide (d.1=w):=fun w=>by
  by_cases z:d.1=w
  ·rw[zp8 z,zp8 (congrArg V.str z)]
  ·rw[zqd z,zqd (fun q=>z (V.str.inj q))]
 walk_at "if";refine Y2 ?_;refine⟨_,rfl,u,_,_,_,rfl,rfl,SqT.of hu2,d0,rfl,_,rfl,?_⟩;rw[es];obtain⟨⟨dx2,v2,a21,a22⟩,br2,cl2,⟨kvs2,e21,e22⟩,_⟩:=id SA2;have n1:¬ (("enrol":Str)="away"):=by decide +kernel
 have n2:¬ (("draw up":Str)="away"):=by decide +kernel
 have n3:¬ (("draw up":Str)="enrol"):=by decide +kernel
 have n4:¬ (("away":Str)="enrol"):=by decide +kernel
 rcases hbk with ⟨hd,⟨g,c0,hp⟩,ho⟩|⟨hd,hp,ho,hno⟩|⟨hd,hp,ho⟩
 ·rw[zp8 hd];refine iteT ?_;obtain⟨⟨dxr,kvr,hpr,hdr,en⟩,ndr⟩:=id br2;refine⟨_,rfl,A'.p,a.zhw,dx2,_,_,rfl,a21,T.zhx,T.zi5,Wt,A'.pr,dxr,_,rfl,hpr,Yy.no ⋯,_,rfl,u,_,_,_,rfl,rfl,SqT.of hu2,d1,A'.pr,A'.dr,ppl,d.2.1,g,c0,rfl,(show Yy a.zh0 H2 A'.pr A'.dr (ppl++[(d.2.1,g,c0)]) by have:Yy a.zh0 H2 A'.pr A'.dr S.ppl:=br2;rw[hp] at this;exact this),fun H3 R3 k3=>?_⟩;obtain⟨SA3,f3⟩:=SA2.setRos R3 k3;have hu3:=SA2.tups f3 _ _ hu2;refine⟨_,rfl,u,_,_,_,rfl,rfl,SqT.of hu3,d0,rfl,_,rfl,?_⟩;rw[es,zqd (by rw[hd];exact n1)];refine iteF (Zv ⟨_,rfl,?_⟩);refine hfin u H3 hu3 ?_ (fr2.trans f3);rw[ho];exact SA3
 ·rw[zqd (by rw[hd];exact n4)];refine iteF (Zv ?_);refine⟨_,rfl,u,_,_,_,rfl,rfl,SqT.of hu2,d0,rfl,_,rfl,?_⟩;rw[es,zp8 hd];refine iteT ?_;refine⟨_,rfl,A'.p,a.zhw,dx2,_,_,rfl,a21,T.zhx,T.zjp,Tw,A'.da,rfl,.inr ⟨kvs2,.inl e21⟩,_,rfl,u,_,_,_,rfl,rfl,SqT.of hu2,d2,_,rfl,u,_,_,_,rfl,rfl,SqT.of hu2,d1,sz2,fun tk htk=>?_⟩;have s3:=Zf (o:=.tup [.int d.2.2,.int d.2.1]) htk;have q3:upd H2 tk (.tup [.int d.2.2,.int d.2.1]) tk=some (.tup (([inl d.2.2,inl d.2.1]:List Key).map kV)):=Zb;generalize upd H2 tk (.tup [.int d.2.2,.int d.2.1])=H3 at s3 q3;have SA3:=SA2.same s3;have e22:S5 kvs2 S.out:=e22;rw[ho] at e22;have hv:∃ vv,valV kvs2 [inl d.2.2,inl d.2.1]=some vv:=zrc.mp (by rw[e22.1,zp8 (by simp)]);obtain⟨vv,hv⟩:=hv;refine⟨kvs2,[inl d.2.2,inl d.2.1],tk,vv,s3 _ _ e21,rfl,q3,hv,?_⟩;obtain⟨SA4,f4⟩:=SA3.setOut (out:=out) Zb (e22.drop hno) (fun b o e hb=>by rw[Zh hb];exact e);have hu4:=SA3.tups f4 _ _ (s3 _ _ hu2);refine⟨_,rfl,hfin u _ hu4 ?_ (fr2.trans ((FrS.of A' s3).trans f4))⟩;rw[hp];exact SA4
 ·rw[zqd (by rw[hd];exact n3)];refine iteF (Zv ?_);refine⟨_,rfl,u,_,_,_,rfl,rfl,SqT.of hu2,d0,rfl,_,rfl,?_⟩;rw[es,zqd (by rw[hd];exact n2)];refine iteF (Zv ⟨_,rfl,hfin u H2 hu2 ?_ fr2⟩);rw[hp,ho];exact SA2
abbrev Vn:Stmt:=Zx (top 55) 15
theorem P1:Zm ["self"] ["self"] (Zj Vn):=fnS
theorem P2(F:Fun K "at_hand" "Season.at_hand" Vn f fd)(T:Tx K mg a)(zid:Zt P w K mg base a.zhz "over" 1 ["self"] (Oe a.zhz)):FnOk P w K mg base (CX1 P w) 2 f fd ["self"] (Uj (ca a)):=by
 refine F.okX P1 ⋯ fun _ _ _ _ H _ Q E hr h=>?_;obtain⟨A',S,rfl,SA,h⟩:=h;refine⟨_,(Ze (Zo (Z3 Vv (Yk (Zn (K:=K) rfl (pv 0) rfl) T.zi1 zid (hr.mono ⋯) Zk) Zi))),?_⟩;obtain⟨⟨dx,v,a1,a2⟩,b,c,_⟩:=id SA;obtain⟨⟨dxl,hpl⟩,_⟩:=id c;refine⟨_,rfl,A'.p,a.zhw,dx,_,_,rfl,a1,T.zhx,T.zje,Ub,A'.pl,dxl,_,rfl,hpl,M5 ⋯ ⋯,A'.pl,A'.lr,A'.ld,S.led,rfl,c,_,_,rfl,rfl,?_⟩;exact h
abbrev Ux:Stmt:=Zx (top 55) 16
theorem N4:Zm ["self"] ["self"] (Zj Ux):=fnS
theorem N5(F:Fun K "deeds" "Season.deeds" Ux f fd)(T:Tx K mg a):FnOk P w K mg base (CX1 P w) 1 f fd ["self"] (Ci (ca a)):=by
 refine F.okX N4 ⋯ fun _ _ _ _ H _ Q E hr h=>?_;obtain⟨A',S,rfl,SA,hz,h⟩:=h;have hu:=Ws hr;refine⟨_,(Ze (Zo (M7 rfl (Pm.mk (xo:=["deed","sheet"]) (ys:=[]) (js:=[]) rfl rfl ⋯ ⋯ rfl (by repeat' (first|exact True.intro|apply And.intro|rfl)) (by repeat' (first|exact True.intro|apply And.intro|rfl)) ⋯) (Yv (K:=K) rfl (Zn (K:=K) rfl (pv 0) rfl)) (fun _ _ _ _ _=>U3) (fun _ _ _ _ _=>(V3 (K:=K) (n:=2) rfl rfl (Z8 (V1 (i:=0) (show List.Nodup [("deed":Str),("sheet":Str)] by decide +kernel) rfl (by first|exact Or.inl rfl|exact Or.inr rfl)) (Z8 (V1 (i:=1) (show List.Nodup [("deed":Str),("sheet":Str)] by decide +kernel) rfl (by first|exact Or.inl rfl|exact Or.inr rfl)) V2)))) (fun _ _ _ _ _=>(pv 0))))),?_⟩;obtain⟨⟨dx,v,a1,a2⟩,br,cl,d0,f0,⟨us,g1,g2⟩,_⟩:=id SA;have hul:=g2.length;refine⟨_,rfl,A'.p,a.zhw,dx,_,_,rfl,a1,T.zhx,T.zi0,Vt,A'.lt,rfl,⟨_,SqL.of g1⟩,?_⟩;refine Lc (K:=K) (xs:=us) (fun i ys H'=>H'=H/\Z0 H ys ((S.std.take i).map fun x=>Y9 x.1)/\ys.length=i) ⟨rfl,.nil,rfl⟩ (fun i ys H' _ ⟨e,_⟩=>by rw[e];exact SqL.of g1) (szN ⋯) (fun i ys H' ⟨_,_,e⟩=>by omega) ?_ ?_
 ·rintro i x ys H' hx ⟨rfl,tl,hyl⟩;obtain⟨t,u,v',d,s,rfl,hgi,ht,hu'⟩:=g2.get hx;refine⟨t,_,rfl,SqT.of ht,rfl,_,_,rfl,_,_,rfl,rfl,⟨[some (.ref u),some v'],rfl,rfl⟩,?_⟩;unfold tYes;dsimp only;rw[if_pos rfl];refine⟨_,rfl,rfl,?_,by rw[zp6,hyl];rfl⟩;have e:S.std.take (i+1)=S.std.take i++[(d,s)]:=by rw[zre,hgi];rfl
  rw[e,zqg];exact tl.snoc hu'
 ·rintro ys H' ⟨rfl,tl,hyl⟩ l hl;rw[hul,zqz] at tl;exact h l ys _ Zb (tl.same (Zf hl)) (Zf hl) hl
abbrev Vo:Stmt:=Zx (top 55) 19
theorem P4:Zm ["self","at","number"] ["self","at","number"] (Zj Vo):=fnS
theorem P5(F:Fun K "is_away" "Season.is_away" Vo f fd)(T:Tx K mg a)(zib:Zt P w K mg base a.zhw "check_round" 1 ["self","at"] (Me (ca a)))(zic:Zt P w K mg base a.zh0 "check_known" 1 ["self","number"] (V7 (ca a))):FnOk P w K mg base (CX1 P w) 2 f fd ["self","at","number"] (Fs (ca a)):=by
 refine F.okX P4 ⋯ fun _ _ _ _ H _ Q E hr h=>?_;obtain⟨A',S,i,n,rfl,SA,si,sn,h⟩:=h;have hu:=Ws hr;refine⟨_,(Zc (Zy (Y8 (pv 0) T.zhx zib (hr.mono ⋯) Zk (Za (pv 1) Zd)))
 (Zc (Zy (Y8 (Zn (K:=K) rfl (pv 0) rfl) T.zis zic (hr.mono ⋯) Zk (Za (pv 2) Zd)))
 (Ze (Zo (zdm (Mr hu (Yd (Za (pv 1) (Za (pv 2) Zd))) (Zn (K:=K) rfl (pv 0) rfl))))))),?_⟩
 obtain⟨⟨dx,v,a1,a2⟩,br,cl,⟨kvs,d1,d2⟩,_⟩:=id SA;obtain⟨⟨dxr,kvr,hpr,hdr,en⟩,ndr⟩:=id br;refine⟨_,rfl,A'.p,dx,_,rfl,a1,Ye ⋯,_,rfl,A',S,i,rfl,SA,si,?_⟩;refine it2 h (fun _ z=>z) fun h1 h=>?_;refine⟨_,rfl,A'.p,a.zhw,dx,_,_,rfl,a1,T.zhx,T.zi5,Wt,A'.pr,dxr,_,rfl,hpr,Yy.no ⋯,_,rfl,A'.pr,A'.dr,S.ppl,n,rfl,br,sn,?_⟩;refine it2 h (fun hk h=>?_) (fun _ z=>z);refine⟨_,rfl,_,rfl,sz2,fun t ht=>?_⟩;have s1:=Zf (o:=.tup [.int i,.int n]) ht;have q1:upd H t (.tup [.int i,.int n]) t=some (.tup (([inl i,inl n]:List Key).map kV)):=Zb;generalize upd H t (.tup [.int i,.int n])=H1 at s1 q1;refine⟨_,rfl,A'.p,a.zhw,dx,_,_,rfl,s1 _ _ a1,T.zhx,T.zjp,Tw,A'.da,_,rfl,DGet.t (k:=[inl i,inl n]) (s1 _ _ d1) q1,?_⟩;rw[d2.isSome];exact h H1 s1
abbrev Th:Stmt:=Zx (top 55) 21
theorem Kc:Zm ["self","at"] ["self","at"] (Zj Th):=fnS
theorem Kd(F:Fun K "goes" "Season.goes" Th f fd)(T:Tx K mg a)(zjx:Zt P w K mg base a.zhw "sheet_of" 3 ["self","at"] (Js (ca a)))(zji:Zt P w K mg base a.zh1 "goes" 1 ["self"] (M9 (ca a))):FnOk P w K mg base (CX1 P w) 4 f fd ["self","at"] (ze1 (ca a)):=by
 refine F.okX Kc ⋯ fun _ _ _ _ H _ Q E hr h=>?_;obtain⟨A',S,i,rfl,SA,hr0⟩:=h;refine⟨_,(Ze (Zo (Yk (Y8 (pv 0) T.zhx zjx (hr.mono ⋯) Zk (Za (pv 1) Zd)) T.zir zji (hr.mono ⋯) Zk))),?_⟩;obtain⟨si,hol,h⟩:=hr0;obtain⟨⟨dx,v,a1,a2⟩,_⟩:=id SA;refine⟨_,rfl,A'.p,dx,_,rfl,a1,Ye ⋯,_,rfl,A',S,i,rfl,SA,si,hol,it2 h (fun _ z=>z) fun hn h=>⟨h.1,fun s q hs Sq=>?_⟩⟩;obtain⟨dxq,m1,m2,m3,m4,hq⟩:=ShAt.ins Sq;exact⟨q,dxq,_,rfl,hq,Sa ⋯ ⋯ ⋯ ⋯,(·∉A'.fp),q,s,rfl,Sq,fun l H' a b c=>h.2 s hs l H' a b c⟩
abbrev Rh:Stmt:=top 57
theorem Gb:Zm ["_law_found"] ["_law_found"] (Zj Rh):=fnS
theorem Gd(F:Fun K "_law_whole" "_law_whole" Rh f fd)(T:Tx K mg a):FnOk P w K mg base (CX1 P w) 1 f fd ["_law_found"] D4:=by
 refine F.okX Gb ⋯ fun _ _ _ _ H _ Q E hr h=>?_;obtain⟨i,rfl,h⟩:=h;refine⟨_,(Ze (Zo (P6 (Zs (Z2 (K:=K) rfl) (by rfl) T.zh2 PyProof.Rows.boot_isinstance (Za (pv 0) (Za (Uz rfl T.zme PyProof.Rows.boot_int (show RelV (.ty "int") _ from rfl)) Zd))) (Ml (zdp (Zs (Z2 (K:=K) rfl) (by rfl) T.zh2 PyProof.Rows.boot_isinstance (Za (pv 0) (Za (Uz rfl T.zms PyProof.Rows.boot_bool (show RelV (.ty "bool") _ from rfl)) Zd)))))))),?_⟩;refine⟨_,rfl,_,_,_,_,rfl,.of (.int i),.inl ⟨_,rfl⟩,zej K,_,rfl,?_⟩;refine iteT ?_;exact⟨_,rfl,_,_,_,_,rfl,.of (.int i),.inl ⟨_,rfl⟩,zek K,_,rfl,h⟩
abbrev Ke:Stmt:=top 58
theorem B5:Zm ["_law_script","_law_k"] ["_law_script","_law_k"] (Zj Ke):=fnS
theorem B6(F:Fun K "_law_at" "_law_at" Ke f fd)(T:Tx K mg a):FnOk P w K mg base (CX1 P w) 1 f fd ["_law_script","_law_k"] (zen K):=by
 refine F.okX B5 ⋯ fun _ _ _ _ H _ Q E hr h=>?_;obtain⟨b,ns,k,rfl,hs,h⟩:=h;refine⟨_,(Zc (Zz (Zp K7 (pv 1) (Zs (cL K) (by rfl) T.zjl PySem.boot_len (Za (pv 0) Zd)) (Zr _))
  (Ze (Zo (pI (iL K) (pv 0) (pv 1))))
  Zq)
 (Ze (Zo Zi))),?_⟩
 refine⟨_,rfl,_,rfl,b,_,rfl,.inl hs,_,_,rfl,rfl,_,rfl,?_⟩;rw[zp3];refine itD (fun hk=>?_) (fun hk=>?_)
 ·have hk':k<ns.length:=by omega
  refine⟨_,rfl,_,rfl,b,_,_,_,rfl,rfl,hs,Yw (show (ns.map V.int)[k]?=some (.int (Qc ns k)) from ?_),h⟩;unfold Qc;rw[zqb,zp5 hk'];rfl
 ·have e:Qc ns k=0:=by unfold Qc;rw[List.getElem?_eq_none ⋯];rfl
  rw[e] at h;exact h
abbrev O1:Stmt:=top 59
theorem Sk:Zm ["_law_cell_here","_law_k","_law_one","_law_two","_law_three"] ["_law_cell_here","_law_k"] (Zj O1):=fnS
theorem Dh(F:Fun K "_law_mix" "_law_mix" O1 f fd)(T:Tx K mg a):FnOk P w K mg base (CX1 P w) 1 f fd ["_law_cell_here","_law_k"] zc9:=by
 refine F.okX Sk ⋯ fun _ _ _ _ H _ Q E hr h=>?_;obtain⟨c,k,rfl,h⟩:=h;refine⟨_,(Zc (pS 2 Sk.nd (Z3 Ue (Z3 Vv (Z3 Qi (pv 0) Zi) (pv 1)) Zi))
 (Zc (pS 3 Sk.nd (Z3 Ue (Z3 Vv (Z3 Qi (pv 2) Zi) (Z3 Qi Zi (pv 1))) Zi))
 (Zc (pS 4 Sk.nd (Z3 Ue (Z3 Vv (Z3 Qi (pv 3) Zi) (pv 2)) Zi))
 (Ze (Zo (Z3 Vv (Z3 Qi (Z3 Vv (Z3 Qi (pv 2) Zi) (pv 3)) Zi) (pv 4))))))),?_⟩
 walk_at "rd";exact h
abbrev Yf:Stmt:=top 60
theorem Ri:Zm ["_law_cell_here","_law_many","_law_step"] ["_law_cell_here","_law_many"] (Zj Yf):=fnS
@[irreducible] def Vb:List Expr:=zhh (zgd (zcr (E6 (Y7 Yf) 0)))
@[irreducible] def Rj:Pos:=zhi (zgd (zcr (E6 (Y7 Yf) 0)))
theorem O2:Y7 Yf=[.Assign (zhe (E6 (Y7 Yf) 0)) (.Subscript (.List Vb Rj) (zhf (zcr (E6 (Y7 Yf) 0))) (zhg (zcr (E6 (Y7 Yf) 0)))) (stP (E6 (Y7 Yf) 0)),E6 (Y7 Yf) 1]:=by unfold Vb Rj;kernel_rfl
theorem O3:zdd Vb [1,2,5,10,100,500,998]:=by unfold Vb;exact⟨by kernel_rfl,by kernel_rfl⟩
theorem Kf(F:Fun K "_law_numbers" "_law_numbers" Yf f fd)(T:Tx K mg a):FnOk P w K mg base (CX1 P w) 1 f fd ["_law_cell_here","_law_many"] M3:=by
 refine F.okX Ri ⋯ fun _ _ _ _ H _ Q E hr h=>?_;obtain⟨c,m,rfl,hm,h⟩:=h;rw[O2];refine⟨_,(Zc (pS 2 Ri.nd (pI (iL K) (Z4 (zcs [1,2,5,10,100,500,998] O3)) (Z3 Ue (pv 0) Zi)))
 (Ze (Zo (Tz rfl (cT ["_law_cell_here","_law_step"] [0,2]) (Ua rfl T.zjq (Za (pv 1) Zd)) (fun _ _ _ _ _=>U3) (fun _ _ _ _ _=>(Z3 Vv Zi (Z3 Ue (Z3 Vv (Z3 N9 (pv 1) Zi) (Z3 Qi (pv 2) (pv 0))) Zi))))))),?_⟩
 refine⟨by show 7<=sizeLine;decide,fun p0 hp0=>?_⟩;walk_at "rd";refine⟨p0,_,_,_,rfl,rfl,SqL.of Zb,Mz (xs:=[1,2,5,10,100,500,998]) ⋯ (by show c%7<7;omega),?_⟩;refine⟨_,rfl,_,rfl,by omega,by omega,Be (fun j=>V.int (Bf c j)) (by rw[zq5];exact zqr hm ⋯) (fun i R hi k=>?_) (fun p hp=>?_)⟩
 ·rw[zq5] at hi;walk_at "rd";refine⟨.inr ⟨by omega,by omega⟩,?_⟩;walk_at "rd";rw[zru];exact k
 ·rw[zq5];refine h p _ ?_ ((Zf hp0).trans (Zf hp)) ((Zf hp0).free hp);rw[Zb];unfold Pl;rw[zrj];rfl
abbrev Sl:Stmt:=top 61
theorem K3:Zm ["_law_found","_law_due_here"] ["_law_found","_law_due_here"] (Zj Sl):=fnS
theorem K4(F:Fun K "_law_one_is" "_law_one_is" Sl f fd)(T:Tx K mg a)(zlr:Yi P w K mg base "_law_whole" 1 ["_law_found"] D4):FnOk P w K mg base (CX1 P w) 2 f fd ["_law_found","_law_due_here"] Iq:=by
 refine F.okX K3 ⋯ fun _ _ _ _ H _ Q E hr h=>?_;obtain⟨x,rfl,hx,h⟩:=h;refine⟨_,(Ze (Zo (Gi (Zp Mn (pv 1) Xw (Zr _)) (Ww Mn (pv 0) Xw (Zr _)) (P6 (pF zlr hr (Za (pv 0) Zd)) (Ml (Ww Y6 (pv 0) (pv 1) (Zr _))))))),?_⟩;rcases hx with rfl|⟨i,rfl⟩
 ·refine⟨_,rfl,rfl,_,rfl,?_⟩;refine iteT ?_;exact⟨_,rfl,rfl,h⟩
 ·refine⟨_,rfl,rfl,_,rfl,?_⟩;refine iteF ?_;refine⟨_,rfl,i,rfl,_,rfl,?_⟩;refine iteT ?_;refine⟨_,rfl,_,rfl,rfl,?_⟩;rw[zp8 rfl];exact h
abbrev Ti:Stmt:=top 62
theorem Rk:Zm ["_law_found","_law_due_here","_law_k"] ["_law_found","_law_due_here"] (Zj Ti):=fnS
theorem Kg(F:Fun K "_law_list_is" "_law_list_is" Ti f fd)(T:Tx K mg a)(zi7:Yi P w K mg base "_law_one_is" 2 ["_law_found","_law_due_here"] Iq):FnOk P w K mg base (CX1 P w) 3 f fd ["_law_found","_law_due_here"] (G3 K):=by
 refine F.okX Rk ⋯ fun _ _ _ _ H _ Q E hr h=>?_;obtain⟨b,c,xs,rfl,hb,hc,ho,hl,h⟩:=h;refine⟨_,(Zc (Zz (PW.pt (Tn (Ud (Vg (Zs (Z2 (K:=K) rfl) (by rfl) T.zh2 PyProof.Rows.boot_isinstance (Za (pv 0) (Za (Uz rfl T.zjv PyProof.Rows.boot_list (show RelV (.ty "list") _ from rfl)) Zd))))) (Vu (Zp Mm (Zs (cL K) (by rfl) T.zjl PySem.boot_len (Za (pv 0) Zd)) (Zs (cL K) (by rfl) T.zjl PySem.boot_len (Za (pv 1) Zd)) (Zr _)))))
  (Ze (Zo Vq))
  Zq)
 (Zc (Wi PassesOwn.leaving rfl (Ua rfl T.zjq (Za (Zs (cL K) (by rfl) T.zjl PySem.boot_len (Za (pv 1) Zd)) Zd)) (pN 2 Rk.nd)
  (Ze (Zz (Ud (Vg (pF zi7 hr (Za (pI (iL K) (pv 0) (pv 2)) (Za (pI (iL K) (pv 1) (pv 2)) Zd)))))
   (Ze (Zo Vq))
   Zq)))
 (Ze (Zo Vq)))),?_⟩
 refine⟨_,rfl,_,_,_,_,rfl,.of (.lst hb),.inl ⟨_,rfl⟩,zae K,_,rfl,?_⟩;refine iteF ?_;refine⟨_,rfl,b,_,rfl,.inl (SqL.of hb),_,rfl,c,_,rfl,.inl hc,rfl,_,rfl,?_⟩;rw[zp8 rfl];refine iteF ?_;refine⟨_,rfl,c,_,rfl,.inl hc,_,rfl,by omega,by omega,Rn (fun i σ H'=>H'=H/\(∃ v,σ=[some (.ref b),some (.ref c),v])) ⟨rfl,⟨_,rfl⟩⟩ (fun i σ H' hi ⟨e,⟨v,hv⟩⟩=>?_) (fun σ H' ⟨e,⟨v,hv⟩⟩=>?_)⟩
 ·subst e hv;rw[zq5] at hi;have h1:xs[i]?=some (xs[i]'hi):=zp5 hi;rw[zru];refine⟨_,rfl,_,rfl,b,_,_,_,rfl,rfl,SqL.of hb,Yw h1,_,rfl,_,rfl,c,_,_,_,rfl,rfl,hc,Yw h1,_,rfl,ho _ (zq7 hi),_,rfl,?_⟩;exact iteF ⟨rfl,⟨_,rfl⟩⟩
 ·subst e hv;exact h
abbrev Tj:Stmt:=top 63
theorem Kh:Zm ["_law_found","_law_due_here"] ["_law_found","_law_due_here"] (Zj Tj):=fnS
theorem Ki(F:Fun K "_law_deed_is" "_law_deed_is" Tj f fd)(T:Tx K mg a)(zi7:Yi P w K mg base "_law_one_is" 2 ["_law_found","_law_due_here"] Iq):FnOk P w K mg base (CX1 P w) 3 f fd ["_law_found","_law_due_here"] Fx:=by
 refine F.okX Kh ⋯ fun _ _ _ _ H _ Q E hr h=>?_;obtain⟨t1,t2,d,rfl,h1,h2,h⟩:=h;refine⟨_,(Zc (Zz (PW.pt (Tn (Ud (Vg (Zs (Z2 (K:=K) rfl) (by rfl) T.zh2 PyProof.Rows.boot_isinstance (Za (pv 0) (Za (Uz rfl T.zlx PyProof.Rows.boot_tuple (show RelV (.ty "tuple") _ from rfl)) Zd))))) (Tn (Zp Mm (Zs (cL K) (by rfl) T.zjl PySem.boot_len (Za (pv 0) Zd)) Zi (Zr _)) (Vu (Ud (Vg (Zs (Z2 (K:=K) rfl) (by rfl) T.zh2 PyProof.Rows.boot_isinstance (Za (pI (iU K) (pv 0) Zi) (Za (Uz rfl T.zn7 PyProof.Rows.boot_str (show RelV (.ty "str") _ from rfl)) Zd)))))))))
  (Ze (Zo Vq))
  Zq)
 (Ze (Zo (P6 (Ww Y6 (pI (iU K) (pv 0) Zi) (pI (iU K) (pv 1) Zi) (Zr _)) (P6 (pF zi7 hr (Za (pI (iU K) (pv 0) Zi) (Za (pI (iU K) (pv 1) Zi) Zd))) (Ml (pF zi7 hr (Za (pI (iU K) (pv 0) Zi) (Za (pI (iU K) (pv 1) Zi) Zd))))))))),?_⟩
 have h1:H t1=some (.tup [.str d.1,.int d.2.1,.int d.2.2]):=h1;have h2:H t2=some (.tup [.str d.1,.int d.2.1,.int d.2.2]):=h2;refine Y2 ?_;refine⟨_,rfl,_,_,_,_,rfl,.of (.tup h1),.inl ⟨_,rfl⟩,zel K,_,rfl,?_⟩;refine iteF ?_;refine⟨_,rfl,t1,_,rfl,.inr (SqT.of h1),rfl,_,rfl,?_⟩;refine(show if (!decide (V.int ((3:Nat):Int)=V.int 3))=true then _ else _ from ?_);rw[zp8 (show V.int ((3:Nat):Int)=V.int 3 from rfl)];refine iteF ?_;refine⟨_,rfl,t1,_,_,_,rfl,rfl,SqT.of h1,rfl,_,_,_,_,rfl,.of (.str _),.inl ⟨_,rfl⟩,zem K,_,rfl,?_⟩;refine iteF (Zv ?_);dsimp only;refine⟨_,rfl,t1,_,_,_,rfl,rfl,SqT.of h1,rfl,_,rfl,t2,_,_,_,rfl,rfl,SqT.of h2,rfl,rfl,true,by rw[zp8 rfl],iteT ?_⟩;refine⟨_,rfl,t1,_,_,_,rfl,rfl,SqT.of h1,rfl,_,rfl,t2,_,_,_,rfl,rfl,SqT.of h2,rfl,.int d.2.1,rfl,.inr ⟨_,rfl⟩,true,rfl,iteT ?_⟩;exact⟨_,rfl,t1,_,_,_,rfl,rfl,SqT.of h1,rfl,_,rfl,t2,_,_,_,rfl,rfl,SqT.of h2,rfl,.int d.2.2,rfl,.inr ⟨_,rfl⟩,h⟩
abbrev Vz:Stmt:=top 64
theorem T6:Zm ["_law_found","_law_due_here","_law_k"] ["_law_found","_law_due_here"] (Zj Vz):=fnS
theorem O4(F:Fun K "_law_deeds_are" "_law_deeds_are" Vz f fd)(T:Tx K mg a)(zle:Yi P w K mg base "_law_deed_is" 3 ["_law_found","_law_due_here"] Fx):FnOk P w K mg base (CX1 P w) 4 f fd ["_law_found","_law_due_here"] (Ll K):=by
 refine F.okX T6 ⋯ fun _ _ _ _ H _ Q E hr h=>?_;obtain⟨b,c,ts,us,ds,rfl,hb,hc,tl,ul,hl,h⟩:=h;refine⟨_,(Zc (Zz (PW.pt (Tn (Ud (Vg (Zs (Z2 (K:=K) rfl) (by rfl) T.zh2 PyProof.Rows.boot_isinstance (Za (pv 0) (Za (Uz rfl T.zjv PyProof.Rows.boot_list (show RelV (.ty "list") _ from rfl)) Zd))))) (Vu (Zp Mm (Zs (cL K) (by rfl) T.zjl PySem.boot_len (Za (pv 0) Zd)) (Zs (cL K) (by rfl) T.zjl PySem.boot_len (Za (pv 1) Zd)) (Zr _)))))
  (Ze (Zo Vq))
  Zq)
 (Zc (Wi PassesOwn.leaving rfl (Ua rfl T.zjq (Za (Zs (cL K) (by rfl) T.zjl PySem.boot_len (Za (pv 1) Zd)) Zd)) (pN 2 T6.nd)
  (Ze (Zz (Ud (Vg (pF zle hr (Za (pI (iL K) (pv 0) (pv 2)) (Za (pI (iL K) (pv 1) (pv 2)) Zd)))))
   (Ze (Zo Vq))
   Zq)))
 (Ze (Zo Vq)))),?_⟩
 have e1:=tl.length;have e2:=ul.length;rw[zp3] at e1 e2;have el:ts.length=us.length:=by omega
 refine⟨_,rfl,_,_,_,_,rfl,.of (.lst hb),.inl ⟨_,rfl⟩,zae K,_,rfl,?_⟩;refine iteF ?_;refine⟨_,rfl,b,_,rfl,.inl (SqL.of hb),_,rfl,c,_,rfl,.inl (SqL.of hc),rfl,_,rfl,?_⟩;rw[el,zp8 rfl];refine iteF (Zv ?_);dsimp only;refine⟨_,rfl,c,_,rfl,.inl (SqL.of hc),_,rfl,by omega,by omega,Rn (fun i σ H'=>H'=H/\(∃ v,σ=[some (.ref b),some (.ref c),v])) ⟨rfl,⟨_,rfl⟩⟩ (fun i σ H' hi ⟨e,⟨v,hv⟩⟩=>?_) (fun σ H' ⟨e,⟨v,hv⟩⟩=>?_)⟩
 ·subst e hv;rw[zq5] at hi;have hd:i<ds.length:=by omega
  obtain⟨t1,x1,x2⟩:=tl.getR (i:=i) (r:=Y9 (ds[i]'hd)) (by rw[zqb,zp5 hd];rfl);obtain⟨t2,y1,y2⟩:=ul.getR (i:=i) (r:=Y9 (ds[i]'hd)) (by rw[zqb,zp5 hd];rfl);rw[zru];walk_at "if";refine⟨_,rfl,_,rfl,b,_,_,_,rfl,rfl,SqL.of hb,Yw x1,_,rfl,_,rfl,c,_,_,_,rfl,rfl,SqL.of hc,Yw y1,t1,t2,_,rfl,x2,y2,true,rfl,?_⟩;exact iteF (Zv ⟨rfl,⟨_,rfl⟩⟩)
 ·subst e hv;exact h
abbrev Uy:Stmt:=top 65
theorem N6:Zm ["_law_found","_law_due_here"] ["_law_found","_law_due_here"] (Zj Uy):=fnS
theorem N7(F:Fun K "_law_truth_is" "_law_truth_is" Uy f fd)(T:Tx K mg a):FnOk P w K mg base (CX1 P w) 1 f fd ["_law_found","_law_due_here"] D7:=by
 refine F.okX N6 ⋯ fun _ _ _ _ H _ Q E hr h=>?_;obtain⟨x,rfl,h⟩:=h;refine⟨_,(Ze (Zo (P6 (Zs (Z2 (K:=K) rfl) (by rfl) T.zh2 PyProof.Rows.boot_isinstance (Za (pv 0) (Za (Uz rfl T.zms PyProof.Rows.boot_bool (show RelV (.ty "bool") _ from rfl)) Zd))) (Ml (Ww Y6 (pv 0) (pv 1) (Zr _)))))),?_⟩;refine⟨_,rfl,_,_,_,_,rfl,.of (.bl x),.inl ⟨_,rfl⟩,zeq K,_,rfl,?_⟩;refine iteT ?_;refine⟨_,rfl,_,rfl,rfl,?_⟩;rw[zp8 rfl];exact h
abbrev Kj:Stmt:=top 66
theorem B7:Zm ["_law_season","_law_deed"] ["_law_season","_law_deed"] (Zj Kj):=fnS
theorem B8(F:Fun K "_law_do" "_law_do" Kj f fd)(T:Tx K mg a)(zko:Zt P w K mg base a.zhw "enrol" 5 ["self","number","grade","club"] (Cf (ca a)))(zk9:Zt P w K mg base a.zhw "away" 7 ["self","at","number"] (za6 (ca a)))(zj7:Zt P w K mg base a.zhw "draw_up" 6 ["self","matches"] (Fp K (ca a)))(zk2:Zt P w K mg base a.zhw "close" 4 ["self"] (Cg (ca a)))(zjs:Zt P w K mg base a.zhw "take_back" 2 ["self"] (Lg (ca a))):FnOk P w K mg base (CX1 P w) 8 f fd ["_law_season","_law_deed"] (zdg K (ca a)):=by
 refine F.okX B7 ⋯ fun _ _ _ _ H _ Q E hr h=>?_;obtain⟨A',S,t,d,rfl,SA,hd,sd,co,po,hz,hoz,htot,hl,hol,hbk,hE,h⟩:=h;refine⟨_,(Zc (Zz (Zp Y6 (pI (iU K) (pv 1) Zi) Zl (Zr _))
  (Ze (Zo (Y8 (pv 0) T.zhx zko (hr.mono ⋯) Zk (Za (pI (iU K) (pv 1) Zi) (Za (pI (iU K) (pv 1) Zi) (Za (pI (iU K) (pv 1) Zi) Zd))))))
  Zq)
 (Zc (Zz (Zp Y6 (pI (iU K) (pv 1) Zi) Zl (Zr _))
  (Ze (Zo (Y8 (pv 0) T.zhx zk9 (hr.mono ⋯) Zk (Za (pI (iU K) (pv 1) Zi) (Za (pI (iU K) (pv 1) Zi) Zd)))))
  Zq)
 (Zc (Zz (Zp Y6 (pI (iU K) (pv 1) Zi) Zl (Zr _))
  (Ze (Zo (Y8 (pv 0) T.zhx zj7 (hr.mono ⋯) Zk (Za (Yt (Xt (K:=K) rfl) (by rfl) T.zjv PyProof.Rows.boot_list (Za (pI (iU K) (pv 1) Zi) Zd)) Zd))))
  Zq)
 (Zc (Zz (Zp Y6 (pI (iU K) (pv 1) Zi) Zl (Zr _))
  (Ze (Zo (Yk (pv 0) T.zhx zk2 (hr.mono ⋯) Zk)))
  Zq)
 (Ze (Zo (Yk (pv 0) T.zhx zjs (hr.mono ⋯) Zk))))))),?_⟩
 have hpl:=po.2;obtain⟨⟨dx,v,a1,a2⟩,_⟩:=id SA;cases d with
 | enrol n g c0 =>
   have ht:H t=some (.tup [.str "enrol",.int n,.int g,.int c0]):=hd;refine⟨_,rfl,t,_,_,_,rfl,rfl,SqT.of ht,rfl,rfl,_,rfl,?_⟩;rw[S9];refine iteT ?_;refine⟨_,rfl,A'.p,dx,_,rfl,a1,Ye ⋯,_,rfl,t,_,_,_,rfl,rfl,SqT.of ht,rfl,_,rfl,t,_,_,_,rfl,rfl,SqT.of ht,rfl,_,rfl,t,_,_,_,rfl,rfl,SqT.of ht,rfl,A',S,n,g,c0,rfl,SA,sd,by omega,by omega,?_⟩;by_cases c1:S.len<=S.led.length
   ·rw[if_pos c1];exact hE .seaOver (by simp only[refS];rw[if_pos c1]) H (Same.refl _)
   rw[if_neg c1];by_cases c2:S.cur.isSome=true
   ·rw[if_pos c2];exact hE .drawn (by simp only[refS];rw[if_neg c1,if_pos c2]) H (Same.refl _)
   rw[if_neg c2];by_cases c3:badI n g c0
   ·rw[if_pos c3];exact hE .out (by simp only[refS];rw[if_neg c1,if_neg c2,if_pos c3]) H (Same.refl _)
   rw[if_neg c3];by_cases c4:n∈S.ppl.map (·.1)
   ·rw[if_pos c4];exact hE .known (by simp only[refS];rw[if_neg c1,if_neg c2,if_neg c3,if_pos c4]) H (Same.refl _)
   rw[if_neg c4];by_cases c5:30<=S.ppl.length
   ·rw[if_pos c5];exact hE .many (by simp only[refS];rw[if_neg c1,if_neg c2,if_neg c3,if_neg c4,if_pos c5]) H (Same.refl _)
   rw[if_neg c5];by_cases c6:100<=S.std.length
   ·rw[if_pos c6];exact hE .manyD (by simp only[refS];rw[if_neg c1,if_neg c2,if_neg c3,if_neg c4,if_neg c5,if_pos c6]) H (Same.refl _)
   rw[if_neg c6];exact fun H' SA' f'=>h (by simp only[refS];rw[if_neg c1,if_neg c2,if_neg c3,if_neg c4,if_neg c5,if_neg c6]) .non A' _ H' (.enrol n g c0) SA' (.refl A' H) f' (fun l z=>nomatch z)
 | away i n =>
   have ht:H t=some (.tup [.str "away",.int i,.int n]):=hd;refine⟨_,rfl,t,_,_,_,rfl,rfl,SqT.of ht,rfl,rfl,_,rfl,?_⟩;rw[Xl ⋯];refine iteF (Zv ?_);refine⟨_,rfl,t,_,_,_,rfl,rfl,SqT.of ht,rfl,rfl,_,rfl,?_⟩;rw[S9];refine iteT ?_;refine⟨_,rfl,A'.p,dx,_,rfl,a1,Ye ⋯,_,rfl,t,_,_,_,rfl,rfl,SqT.of ht,rfl,_,rfl,t,_,_,_,rfl,rfl,SqT.of ht,rfl,A',S,i,n,rfl,SA,sd.1,sd.2,by omega,hoz,po,fun s hs=>?_,?_⟩
   ·obtain⟨c1,c2,c3,c4,c5⟩:=co s hs;exact⟨c1,c2,c4,by omega⟩
   by_cases c1:i<1\/(S.len:Int)<i
   ·rw[if_pos c1];exact hE .noRound (by simp only[refS];rw[if_pos c1]) H (Same.refl _)
   rw[if_neg c1];by_cases c2:i<=S.led.length
   ·rw[if_pos c2];exact hE .over (by simp only[refS];rw[if_neg c1,if_pos c2]) H (Same.refl _)
   rw[if_neg c2];by_cases c3:n∈S.ppl.map (·.1)
   rotate_left
   ·rw[if_neg c3];exact hE .unk (by simp only[refS];rw[if_neg c1,if_neg c2,if_neg c3]) H (Same.refl _)
   rw[if_pos c3];by_cases c4:(i,n)∈S.out
   ·rw[if_pos c4];exact hE .away (by simp only[refS];rw[if_neg c1,if_neg c2,if_pos c3,if_pos c4])
   rw[if_neg c4];by_cases c5:100<=S.std.length
   ·rw[if_pos c5];exact hE .manyD (by simp only[refS];rw[if_neg c1,if_neg c2,if_pos c3,if_neg c4,if_pos c5])
   rw[if_neg c5];have h:=h (by simp only[refS];rw[if_neg c1,if_neg c2,if_pos c3,if_neg c4,if_neg c5]);refine⟨fun hc l H' hl' SA' f' fl=>h _ A' _ H' (.awayN hc hl') SA' (.refl A' H) f' (fun l2 z _=>by cases z;exact fl),fun s hi hs hp l H' hl' SA' f' fl=>?_,fun s p hi hs hp l us st e w' H' hl' tl CR SA' f' fl=>?_⟩
   ·subst hi;exact h _ A' _ H' (.awayF hs hp hl') SA' (.refl A' H) f' (fun l2 z _=>by cases z;exact fl)
   ·subst hi;exact h _ A' _ H' (.awayC hs hp hl' tl CR) SA' (.refl A' H) f' (fun l2 z _=>by cases z;exact fl)
 | draw ms =>
   obtain⟨l0,ts,ht,hl0,tl,okl⟩:∃ l ts,H t=some (.tup [.str "draw up",.ref l])/\H l=some (.lst ts)/\Z0 H ts (ms.map pV)/\l∉A'.fp:=hd;refine⟨_,rfl,t,_,_,_,rfl,rfl,SqT.of ht,rfl,rfl,_,rfl,?_⟩;rw[Xl ⋯];refine iteF (Zv ?_);refine⟨_,rfl,t,_,_,_,rfl,rfl,SqT.of ht,rfl,rfl,_,rfl,?_⟩;rw[Xl ⋯];refine iteF (Zv ?_);refine⟨_,rfl,t,_,_,_,rfl,rfl,SqT.of ht,rfl,rfl,_,rfl,?_⟩;rw[S9];refine iteT ?_;refine⟨_,rfl,A'.p,dx,_,rfl,a1,Ye ⋯,_,rfl,t,_,_,_,rfl,rfl,SqT.of ht,rfl,l0,ts,rfl,.inl (SqL.of hl0),fun l1 hl1=>?_⟩;have s1:=Zf (o:=.lst ts) hl1;have q1:upd H l1 (.lst ts) l1=some (.lst ts):=Zb;generalize upd H l1 (.lst ts)=H1 at s1 q1;refine⟨A',S,l1,ts,ms,rfl,SA.same s1,SqL.of q1,tl.same s1,sd.1,sd.2,by omega,po,?_⟩;by_cases c1:S.len<=S.led.length
   ·rw[if_pos c1];exact hE .seaOver (by simp only[refS];rw[if_pos c1]) H1 s1
   rw[if_neg c1];by_cases c2:S.cur.isSome=true
   ·rw[if_pos c2];exact hE .drawn (by simp only[refS];rw[if_neg c1,if_pos c2]) H1 s1
   rw[if_neg c2];refine⟨fun c3=>hE .manyM (by simp only[refS];rw[if_neg c1,if_neg c2,if_pos c3]) H1 s1,fun c3 c4=>hE .out (by simp only[refS];rw[if_neg c1,if_neg c2,if_neg ⋯,if_pos c4]) H1 s1,fun c3 c4 c5=>hE .same (by simp only[refS];rw[if_neg c1,if_neg c2,if_neg ⋯,if_neg c4,if_pos c5]) H1 s1,fun c3 c4 c5=>⟨fun c6 H' s'=>hE .manyD (by simp only[refS];rw[if_neg c1,if_neg c2,if_neg ⋯,if_neg c4,if_neg c5,if_pos c6]) H' (s1.trans s'),fun c6 l gv H' hl' SA' FP SP f' fl=>?_⟩⟩;exact h (by simp only[refS];rw[if_neg c1,if_neg c2,if_neg ⋯,if_neg c4,if_neg c5,if_neg ⋯]) _ A' _ H' (.draw hl' FP SP) SA' (.refl A' H) ((FrS.of A' s1).trans f') (fun l2 z _=>by cases z;exact s1.free fl)
 | close =>
   have ht:H t=some (.tup [.str "close"]):=hd;refine⟨_,rfl,t,_,_,_,rfl,rfl,SqT.of ht,rfl,rfl,_,rfl,?_⟩;rw[Xl ⋯];refine iteF (Zv ?_);refine⟨_,rfl,t,_,_,_,rfl,rfl,SqT.of ht,rfl,rfl,_,rfl,?_⟩;rw[Xl ⋯];refine iteF (Zv ?_);refine⟨_,rfl,t,_,_,_,rfl,rfl,SqT.of ht,rfl,rfl,_,rfl,?_⟩;rw[Xl ⋯];refine iteF (Zv ?_);refine⟨_,rfl,t,_,_,_,rfl,rfl,SqT.of ht,rfl,rfl,_,rfl,?_⟩;rw[S9];refine iteT ?_;refine⟨_,rfl,A'.p,dx,_,rfl,a1,Ye ⋯,A',S,rfl,SA,htot,hl,hol,fun s hs=>?_,?_⟩
   ·obtain⟨c1,c2,c3,c4,c5⟩:=co s hs;refine⟨c2.one,?_,by omega⟩;rw[c2.len,c4];unfold mayS;rw[zp3]
   by_cases c1:S.len<=S.led.length
   ·rw[if_pos c1];exact hE .seaOver (by simp only[refS];rw[if_pos c1]) H (Same.refl _)
   rw[if_neg c1];exact⟨fun z=>hE .notDrawn (by simp only[refS];rw[if_neg c1,if_pos z]) H (Same.refl _),fun s x H' hs SA' f' fx=>h (by simp only[refS];rw[if_neg c1,if_neg (by rw[hs];exact fun z=>nomatch z)]) _ { A' with lt:=x } _ H' (.close hs) SA' ⟨x,rfl,.inr fx⟩ f' (fun l2 z=>nomatch z)⟩
 | back =>
   have ht:H t=some (.tup [.str "take back"]):=hd;refine⟨_,rfl,t,_,_,_,rfl,rfl,SqT.of ht,rfl,rfl,_,rfl,?_⟩;rw[Xl ⋯];refine iteF (Zv ?_);refine⟨_,rfl,t,_,_,_,rfl,rfl,SqT.of ht,rfl,rfl,_,rfl,?_⟩;rw[Xl ⋯];refine iteF (Zv ?_);refine⟨_,rfl,t,_,_,_,rfl,rfl,SqT.of ht,rfl,rfl,_,rfl,?_⟩;rw[Xl ⋯];refine iteF (Zv ?_);refine⟨_,rfl,t,_,_,_,rfl,rfl,SqT.of ht,rfl,rfl,_,rfl,?_⟩;rw[Xl ⋯];refine iteF (Zv ?_);refine⟨_,rfl,A'.p,dx,_,rfl,a1,Ye ⋯,A',S,rfl,SA,fun z=>hE .nothing (by simp only[refS];rw[if_pos z]) H (Same.refl _),fun std d s he=>?_⟩;have hne:S.std≠[]:=by rw[he];simp
   obtain⟨S0,hs0⟩:=hbk rfl hne;obtain⟨d0,e1,e2,e3,e4,e5,e6⟩:=id hs0;rw[e1] at he;obtain⟨he1,he2⟩:=zrs he rfl;have he2:(d0,S0.cur)=(d,s):=by simpa using he2
   cases he2;subst he1;refine⟨S0.ppl,S0.out,e2,fun t' H' ht' SA' f'=>?_⟩;have eS:{ S with ppl:=S0.ppl,out:=S0.out,cur:=S0.cur,std:=S0.std }=S0:=by
    cases S;cases S0;simp only at e3 e4 e5 e6 ⊢;subst e3 e4 e5 e6;rfl
   rw[eS] at SA';exact h (by simp only[refS];rw[if_neg hne]) _ A' S0 H' (.back e1 ht' hs0) SA' (.refl A' H) f' (fun l2 z hx=>by cases z;obtain⟨xs,hx⟩:=hx;rw[ht'] at hx;cases hx)
abbrev Pa:Stmt:=top 67
theorem F8:Zm ["_law_script","_law_k"] ["_law_script","_law_k"] (Zj Pa):=fnS
theorem F9(F:Fun K "_law_cell" "_law_cell" Pa f fd)(T:Tx K mg a)(zke:Yi P w K mg base "_law_at" 1 ["_law_script","_law_k"] (zen K))(zmv:Yi P w K mg base "_law_mix" 1 ["_law_cell_here","_law_k"] zc9):FnOk P w K mg base (CX1 P w) 2 f fd ["_law_script","_law_k"] (Ft K):=by
 refine F.okX F8 ⋯ fun _ _ _ _ H _ Q E hr h=>?_;obtain⟨b,ns,k,rfl,hS,hk,h⟩:=h;refine⟨_,(Zc (Zz (Zp Y6 (Z3 Ue (pF zke hr (Za (pv 0) (Za Zi Zd))) Zi) Zi (Zr _))
  (Ze (Zo (pF zmv hr (Za (pI (iL K) (pv 0) (pv 1)) (Za (pv 1) Zd)))))
  Zq)
 (Ze (Zo (pI (iL K) (pv 0) (pv 1))))),?_⟩
 have hk':(ns.map V.int)[k]?=some (.int (ns[k]'hk)):=by rw[zqb,zp5 hk];rfl
 refine⟨_,rfl,b,ns,0,rfl,hS,_,_,rfl,rfl,(show (0:Int)<2 by decide),rfl,_,rfl,?_⟩;refine itB (fun _=>?_) (fun _=>?_)
 ·exact⟨_,rfl,_,rfl,b,_,_,_,rfl,rfl,hS,Yw hk',_,rfl,_,_,rfl,h _ H (Same.refl _)⟩
 ·exact⟨_,rfl,_,rfl,b,_,_,_,rfl,rfl,hS,Yw hk',h _ H (Same.refl _)⟩
theorem cat2{D:Qf}{v0 v1:Option V}{vr:List (Option V)}{l e c1 c2 C:Addr}{H:Hp}{b1 b2:Bool}{xs:List V}(hx:H e=some (excO e (.ref C)))(hl:H l=some (.lst xs))(hz:xs.length<=100)(ei:Im K C)(k1:PySem.W.kitOne K (.ref C) (.ref c1)=some b1)(k2:PySem.W.kitOne K (.ref C) (.ref c2)=some b2)
  (k:∀ l' H',H' l'=some (.lst (xs++[.bl b1,.bl b2]))->H' e=some (excO e (.ref C))->Same H H'->D.nx (v0 :: v1 :: some (.ref l') :: some (.ref e) :: vr) H') :
  Ct (tOp zeb (tVar 2) (tLst (U0 (tCB (rIsI K) (U0 (tVar 3) (U0 (tC (V.ref c1)) tNil))) (U0 (tCB (rIsI K) (U0 (tVar 3) (U0 (tC (V.ref c2)) tNil))) tNil)))) (Ve 2) D (v0 :: v1 :: some (.ref l) :: some (.ref e) :: vr) H:=by
 refine⟨_,rfl,_,rfl,_,_,_,_,rfl,.exc rfl rfl hx ei,.inr ⟨_,rfl⟩,k1,_,rfl,_,_,_,_,rfl,.exc rfl rfl hx ei,.inr ⟨_,rfl⟩,k2,sz2,fun l1 hl1=>?_⟩;have s1:=Zf (o:=.lst [.bl b1,.bl b2]) hl1;refine⟨l,l1,xs,_,rfl,rfl,s1 _ _ hl,Zb,szN (by show xs.length+2<=1000;omega),fun l2 hl2=>?_⟩;have s2:=s1.trans (Zf (o:=.lst (xs++[.bl b1,.bl b2])) hl2);exact k l2 _ Zb (s2 _ _ hx) s2
theorem zgo{D:Qf}{v0 v1:Option V}{vr:List (Option V)}{l e c1 C:Addr}{H:Hp}{b1:Bool}{xs:List V}(hx:H e=some (excO e (.ref C)))(hl:H l=some (.lst xs))(hz:xs.length<=100)(ei:Im K C)(k1:PySem.W.kitOne K (.ref C) (.ref c1)=some b1)(k2:PySem.W.kitOne K (.ref C) (.type "ValueError")=some true)
  (k:∀ l' H',H' l'=some (.lst (xs++[.bl b1,.bl true]))->Same H H'->D.nx (v0 :: v1 :: some (.ref l') :: some (.ref e) :: vr) H') :
  Ct (tOp zeb (tVar 2) (tLst (U0 (tCB (rIsI K) (U0 (tVar 3) (U0 (tC (V.ref c1)) tNil))) (U0 (tCB (rIsI K) (U0 (tVar 3) (U0 (tC (V.ty "ValueError")) tNil))) tNil)))) (Ve 2) D (v0 :: v1 :: some (.ref l) :: some (.ref e) :: vr) H:=by
 refine⟨_,rfl,_,rfl,_,_,_,_,rfl,.exc rfl rfl hx ei,.inr ⟨_,rfl⟩,k1,_,rfl,_,_,_,_,rfl,.exc rfl rfl hx ei,.inl ⟨_,rfl⟩,k2,sz2,fun l1 hl1=>?_⟩;have s1:=Zf (o:=.lst [.bl b1,.bl true]) hl1;refine⟨l,l1,xs,_,rfl,rfl,s1 _ _ hl,Zb,szN (by show xs.length+2<=1000;omega),fun l2 hl2=>?_⟩;have s2:=s1.trans (Zf (o:=.lst (xs++[.bl b1,.bl true])) hl2);exact k l2 _ Zb s2
abbrev Pb:Stmt:=top 68
theorem Yb:Zm ["_law_season","_law_deed","_law_names","e","_law_words"] ["_law_season","_law_deed"] (Zj Pb):=fnS
theorem Ea(F:Fun K "_law_done" "_law_done" Pb f fd)(T:Tx K mg a)(znl:Yi P w K mg base "_law_do" 8 ["_law_season","_law_deed"] (zdg K (ca a))):FnOk P w K mg base (CX1 P w) 9 f fd ["_law_season","_law_deed"] (spF (zbd K (ca a))):=by
 refine FnOk.frame ?_;refine F.okX Yb ⋯ fun _ _ _ _ H _ Q E hr h=>?_;obtain⟨A',S,t,d,rfl,SA,hd,sd,co,po,hz,hoz,htot,hl,hol,hbk,hE,h⟩:=h;have hu:=Ws hr;refine⟨_,(Zc (pS 2 Yb.nd (Z4 Zd))
 (Zc (zaa (as:=[]) (i:=3) Jh Yb.nd rfl rfl T.znx rfl T.zn1
  (fun E1 lk1 pn1 EX1 hl1 hO hP =>
  (Ze (Zo (Yd (Za Zl (Za (D2 znl (hr.mono ⋯) hP rfl (Za (pv 0) (Za (pv 1) Zd))) Zd))))))
  (fun a1 =>
  (Zc (pS 2 Yb.nd (Z4 (Za (Zs (Z2 (K:=K) rfl) (by rfl) T.zh2 PyProof.Rows.boot_isinstance (Za (pv 3) (Za (Xo rfl T.zns) Zd))) (Za (Zs (Z2 (K:=K) rfl) (by rfl) T.zh2 PyProof.Rows.boot_isinstance (Za (pv 3) (Za (Xo rfl T.zm8) Zd))) Zd))))
  (Zc (pS 2 Yb.nd (Z3 Ug (pv 2) (Z4 (Za (Zs (Z2 (K:=K) rfl) (by rfl) T.zh2 PyProof.Rows.boot_isinstance (Za (pv 3) (Za (Xo rfl T.zl6) Zd))) (Za (Zs (Z2 (K:=K) rfl) (by rfl) T.zh2 PyProof.Rows.boot_isinstance (Za (pv 3) (Za (Xo rfl T.zk4) Zd))) Zd)))))
  (Zc (pS 2 Yb.nd (Z3 Ug (pv 2) (Z4 (Za (Zs (Z2 (K:=K) rfl) (by rfl) T.zh2 PyProof.Rows.boot_isinstance (Za (pv 3) (Za (Xo rfl T.zmb) Zd))) (Za (Zs (Z2 (K:=K) rfl) (by rfl) T.zh2 PyProof.Rows.boot_isinstance (Za (pv 3) (Za (Xo rfl T.zn5) Zd))) Zd)))))
  (Zc (pS 2 Yb.nd (Z3 Ug (pv 2) (Z4 (Za (Zs (Z2 (K:=K) rfl) (by rfl) T.zh2 PyProof.Rows.boot_isinstance (Za (pv 3) (Za (Xo rfl T.zno) Zd))) (Za (Zs (Z2 (K:=K) rfl) (by rfl) T.zh2 PyProof.Rows.boot_isinstance (Za (pv 3) (Za (Xo rfl T.zlt) Zd))) Zd)))))
  (Zc (pS 2 Yb.nd (Z3 Ug (pv 2) (Z4 (Za (Zs (Z2 (K:=K) rfl) (by rfl) T.zh2 PyProof.Rows.boot_isinstance (Za (pv 3) (Za (Xo rfl T.znz) Zd))) (Za (Zs (Z2 (K:=K) rfl) (by rfl) T.zh2 PyProof.Rows.boot_isinstance (Za (pv 3) (Za (Xo rfl T.znu) Zd))) Zd)))))
  (Zc (pS 2 Yb.nd (Z3 Ug (pv 2) (Z4 (Za (Zs (Z2 (K:=K) rfl) (by rfl) T.zh2 PyProof.Rows.boot_isinstance (Za (pv 3) (Za (Xo rfl T.znp) Zd))) (Za (Zs (Z2 (K:=K) rfl) (by rfl) T.zh2 PyProof.Rows.boot_isinstance (Za (pv 3) (Za (Xo rfl T.zoa) Zd))) Zd)))))
  (Zc (pS 2 Yb.nd (Z3 Ug (pv 2) (Z4 (Za (Zs (Z2 (K:=K) rfl) (by rfl) T.zh2 PyProof.Rows.boot_isinstance (Za (pv 3) (Za (Xo rfl T.zn2) Zd))) (Za (Zs (Z2 (K:=K) rfl) (by rfl) T.zh2 PyProof.Rows.boot_isinstance (Za (pv 3) (Za (Xo rfl T.zlw) Zd))) Zd)))))
  (Ze (pS 2 Yb.nd (Z3 Ug (pv 2) (Z4 (Za (Zs (Z2 (K:=K) rfl) (by rfl) T.zh2 PyProof.Rows.boot_isinstance (Za (pv 3) (Za (Xo rfl T.zm7) Zd))) (Za (Zs (Z2 (K:=K) rfl) (by rfl) T.zh2 PyProof.Rows.boot_isinstance (Za (pv 3) (Za (Uz rfl T.zjw PyProof.Rows.Boot.«ValueError» (show RelV (.ty "ValueError") _ from rfl)) Zd))) Zd)))))))))))))))
 (Zc (pS 4 Yb.nd Zl)
 (Zc (pS 4 Yb.nd (Z3 Jx (pv 4) Zl))
 (Zc (pS 4 Yb.nd (A0 PySem.F.plainAttrs_str PySem.F.slot_str_split PySem.F.type_str_split zbc (Z3 Jx (pv 4) Zl) (Za Zl Zd)))
 (Ze (Zo (Yd (Za Zl (Za (Tz rfl (cT ["_law_words","_law_names"] [4,2]) (Ua rfl T.zjq (Za Zi Zd)) (fun _ _ _ _ _=>Io (Vg (pI (iL K) (pv 2) (pv 0)))) (fun _ _ _ _ _=>(pI (iL K) (pv 1) (pv 0)))) Zd)))))))))),?_⟩
 show let y1:TS:=_;let y2:TS:=Z1 _ y1;let y3:TS:=Z1 _ y2;let y4:TS:=Z1 _ y3;let y5:TS:=Z1 _ y4;Z1 _ y5 _ _ _;intro y1 y2 y3 y4 y5;refine⟨by show 0<=sizeLine;decide,fun l0 hl0=>?_⟩;have s0:Same H (upd H l0 (.lst [])):=Zf hl0;generalize upd H l0 (.lst [])=H0 at s0;refine⟨_,rfl,_,rfl,A',S,t,d,rfl,SA.same s0,hd.same s0,sd,co,po,hz,hoz,htot,hl,hol,hbk,fun r hr H1 s1=>?_,fun hn v A2 S2 H1 af SA2 nx fr fl=>?_⟩
 ·have hne:=zbe hr;have ei:=T.ei r hne;refine⟨_,rfl,T.mB r hne,fun e he=>?_⟩;have s2:=s0.trans (s1.trans (Zf (o:=excO e (.ref (r.cls (ca a)))) he));have hx:upd H1 e (excO e (.ref (r.cls (ca a)))) e=some (excO e (.ref (r.cls (ca a)))):=Zb;generalize upd H1 e (excO e (.ref (r.cls (ca a))))=H2 at s2 hx;refine⟨_,rfl,_,_,_,_,rfl,.exc rfl rfl hx ei,.inr ⟨_,rfl⟩,T.kit r .out hne,_,rfl,_,_,_,_,rfl,.exc rfl rfl hx ei,.inr ⟨_,rfl⟩,T.kit r .known hne,sz2,fun l1 hl1=>?_⟩;have s3:=s2.trans (Zf (o:=.lst [.bl (decide (r=.out)),.bl (decide (r=.known))]) hl1);have q3:upd H2 l1 (.lst [.bl (decide (r=.out)),.bl (decide (r=.known))]) l1=some (.lst [.bl (decide (r=.out)),.bl (decide (r=.known))]):=Zb;have x3:=Zf (o:=.lst [.bl (decide (r=.out)),.bl (decide (r=.known))]) hl1 _ _ hx;generalize upd H2 l1 (.lst [.bl (decide (r=.out)),.bl (decide (r=.known))])=H3 at s3 q3 x3;walk_at "if";refine cat2 x3 q3 (by show 2<=100;decide) ei (T.kit r .many hne) (T.kit r .unk hne) fun l2 H4 q4 x4 s4=>?_;refine cat2 x4 q4 (by show 4<=100;decide) ei (T.kit r .manyM hne) (T.kit r .same hne) fun l3 H5 q5 x5 s5=>?_;refine cat2 x5 q5 (by show 6<=100;decide) ei (T.kit r .noMatch hne) (T.kit r .noRound hne) fun l4 H6 q6 x6 s6=>?_;refine cat2 x6 q6 (by show 8<=100;decide) ei (T.kit r .over hne) (T.kit r .seaOver hne) fun l5 H7 q7 x7 s7=>?_;refine cat2 x7 q7 (by show 10<=100;decide) ei (T.kit r .away hne) (T.kit r .drawn hne) fun l6 H8 q8 x8 s8=>?_;refine cat2 x8 q8 (by show 12<=100;decide) ei (T.kit r .notDrawn hne) (T.kit r .nothing hne) fun l7 H9 q9 x9 s9=>?_;refine zgo x9 q9 (by show 14<=100;decide) ei (T.kit r .manyD hne) (T.zoc r hne) fun l8 H10 q10 s10=>?_;have sA:=s3.trans (s4.trans (s5.trans (s6.trans (s7.trans (s8.trans (s9.trans s10))))))
  replace q10:H10 l8=some (.lst (refB r)):=q10
  refine⟨_,rfl,_,_,rfl,rfl,by decide +kernel,?_⟩;refine⟨_,rfl,_,_,rfl,rfl,by decide +kernel,rfl,_,_,rfl,rfl,by decide +kernel,by decide +kernel,by decide +kernel,by decide +kernel,by decide +kernel,fun lw hlw=>?_⟩;rw[By];have s11:=sA.trans (Zf (o:=.lst (refW.map V.str)) hlw);have q11:upd H10 lw (.lst (refW.map V.str)) lw=some (.lst (refW.map V.str)):=Zb;have b11:=Zf (o:=.lst (refW.map V.str)) hlw _ _ q10;generalize upd H10 lw (.lst (refW.map V.str))=H11 at s11 q11 b11;refine⟨_,rfl,by decide,by decide,?_⟩;refine Iy (refP r) (fun i=>V.str (refW.getD i "")) ⋯ (fun j R hj k'=>?_) (fun j R hj _ k'=>?_) (fun lz flz=>?_)
  ·rw[zru];exact⟨_,rfl,_,rfl,l8,_,_,_,rfl,rfl,SqL.of b11,Yw (zbf r hj),_,rfl,k'⟩
  ·rw[zru];exact⟨_,rfl,_,rfl,lw,_,_,_,rfl,rfl,SqL.of q11,Yw (zbg hj),k'⟩
  rw[show Int.toNat 16=16 from rfl,Bx];have s12:=s11.trans (Zf (o:=.lst [.str r.name,.str "ValueError"]) flz);have q12:upd H11 lz (.lst [.str r.name,.str "ValueError"]) lz=some (.lst [.str r.name,.str "ValueError"]):=Zb;generalize upd H11 lz (.lst [.str r.name,.str "ValueError"])=H12 at s12 q12;refine⟨sz2,fun u hu'=>hE r hr u lz _ Zb (Zf hu' _ _ q12) (s12.trans (Zf hu')) (s12.free hu')⟩
 ·refine⟨sz2,fun u hu'=>?_⟩;have s1:=Zf (o:=HO.tup [V.str "told",v]) hu';exact h hn u v A2 S2 _ Zb (af.same s1) (SA2.same s1) (nx.back s0) ((FrS.of A' s0).trans (fr.trans (FrS.of A' s1))) (SA2.newOk u hu')
abbrev O5:Stmt:=top 70
theorem Dj:Zm ["_law_state","_law_deed"] ["_law_state","_law_deed"] (Zj O5):=fnS
theorem Dk(F:Fun K "_law_due" "_law_due" O5 f fd)(T:Tx K mg a):FnOk P w K mg base (CX1 P w) 1 f fd ["_law_state","_law_deed"] (Co K):=by
 refine F.okX Dj ⋯ fun _ _ _ _ H _ Q E hr h=>?_;obtain⟨d,lp,lo,ll,t,S,D,rfl,X,hD,hdr,hen,hfew,hled,hst,hok,h⟩:=h;have hu:=Ws hr;refine⟨_,(Zc (Zz (Zp Y6 (pI (iU K) (pv 1) Zi) Zl (Zr _))
  (Ze (Zo (pI (iL K) (Z4 (Za Zl (Za Zl Zd))) (Yt Ro (by rfl) T.zme PyProof.Rows.boot_int (Za (Ww (zcd (K:=K) rfl hr.units) (pD hu (pv 0) Zl) (Z4 Zd) (Zr _)) Zd)))))
  Zq)
 (Zc (Zz (Zp Y6 (pI (iU K) (pv 1) Zi) Zl (Zr _))
  (Zc (Zz (PW.pt (Tn (Zp K7 (pI (iU K) (pv 1) Zi) Zi (Zr _)) (Vu (Zp R8 (pI (iU K) (pv 1) Zi) (pD hu (pv 0) Zl) (Zr _)))))
   (Ze (Zo Zl))
   Zq)
  (Zc (Zz (Zp Aj (pI (iU K) (pv 1) Zi) (pD hu (pv 0) Zl) (Zr _))
   (Ze (Zo Zl))
   Zq)
  (Zc (Zz (Zp (Qb (K:=K) rfl) (pI (iU K) (pv 1) Zi) (pD hu (pv 0) Zl) (by with_unfolding_all rfl))
   (Ze (Zo Zl))
   Zq)
  (Ze (Zo (pI (iL K) (Z4 (Za Zl (Za Zl Zd))) (Yt Ro (by rfl) T.zme PyProof.Rows.boot_int (Za (Ww (Pr (K:=K) rfl hr.units) (Yd (Za (pI (iU K) (pv 1) Zi) (Za (pI (iU K) (pv 1) Zi) Zd))) (pD hu (pv 0) Zl) (by with_unfolding_all rfl)) Zd))))))))
  Zq)
 (Zc (Zz (Zp Y6 (pD hu (pv 0) Zl) (pD hu (pv 0) Zl) (Zr _))
  (Ze (Zo Zl))
  Zq)
 (Zc (Zz (Zp Y6 (pI (iU K) (pv 1) Zi) Zl (Zr _))
  (Ze (Zo (pI (iL K) (Z4 (Za Zl (Za Zl Zd))) (Yt Ro (by rfl) T.zme PyProof.Rows.boot_int (Za (pD hu (pv 0) Zl) Zd)))))
  Zq)
 (Ze (Zo (pI (iL K) (Z4 (Za Zl (Za Zl Zd))) (Yt Ro (by rfl) T.zme PyProof.Rows.boot_int (Za (pD hu (pv 0) Zl) Zd))))))))),?_⟩
 show let y1:TS:=_;let y2:TS:=Z1 _ y1;let y3:TS:=Z1 _ y2;let y4:TS:=_;let y5:TS:=Z1 _ y4;let y6:TS:=Z1 _ y5;let y7:TS:=Z1 (Ec _ (Z1 _ y3) _) y6;Z1 _ y7 _ _ _;intro y1 y2 y3 y4 y5 y6 y7;obtain⟨ots,o1,o2⟩:=X.oo;obtain⟨lts,g1,g2⟩:=X.gg;have gd:=X.dd;have p1:=X.pp;have hh:=h;obtain⟨rw,hw⟩:=hD.word;have hw0:atI (V.str (Xm D) :: rw) 0=some (V.str (Xm D)):=Yw (j:=0) rfl;refine Y2 ?_;refine⟨_,rfl,t,_,_,_,rfl,rfl,SqT.of hw,hw0,rfl,_,rfl,?_⟩;by_cases hb:D=.back
 ·subst hb;rw[Jy];refine iteT ⟨sz2,fun l1 f1=>?_⟩;have s1:=Zf (o:=.lst [.str "",.str "NothingToTakeBack"]) f1;have q1:=Zb (H:=H) (a:=l1) (o:=.lst [.str "",.str "NothingToTakeBack"]);generalize upd H l1 (.lst [.str "",.str "NothingToTakeBack"])=H1 at s1 q1 ⊢;refine⟨_,rfl,d,_,rfl,DGet.k (k:=.inr "log") (s1 _ _ gd),zqo _,fun l2 f2=>?_⟩;have s2:=Zf (o:=.lst []) f2;have g2':Z0 (upd H1 l2 (.lst [])) lts ((S.std.map (·.1)).map Y9):=by rw[zrj];exact(g2.same s1).same s2
  refine⟨.lst ((S.std.map (·.1)).map Nj),.lst [],.lst (SqL.of ((s1.trans s2) _ _ g1)) (F1 g2'),.lst (SqL.of Zb) .nil,zbh _ (fun x hx=>by obtain⟨y,hy,rfl⟩:=zqh.mp hx;exact hok y hy),zch,.inr ⟨_,rfl,l1,_,_,_,rfl,rfl,SqL.of (s2 _ _ q1),Mf _,?_⟩⟩;have:=hh _ (s1.trans s2);unfold dueW at this;simp only[refS] at this;rw[if_neg (show ¬ false=true by decide),zci];cases hk:S.std with
  | nil =>
    rw[hk,if_pos rfl] at this;exact this
  | cons x r =>
    rw[if_neg (by rw[hk];exact nofun)] at this;exact this
 rw[Cn hb];refine iteF (Zv ?_);dsimp only;refine Y2 ?_;refine⟨_,rfl,t,_,_,_,rfl,rfl,SqT.of hw,hw0,rfl,_,rfl,?_⟩;by_cases ha:∃ i n,D=.away i n
 ·obtain⟨i,n,rfl⟩:=ha;rw[show decide (V.str (Xm (.away i n))=V.str "away")=true from zp8 rfl];have ht:H t=some (.tup [.str "away",.int i,.int n]):=hD;have hr:dueW S (.away i n)=if i<1\/(S.len:Int)<i then "NoSuchRound" else if i<=S.led.length then "RoundOver" else if n∈S.ppl.map (·.1) then (if (i,n)∈S.out then "AwayAlready" else "") else "UnknownReferee":=by
   unfold dueW;simp only[refS];by_cases c1:i<1\/(S.len:Int)<i
   ·rw[if_pos c1,if_pos c1];rfl
   rw[if_neg c1,if_neg c1];by_cases c2:i<=S.led.length
   ·rw[if_pos c2,if_pos c2];rfl
   rw[if_neg c2,if_neg c2];by_cases c3:n∈S.ppl.map (·.1)
   ·rw[if_pos c3,if_pos c3];by_cases c4:(i,n)∈S.out
    ·rw[if_pos c4,if_pos c4];rfl
    ·rw[if_neg c4,if_neg c4,if_neg ⋯]
   ·rw[if_neg c3,if_neg c3];rfl
  rw[hr] at hh;refine iteT (Y2 (Vp (b:=decide (i<1)||decide ((S.len:Int)<i)) (M0 (fun Q q=>⟨_,rfl,t,_,_,_,rfl,rfl,SqT.of ht,rfl,_,_,rfl,rfl,_,rfl,q⟩) (fun Q q=>⟨_,rfl,t,_,_,_,rfl,rfl,SqT.of ht,rfl,_,rfl,d,_,rfl,DGet.k (k:=.inr "rounds") gd,_,_,rfl,rfl,_,rfl,q⟩)) (itB (fun hb=>?_) (fun hb=>Zv ?_))))
  ·have:=hh H (.refl _);rw[if_pos (by simpa using hb)] at this;exact this
  have h1:¬ (i<1\/(S.len:Int)<i):=by simpa using hb
  dsimp only;refine Y2 (Vp (b:=decide (i<=(S.led.length:Int))) (fun Q q=>⟨_,rfl,t,_,_,_,rfl,rfl,SqT.of ht,rfl,_,rfl,d,_,rfl,DGet.k (k:=.inr "over") gd,_,_,rfl,rfl,_,rfl,q⟩) (itB (fun hb=>?_) (fun hb=>Zv ?_)))
  ·have:=hh H (.refl _);rw[if_neg h1,if_pos (of_decide_eq_true hb)] at this;exact this
  have h2:=of_decide_eq_false hb;dsimp only;refine Y2 (Vp (b:=!decide (n∈S.ppl.map (·.1))) (fun Q q=>⟨_,rfl,t,_,_,_,rfl,rfl,SqT.of ht,rfl,_,rfl,d,_,rfl,DGet.k (k:=.inr "people") gd,lp,_,rfl,.inl (SqL.of p1),rfl,Jz _,_,rfl,by rw[if_pos rfl,Iz];exact q⟩) (itB (fun hb=>?_) (fun hb=>Zv ?_)))
  ·have:=hh H (.refl _);rw[if_neg h1,if_neg h2,if_neg (by simpa using hb)] at this;exact this
  have h3:n∈S.ppl.map (·.1):=of_decide_eq_true (by rw[<- Bool.not_not (decide _),hb];rfl);dsimp only;refine⟨sz2,fun l1 f1=>?_⟩;have s2:=Zf (o:=.lst [.str "",.str "AwayAlready"]) f1;have q2:=Zb (H:=H) (a:=l1) (o:=.lst [.str "",.str "AwayAlready"]);generalize upd H l1 (.lst [.str "",.str "AwayAlready"])=H2 at s2 q2 ⊢;refine⟨_,rfl,t,_,_,_,rfl,rfl,SqT.of (s2 _ _ ht),rfl,_,rfl,t,_,_,_,rfl,rfl,SqT.of (s2 _ _ ht),rfl,sz2,fun t3 f3=>?_⟩;have s3:=Zf (o:=.tup [.int i,.int n]) f3;have q3:=Zb (H:=H2) (a:=t3) (o:=.tup [.int i,.int n]);generalize upd H2 t3 (.tup [.int i,.int n])=H3 at s3 q3 ⊢;have s03:=s2.trans s3;refine⟨_,rfl,d,_,rfl,DGet.k (k:=.inr "out") (s03 _ _ gd),t3,lo,ots,_,_,S.out,rfl,rfl,SqT.of q3,SqL.of (s03 _ _ o1),o2.same s03,.inr ⟨_,rfl,l1,_,_,_,rfl,rfl,SqL.of (s3 _ _ q2),Mf _,?_⟩⟩;have:=hh H3 s03;rw[if_neg h1,if_neg h2,if_pos h3] at this;rw[if_neg (show ¬ false=true by decide)];by_cases hk:(i,n)∈S.out
  ·rw[if_pos hk] at this;rw[zp8 hk];exact this
  ·rw[if_neg hk] at this;rw[zqd hk];exact this
 have hna:∀ i n,D≠.away i n:=fun i n e=>ha ⟨i,n,e⟩;have hwa:decide (V.str (Xm D)=V.str "away")=false:=by
  cases D with
  | enrol n g c=>exact Xl (show decide (("enrol":Str)="away")=false by decide +kernel)
  | draw ms=>exact Xl (show decide (("draw up":Str)="away")=false by decide +kernel)
  | close=>exact Xl (show decide (("close":Str)="away")=false by decide +kernel)
  | away i n=>exact absurd rfl (hna i n)
  | back=>exact absurd rfl hb
 rw[hwa];refine iteF (Zv ?_);dsimp only;refine Y2 (Vp (b:=decide (V.int (S.led.length:Int)=V.int (S.len:Int))) (fun Q q=>⟨_,rfl,d,_,rfl,DGet.k (k:=.inr "over") gd,_,rfl,d,_,rfl,DGet.k (k:=.inr "rounds") gd,rfl,_,rfl,q⟩) (itB (fun hb'=>?_) (fun hb'=>Zv ?_)))
 ·have e0:S.len<=S.led.length:=by have:=V.int.inj (of_decide_eq_true hb');omega
  have:=hh H (.refl _);have er:refS S D=some .seaOver:=by
   cases D with
   | enrol n g c=>exact if_pos e0
   | draw ms=>exact if_pos e0
   | close=>exact if_pos e0
   | away i n=>exact absurd rfl (hna i n)
   | back=>exact absurd rfl hb
  rw[J0 er] at this;exact this
 have e0:¬ S.len<=S.led.length:=fun z=>of_decide_eq_false hb' (congrArg V.int ⋯);dsimp only;refine Y2 ?_;refine⟨_,rfl,t,_,_,_,rfl,rfl,SqT.of hw,hw0,rfl,_,rfl,?_⟩;by_cases hc:D=.close
 ·subst hc;rw[show decide (V.str (Xm .close)=V.str "close")=true from zp8 rfl];refine iteT ⟨sz2,fun l1 f1=>?_⟩;have s1:=Zf (o:=.lst [.str "NotDrawn",.str ""]) f1;have q1:=Zb (H:=H) (a:=l1) (o:=.lst [.str "NotDrawn",.str ""]);generalize upd H l1 (.lst [.str "NotDrawn",.str ""])=H1 at s1 q1 ⊢;refine⟨_,rfl,d,_,rfl,DGet.k (k:=.inr "drawn") (s1 _ _ gd),.inr ⟨_,rfl,l1,_,_,_,rfl,rfl,SqL.of q1,Mf _,?_⟩⟩;have:=hh H1 s1;unfold dueW at this;simp only[refS] at this;rw[if_neg e0] at this;cases hk:S.cur with
  | none=>rw[hk,if_pos rfl] at this;exact this
  | some s=>rw[if_neg (by rw[hk];exact nofun)] at this;exact this
 have hwc:decide (V.str (Xm D)=V.str "close")=false:=by
  cases D with
  | enrol n g c=>exact Xl (show decide (("enrol":Str)="close")=false by decide +kernel)
  | draw ms=>exact Xl (show decide (("draw up":Str)="close")=false by decide +kernel)
  | close=>exact absurd rfl hc
  | away i n=>exact absurd rfl (hna i n)
  | back=>exact absurd rfl hb
 rw[hwc];refine iteF (Zv ?_);dsimp only;refine⟨sz2,fun l1 f1=>?_⟩;have s1:=Zf (o:=.lst [.str "",.str "DrawnUp"]) f1;have q1:=Zb (H:=H) (a:=l1) (o:=.lst [.str "",.str "DrawnUp"]);generalize upd H l1 (.lst [.str "",.str "DrawnUp"])=H1 at s1 q1 ⊢;refine⟨_,rfl,d,_,rfl,DGet.k (k:=.inr "drawn") (s1 _ _ gd),.inr ⟨_,rfl,l1,_,_,_,rfl,rfl,SqL.of q1,Mf _,?_⟩⟩;have:=hh H1 s1;have hr:dueW S D=if S.cur.isSome=true then "DrawnUp" else "":=by
  cases D with
  | close=>exact absurd rfl hc
  | away i n=>exact absurd rfl (hna i n)
  | back=>exact absurd rfl hb
  | draw ms =>
    cases hdr ms rfl;by_cases c1:S.cur.isSome=true
    ·rw[if_pos c1];unfold dueW;simp only[refS];rw[if_neg e0,if_pos c1];rfl
    ·rw[if_neg c1,Fz e0 c1 hst];unfold Hu;rw[if_neg ⋯,if_neg (fun ⟨m,hm,_⟩=>nomatch hm),if_neg (fun ⟨m,hm,_⟩=>nomatch hm)]
  | enrol n g c =>
    obtain⟨x1,x2,x3⟩:=hen n g c rfl;unfold dueW;simp only[refS];rw[if_neg e0];by_cases c1:S.cur.isSome=true
    ·rw[if_pos c1,if_pos c1];rfl
    ·rw[if_neg c1,if_neg c1,if_neg x1,if_neg x2,if_neg ⋯,if_neg ⋯]
 rw[hr] at this;cases hk:S.cur with
 | none=>rw[hk] at this;exact this
 | some s=>rw[hk] at this;exact this
abbrev Rl:Stmt:=top 71
theorem Vc:Zm ["_law_state","_law_deed","_law_at_here","_law_word","_law_number","_law_day"] ["_law_state","_law_deed"] (Zj Rl):=fnS
theorem Ge(F:Fun K "_law_moved" "_law_moved" Rl f fd)(T:Tx K mg a):FnOk P w K mg base (CX1 P w) 1 f fd ["_law_state","_law_deed"] (Ib K):=by
 refine F.okX Vc ⋯ fun _ _ _ _ H _ Q E hr h=>?_;obtain⟨d,lp,lo,ll,t,S,S',D,v,H0,rfl,X,hD,g,af,hdr,hdx,hpl,hsl,hol,h⟩:=h;have hu:=Ws hr;refine⟨_,(Zc (pS 2 Vc.nd (Z3 Vv (pD hu (pv 0) Zl) Zi))
 (Ze (Zz (Zp Y6 (pI (iU K) (pv 1) Zi) Zl (Zr _))
  (Zc (Ab (Ik PySem.F.plainAttrs_list PySem.F.slot_list_pop PySem.F.type_list_pop Et (pD hu (pv 0) Zl)) (V3 (K:=K) (n:=3) rfl rfl (Z8 (pN 3 Vc.nd) (Z8 (pN 4 Vc.nd) (Z8 (pN 5 Vc.nd) V2)))))
  (Ze (Zz (Zp Y6 (pv 3) Zl (Zr _))
   (Ze (Zy (A0 PySem.F.plainAttrs_list PySem.F.slot_list_remove PySem.F.type_list_remove (E8 (K:=K) rfl hr.units) (pD hu (pv 0) Zl) (Za (Yd (Za (pv 5) (Za (pv 4) Zd))) Zd))))
   (Ze (Zz (Zp Y6 (pv 3) Zl (Zr _))
    (Ze (Zy (Ik PySem.F.plainAttrs_list PySem.F.slot_list_pop PySem.F.type_list_pop Et (pD hu (pv 0) Zl))))
    (Ze (Wf hu (pv 0) Zl Vq rfl)))))))
  (Ze (Zz (Zp Y6 (pI (iU K) (pv 1) Zi) Zl (Zr _))
   (Zc (Wf hu (pv 0) Zl (pv 2) rfl)
   (Zc (Wf hu (pv 0) Zl Vq rfl)
   (Ze (Wf hu (pv 0) Zl (Z4 Zd) rfl))))
   (Ze (Zz (Zp Y6 (pI (iU K) (pv 1) Zi) Zl (Zr _))
    (Zc (Yq (pD hu (pv 0) Zl) (Yd (Za (pI (iU K) (pv 1) Zi) (Za (pI (iU K) (pv 1) Zi) Zd))))
    (Ze (Yq (pD hu (pv 0) Zl) (Yd (Za Zl (Za (pI (iU K) (pv 1) Zi) (Za (pI (iU K) (pv 1) Zi) Zd)))))))
    (Ze (Zz (Zp Y6 (pI (iU K) (pv 1) Zi) Zl (Zr _))
     (Zc (Yq (pD hu (pv 0) Zl) (pI (iU K) (pv 1) Zi))
     (Ze (Yq (pD hu (pv 0) Zl) (Yd (Za Zl (Za (pI (iU K) (pv 1) Zi) (Za (pv 2) Zd)))))))
     (Zc (Wf hu (pv 0) Zl Vq rfl)
     (Ze (Yq (pD hu (pv 0) Zl) (Yd (Za Zl (Za Zi (Za (pv 2) Zd)))))))))))))))),?_⟩
 show let y1:TS:=_;let y2:TS:=_;let y3:TS:=Z1 _ y2;let y4:TS:=(Ec _ (Z1 _ y1) (Ec _ (Z1 _ y3) _));Z1 _ y4 _ _ _;intro y1 y2 y3 y4;obtain⟨gd,p1,⟨ots,o1,o2⟩,⟨lts,g1,g2⟩,n1,n2,n3⟩:=id X;have hlt:lts.length=S.std.length:=by rw[g2.length,zp3]
 have hot:ots.length=S.out.length:=by rw[o2.length,zp3]
 have dlp:d≠lp:=Z9 gd p1 (by intro z;cases z);have dlo:d≠lo:=Z9 gd o1 (by intro z;cases z);have dll:d≠ll:=Z9 gd g1 (by intro z;cases z);have sz6:6<sizeLine:=by rw[sizeLine_eq];decide
 have sz3:3<=sizeLine:=by rw[sizeLine_eq];decide
 obtain⟨rw,hw⟩:=hD.word;have hw0:atI (V.str (Xm D) :: rw) 0=some (V.str (Xm D)):=Yw (j:=0) rfl;refine⟨_,rfl,d,_,rfl,DGet.k (k:=.inr "over") gd,_,_,rfl,rfl,?_⟩;walk_at "if";by_cases hb:D=.back
 ·subst hb;have ht:H t=some (.tup [.str "take back"]):=hD;refine⟨_,rfl,t,_,_,_,rfl,rfl,SqT.of ht,rfl,rfl,_,rfl,?_⟩;rw[S9];refine iteT (Y2 ?_);cases af with
  | @back S0 dd tt hs _ hst =>
    have dx:=hdx rfl dd S'.cur hs;rw[hs,zqg] at g2;obtain⟨lts0,tl,rfl,g3,htl⟩:=Z0.unsnoc g2;refine⟨_,rfl,d,_,rfl,DGet.k (k:=.inr "log") gd,.inl ⟨rfl,_,SqL.of g1⟩,ll,_,V.ref tl,rfl,rfl,g1,by simp,?_⟩;rw[List.dropLast_concat];have k1:∀ x o,H x=some o->x≠ll->upd H ll (.lst lts0) x=some o:=fun x o e n=>by rw[Zh n];exact e
    have kt1:∀ x ys,H x=some (.tup ys)->upd H ll (.lst lts0) x=some (.tup ys):=fun x ys e=>k1 _ _ e (Z9 e g1 (by intro z;cases z));have q1:=Zb (H:=H) (a:=ll) (o:=.lst lts0);have gd1:=k1 _ _ gd dll;have p11:=k1 _ _ p1 n2;have o11:=k1 _ _ o1 n3;have o21:=o2.mono kt1;have g31:=g3.mono kt1;have htl1:=kt1 _ _ htl;generalize upd H ll (.lst lts0)=H1 at k1 kt1 q1 gd1 p11 o11 o21 g31 htl1 ⊢;refine⟨tl,_,rfl,SqT.of htl1,rfl,_,_,rfl,_,_,rfl,_,_,rfl,rfl,?_⟩;obtain⟨d',a1,a2,a3,a4,a5,a6⟩:=hst;have ed:d'=dd:=by
     obtain⟨_,e2⟩:=zrs (a1.symm.trans hs) rfl;exact(Prod.mk.inj (List.cons.inj e2).1).1
    subst ed;have w1:("enrol":Str)≠"away":=by decide +kernel
    have w2:("enrol":Str)≠"draw up":=by decide +kernel
    have w3:("draw up":Str)≠"away":=by decide +kernel
    walk_at "if";refine⟨_,rfl,rfl,_,rfl,?_⟩;rcases a2 with ⟨x1,⟨gg',cc',x2⟩,x3⟩|⟨x1,x2,x3,x4⟩|⟨x1,x2,x3⟩
    ·rw[show decide (V.str d'.1=V.str "away")=false by rw[x1];exact Xl (show decide (("enrol":Str)="away")=false by decide +kernel)];refine iteF ?_;refine⟨_,rfl,rfl,_,rfl,?_⟩;rw[show decide (V.str d'.1=V.str "enrol")=true by rw[x1];exact S9];refine iteT ?_;rw[x2,zqg,zqg] at p11;refine⟨_,rfl,d,_,rfl,DGet.k (k:=.inr "people") gd1,.inl ⟨rfl,_,SqL.of p11⟩,lp,_,V.int d'.2.1,rfl,rfl,p11,by simp,?_⟩;rw[show (List.map V.int (S'.ppl.map (·.1))++List.map V.int (List.map (·.1) [(d'.2.1,gg',cc')])).dropLast=(S'.ppl.map (·.1)).map V.int from List.dropLast_concat];have k2:∀ x o,H1 x=some o->x≠lp->upd H1 lp (.lst ((S'.ppl.map (·.1)).map V.int)) x=some o:=fun x o e n=>by rw[Zh n];exact e
     have kt2:∀ x ys,H1 x=some (.tup ys)->upd H1 lp (.lst ((S'.ppl.map (·.1)).map V.int)) x=some (.tup ys):=fun x ys e=>k2 _ _ e (Z9 e p11 (by intro z;cases z));refine h ll _ ⟨?_,Zb,⟨ots,k2 _ _ o11 n1.symm,by rw[x3];exact o21.mono kt2⟩,⟨lts0,k2 _ _ q1 n2.symm,g31.mono kt2⟩,n1,n2,n3⟩ (fun x o e m1 m2 m3 m4=>k2 _ _ (k1 _ _ e m4) m2) (.inl rfl);have:=k2 _ _ gd1 dlp;rcases dx with ⟨y,_⟩|⟨_,y⟩
     ·exact absurd (x1.symm.trans y) w2
     ·rw[<- a3,<- a5,y];exact this
    ·rw[show decide (V.str d'.1=V.str "away")=true by rw[x1];exact S9];refine iteT ?_;rw[x3,zqg] at o21;obtain⟨ots0,tq,rfl,o31,htq⟩:=Z0.unsnoc o21;have hol0:ots0.length=S'.out.length:=by rw[o31.length,zp3]
     refine⟨_,rfl,d,_,rfl,DGet.k (k:=.inr "out") gd1,.inl ⟨rfl,_,SqL.of o11⟩,_,rfl,_,rfl,sz2,fun tp ftp=>?_⟩;have s2:=Zf (o:=.tup [.int d'.2.2,.int d'.2.1]) ftp;have q2:=Zb (H:=H1) (a:=tp) (o:=.tup [.int d'.2.2,.int d'.2.1]);generalize upd H1 tp (.tup [.int d'.2.2,.int d'.2.1])=H2 at s2 q2 ⊢;refine⟨lo,tp,_,d'.2.2,d'.2.1,S.out,S'.out.length,rfl,rfl,s2 _ _ o11,SqT.of q2,?_,by rw[x3];exact zcy _ _,fun m hm=>by rw[x3];exact zcz x4 m hm,?_⟩
     ·rw[x3,zqg];exact o21.same s2
     rw[<- hol0,E9];have k2:∀ x o,H2 x=some o->x≠lo->upd H2 lo (.lst ots0) x=some o:=fun x o e n=>by rw[Zh n];exact e
     have kt2:∀ x ys,H1 x=some (.tup ys)->upd H2 lo (.lst ots0) x=some (.tup ys):=fun x ys e=>k2 _ _ (s2 _ _ e) (Z9 (s2 _ _ e) (s2 _ _ o11) (by intro z;cases z));refine h ll _ ⟨?_,k2 _ _ (s2 _ _ (by rw[x2];exact p11)) n1,⟨ots0,Zb,o31.mono kt2⟩,⟨lts0,k2 _ _ (s2 _ _ q1) n3.symm,g31.mono kt2⟩,n1,n2,n3⟩ (fun x o e m1 m2 m3 m4=>k2 _ _ (s2 _ _ (k1 _ _ e m4)) m3) (.inl rfl);have:=k2 _ _ (s2 _ _ gd1) dlo;rcases dx with ⟨y,_⟩|⟨_,y⟩
     ·exact absurd (y.symm.trans x1) w3
     ·rw[<- a3,<- a5,y];exact this
    ·rw[show decide (V.str d'.1=V.str "away")=false by rw[x1];exact Xl (show decide (("draw up":Str)="away")=false by decide +kernel)];refine iteF ?_;refine⟨_,rfl,rfl,_,rfl,?_⟩;rw[show decide (V.str d'.1=V.str "enrol")=false by rw[x1];exact Xl (show decide (("draw up":Str)="enrol")=false by decide +kernel)];refine iteF ?_;refine⟨_,rfl,d,_,rfl,DPut.k (k:=.inr "drawn") gd1 sz6,?_⟩;have k2:∀ x o,H1 x=some o->x≠d->upd H1 d (.dK (Xb S.len S.led.length false lp lo ll)) x=some o:=fun x o e n=>by rw[Zh n];exact e
     have kt2:∀ x ys,H1 x=some (.tup ys)->upd H1 d (.dK (Xb S.len S.led.length false lp lo ll)) x=some (.tup ys):=fun x ys e=>k2 _ _ e (Z9 e gd1 (by intro z;cases z));refine h ll (upd H1 d (.dK (Xb S.len S.led.length false lp lo ll))) ⟨?_,k2 _ _ (by rw[x2];exact p11) dlp.symm,⟨ots,k2 _ _ o11 dlo.symm,by rw[x3];exact o21.mono kt2⟩,⟨lts0,k2 _ _ q1 dll.symm,g31.mono kt2⟩,n1,n2,n3⟩ (fun x o e m1 m2 m3 m4=>k2 _ _ (k1 _ _ e m4) m1) (.inl rfl);rcases dx with ⟨_,y⟩|⟨y,_⟩
     ·rw[<- a3,<- a5,y];exact Zb
     ·exact absurd x1 y
 refine⟨_,rfl,t,_,_,_,rfl,rfl,SqT.of hw,hw0,rfl,_,rfl,?_⟩;rw[Cn hb];refine iteF ?_;refine⟨_,rfl,t,_,_,_,rfl,rfl,SqT.of hw,hw0,rfl,_,rfl,?_⟩;by_cases hc:D=.close
 ·subst hc;cases af with
  | @close s hs =>
  rw[show decide (V.str (Xm .close)=V.str "close")=true from zp8 rfl];refine iteT (Y2 ?_);refine⟨_,rfl,_,rfl,d,_,rfl,DPut.k (k:=.inr "over") gd sz6,?_⟩;have k1:∀ x o,H x=some o->x≠d->upd H d (.dK (Xb S.len ((S.led.length:Int)+1) S.cur.isSome lp lo ll)) x=some o:=fun x o e n=>by rw[Zh n];exact e
  have q1:=Zb (H:=H) (a:=d) (o:=.dK (Xb S.len ((S.led.length:Int)+1) S.cur.isSome lp lo ll));show Z1 _ _ _ _ (upd H d (.dK (Xb S.len ((S.led.length:Int)+1) S.cur.isSome lp lo ll)));generalize upd H d (.dK (Xb S.len ((S.led.length:Int)+1) S.cur.isSome lp lo ll))=H1 at k1 q1 ⊢;refine⟨_,rfl,d,_,rfl,DPut.k (k:=.inr "drawn") q1 sz6,?_⟩;have k2:∀ x o,H1 x=some o->x≠d->upd H1 d (.dK (Xb S.len ((S.led.length:Int)+1) false lp lo ll)) x=some o:=fun x o e n=>by rw[Zh n];exact e
  have q2:=Zb (H:=H1) (a:=d) (o:=.dK (Xb S.len ((S.led.length:Int)+1) false lp lo ll));show y2 _ _ (upd H1 d (.dK (Xb S.len ((S.led.length:Int)+1) false lp lo ll)));generalize upd H1 d (.dK (Xb S.len ((S.led.length:Int)+1) false lp lo ll))=H2 at k2 q2 ⊢;refine⟨zqo _,fun l9 f9=>⟨_,rfl,d,_,rfl,DPut.k (k:=.inr "log") (Zf f9 _ _ q2) sz6,?_⟩⟩;have s3:=Zf (o:=.lst []) f9;have q3:=Zb (H:=H2) (a:=l9) (o:=.lst []);have n9:l9≠d:=fun z=>by rw[z,q2] at f9;cases f9
  have p13:=s3 _ _ (k2 _ _ (k1 _ _ p1 dlp.symm) dlp.symm);have o13:=s3 _ _ (k2 _ _ (k1 _ _ o1 dlo.symm) dlo.symm);have n9p:lp≠l9:=Zg (k2 _ _ (k1 _ _ p1 dlp.symm) dlp.symm) f9;have n9o:lo≠l9:=Zg (k2 _ _ (k1 _ _ o1 dlo.symm) dlo.symm) f9;generalize upd H2 l9 (.lst [])=H3 at s3 q3 p13 o13 ⊢;have k4:∀ x o,H3 x=some o->x≠d->upd H3 d (.dK (Xb S.len ((S.led.length:Int)+1) false lp lo l9)) x=some o:=fun x o e n=>by rw[Zh n];exact e
  have kall:∀ x o,H x=some o->x≠d->upd H3 d (.dK (Xb S.len ((S.led.length:Int)+1) false lp lo l9)) x=some o:=fun x o e n=>k4 _ _ (s3 _ _ (k2 _ _ (k1 _ _ e n) n)) n;refine h l9 (upd H3 d (.dK (Xb S.len ((S.led.length:Int)+1) false lp lo l9))) ⟨?_,k4 _ _ p13 dlp.symm,⟨ots,k4 _ _ o13 dlo.symm,o2.mono fun x ys e=>kall _ _ e (Z9 e gd (by intro z;cases z))⟩,⟨[],k4 _ _ q3 n9,.nil⟩,n1,n9p,n9o⟩ (fun x o e m1 _ _ _=>kall _ _ e m1) (.inr ?_)
  ·rw[Zb];show some (HO.dK (Xb S.len ((S.led.length:Int)+1) false lp lo l9))=some (HO.dK (Xb S.len (((S.led++[X4 s]).length:Nat):Int) false lp lo l9));rw[zp6];rfl
  ·cases hq:H l9 with
   | none=>rfl
   | some o =>
     have:=k2 _ _ (k1 _ _ hq n9) n9;rw[f9] at this;cases this
 have hwc:decide (V.str (Xm D)=V.str "close")=false:=by
  cases D with
  | enrol n g c=>exact Xl (show decide (("enrol":Str)="close")=false by decide +kernel)
  | draw ms=>exact Xl (show decide (("draw up":Str)="close")=false by decide +kernel)
  | close=>exact absurd rfl hc
  | away i n=>exact Xl (show decide (("away":Str)="close")=false by decide +kernel)
  | back=>exact absurd rfl hb
 rw[hwc];refine iteF ?_;refine⟨_,rfl,t,_,_,_,rfl,rfl,SqT.of hw,hw0,rfl,_,rfl,?_⟩;have app:∀ {H3:Hp} {te:Addr} {dd:Vi} (lp' lo':Addr),H3 ll=some (.lst lts)->H3 te=some (.tup (Y9 dd))->(∀ x o,H3 x=some o->x≠ll->upd H3 ll (.lst (lts++[.ref te])) x=some o)/\(∀ x ys,H3 x=some (.tup ys)->upd H3 ll (.lst (lts++[.ref te])) x=some (.tup ys)):=by
  intro H3 te dd _ _ e1 e2;have k4:∀ x o,H3 x=some o->x≠ll->upd H3 ll (.lst (lts++[.ref te])) x=some o:=fun x o e n=>by rw[Zh n];exact e
  exact⟨k4,fun x ys e=>k4 _ _ e (Z9 e e1 (by intro z;cases z))⟩
 cases D with
 | back=>exact absurd rfl hb
 | close=>exact absurd rfl hc
 | away i n =>
   obtain⟨a1,a2,a3,a4,a5,a6⟩:=af.aw;have ht:H t=some (.tup [.str "away",.int i,.int n]):=hD;rw[show decide (V.str (Xm (.away i n))=V.str "away")=true from zp8 rfl];refine iteT (Y2 ?_);refine⟨_,rfl,d,_,rfl,DGet.k (k:=.inr "out") gd,lo,ots,rfl,o1,_,rfl,t,_,_,_,rfl,rfl,SqT.of ht,rfl,_,rfl,t,_,_,_,rfl,rfl,SqT.of ht,rfl,sz2,fun tp ftp=>?_⟩;have s1:=Zf (o:=.tup [.int i,.int n]) ftp;have q1:=Zb (H:=H) (a:=tp) (o:=.tup [.int i,.int n]);generalize upd H tp (.tup [.int i,.int n])=H1 at s1 q1 ⊢;refine⟨ots,s1 _ _ o1,szN ⋯,?_⟩;have k2:∀ x o,H1 x=some o->x≠lo->upd H1 lo (.lst (ots++[.ref tp])) x=some o:=fun x o e n=>by rw[Zh n];exact e
   have q2:=Zb (H:=H1) (a:=lo) (o:=.lst (ots++[.ref tp]));have kt2:∀ x ys,H1 x=some (.tup ys)->upd H1 lo (.lst (ots++[.ref tp])) x=some (.tup ys):=fun x ys e=>k2 _ _ e (Z9 e (s1 _ _ o1) (by intro z;cases z));generalize upd H1 lo (.lst (ots++[.ref tp]))=H2 at k2 q2 kt2 ⊢;have gd2:=k2 _ _ (s1 _ _ gd) dlo;have g12:=k2 _ _ (s1 _ _ g1) n3.symm;dsimp only;refine⟨_,rfl,d,_,rfl,DGet.k (k:=.inr "log") gd2,ll,lts,rfl,g12,_,rfl,t,_,_,_,rfl,rfl,SqT.of (kt2 _ _ (s1 _ _ ht)),rfl,_,rfl,t,_,_,_,rfl,rfl,SqT.of (kt2 _ _ (s1 _ _ ht)),rfl,sz3,fun te fte=>?_⟩;have s3:=Zf (o:=.tup [.str "away",.int n,.int i]) fte;have q3:upd H2 te (.tup [.str "away",.int n,.int i]) te=some (.tup (Y9 (("away":Str),n,i))):=Zb;show ∃ ys,upd H2 te (.tup [.str "away",.int n,.int i]) ll=_/\_/\_;generalize upd H2 te (.tup [.str "away",.int n,.int i])=H3 at s3 q3 ⊢;refine⟨lts,s3 _ _ g12,szN ⋯,?_⟩;obtain⟨k4,kt4⟩:=app lp lo (s3 _ _ g12) q3;have ktA:∀ x ys,H x=some (.tup ys)->upd H3 ll (.lst (lts++[.ref te])) x=some (.tup ys):=fun x ys e=>kt4 _ _ (s3 _ _ (kt2 _ _ (s1 _ _ e)));refine h ll _ ⟨by rw[a1,a2,a6];exact k4 _ _ (s3 _ _ gd2) dll,by rw[a3];exact k4 _ _ (s3 _ _ (k2 _ _ (s1 _ _ p1) n1)) n2,⟨ots++[.ref tp],k4 _ _ (s3 _ _ q2) n3,?_⟩,⟨lts++[.ref te],Zb,?_⟩,n1,n2,n3⟩ (fun x o e m1 m2 m3 m4=>k4 _ _ (s3 _ _ (k2 _ _ (s1 _ _ e) m3)) m4) (.inl rfl)
   ·rw[a4,zqg];exact Z0.snoc (kt4 _ _ (s3 _ _ (kt2 _ _ q1))) (o2.mono ktA)
   ·rw[a5,zqg];exact Z0.snoc (kt4 _ _ q3) (g2.mono ktA)
 | enrol n gr c =>
   cases af with
   | enrol =>
   have ht:H t=some (.tup [.str "enrol",.int n,.int gr,.int c]):=hD;rw[show decide (V.str (Xm (.enrol n gr c))=V.str "away")=false from Xl (show decide (("enrol":Str)="away")=false by decide +kernel)];refine iteF ?_;refine⟨_,rfl,t,_,_,_,rfl,rfl,SqT.of hw,hw0,rfl,_,rfl,?_⟩;rw[show decide (V.str (Xm (.enrol n gr c))=V.str "enrol")=true from zp8 rfl];refine iteT (Y2 ?_);refine⟨_,rfl,d,_,rfl,DGet.k (k:=.inr "people") gd,lp,_,rfl,p1,_,rfl,t,_,_,_,rfl,rfl,SqT.of ht,rfl,_,p1,szN (by rw[zp3,zp3];omega),?_⟩;have k2:∀ x o,H x=some o->x≠lp->upd H lp (.lst ((S.ppl.map (·.1)).map V.int++[.int n])) x=some o:=fun x o e n=>by rw[Zh n];exact e
   have q2:=Zb (H:=H) (a:=lp) (o:=.lst ((S.ppl.map (·.1)).map V.int++[.int n]));have kt2:∀ x ys,H x=some (.tup ys)->upd H lp (.lst ((S.ppl.map (·.1)).map V.int++[.int n])) x=some (.tup ys):=fun x ys e=>k2 _ _ e (Z9 e p1 (by intro z;cases z));dsimp only;show tApp _ _ _ _ (upd H lp (.lst ((S.ppl.map (·.1)).map V.int++[.int n])));generalize upd H lp (.lst ((S.ppl.map (·.1)).map V.int++[.int n]))=H2 at k2 q2 kt2 ⊢;have gd2:=k2 _ _ gd dlp;have g12:=k2 _ _ g1 n2.symm;refine⟨_,rfl,d,_,rfl,DGet.k (k:=.inr "log") gd2,ll,lts,rfl,g12,_,rfl,t,_,_,_,rfl,rfl,SqT.of (kt2 _ _ ht),rfl,_,rfl,sz3,fun te fte=>?_⟩;have s3:=Zf (o:=.tup [.str "enrol",.int n,.int ((S.led.length:Int)+1)]) fte;have q3:upd H2 te (.tup [.str "enrol",.int n,.int ((S.led.length:Int)+1)]) te=some (.tup (Y9 (("enrol":Str),n,atV S))):=Zb;show ∃ ys,upd H2 te (.tup [.str "enrol",.int n,.int ((S.led.length:Int)+1)]) ll=_/\_/\_;generalize upd H2 te (.tup [.str "enrol",.int n,.int ((S.led.length:Int)+1)])=H3 at s3 q3 ⊢;refine⟨lts,s3 _ _ g12,szN ⋯,?_⟩;obtain⟨k4,kt4⟩:=app lp lo (s3 _ _ g12) q3;have ktA:∀ x ys,H x=some (.tup ys)->upd H3 ll (.lst (lts++[.ref te])) x=some (.tup ys):=fun x ys e=>kt4 _ _ (s3 _ _ (kt2 _ _ e));refine h ll _ ⟨k4 _ _ (s3 _ _ gd2) dll,(k4 _ _ (s3 _ _ q2) n2).trans ?_,⟨ots,k4 _ _ (s3 _ _ (k2 _ _ o1 n1.symm)) n3,o2.mono ktA⟩,⟨lts++[.ref te],Zb,?_⟩,n1,n2,n3⟩ (fun x o e m1 m2 m3 m4=>k4 _ _ (s3 _ _ (k2 _ _ e m2)) m4) (.inl rfl)
   ·show _=some (HO.lst (((S.ppl++[(n,gr,c)]).map (·.1)).map V.int));rw[zqg,zqg];rfl
   ·show Z0 _ _ ((S.std++[((("enrol":Str),n,atV S),S.cur)]).map fun x=>Y9 x.1);rw[zqg];exact Z0.snoc (kt4 _ _ q3) (g2.mono ktA)
 | draw ms =>
   cases hdr ms rfl;cases af with
   | @draw _ gv l hl F T =>
   rw[show decide (V.str (Xm (.draw []))=V.str "away")=false from Xl (show decide (("draw up":Str)="away")=false by decide +kernel)];refine iteF ?_;refine⟨_,rfl,t,_,_,_,rfl,rfl,SqT.of hw,hw0,rfl,_,rfl,?_⟩;rw[show decide (V.str (Xm (.draw []))=V.str "enrol")=false from Xl (show decide (("draw up":Str)="enrol")=false by decide +kernel)];refine iteF (Y2 ?_);refine⟨_,rfl,d,_,rfl,DPut.k (k:=.inr "drawn") gd sz6,?_⟩;have k1:∀ x o,H x=some o->x≠d->upd H d (.dK (Xb S.len S.led.length true lp lo ll)) x=some o:=fun x o e n=>by rw[Zh n];exact e
   have q1:=Zb (H:=H) (a:=d) (o:=.dK (Xb S.len S.led.length true lp lo ll));have kt1:∀ x ys,H x=some (.tup ys)->upd H d (.dK (Xb S.len S.led.length true lp lo ll)) x=some (.tup ys):=fun x ys e=>k1 _ _ e (Z9 e gd (by intro z;cases z));dsimp only;show tApp _ _ _ _ (upd H d (.dK (Xb S.len S.led.length true lp lo ll)));generalize upd H d (.dK (Xb S.len S.led.length true lp lo ll))=H1 at k1 q1 kt1 ⊢;have g11:=k1 _ _ g1 dll.symm;refine⟨_,rfl,d,_,rfl,DGet.k (k:=.inr "log") q1,ll,lts,rfl,g11,_,rfl,sz3,fun te fte=>?_⟩;have s3:=Zf (o:=.tup [.str "draw up",.int 0,.int ((S.led.length:Int)+1)]) fte;have q3:upd H1 te (.tup [.str "draw up",.int 0,.int ((S.led.length:Int)+1)]) te=some (.tup (Y9 (("draw up":Str),0,atV S))):=Zb;show ∃ ys,upd H1 te (.tup [.str "draw up",.int 0,.int ((S.led.length:Int)+1)]) ll=_/\_/\_;generalize upd H1 te (.tup [.str "draw up",.int 0,.int ((S.led.length:Int)+1)])=H3 at s3 q3 ⊢;refine⟨lts,s3 _ _ g11,szN ⋯,?_⟩;obtain⟨k4,kt4⟩:=app lp lo (s3 _ _ g11) q3;have ktA:∀ x ys,H x=some (.tup ys)->upd H3 ll (.lst (lts++[.ref te])) x=some (.tup ys):=fun x ys e=>kt4 _ _ (s3 _ _ (kt1 _ _ e));refine h ll _ ⟨k4 _ _ (s3 _ _ q1) dll,k4 _ _ (s3 _ _ (k1 _ _ p1 dlp.symm)) n2,⟨ots,k4 _ _ (s3 _ _ (k1 _ _ o1 dlo.symm)) n3,o2.mono ktA⟩,⟨lts++[.ref te],Zb,?_⟩,n1,n2,n3⟩ (fun x o e m1 m2 m3 m4=>k4 _ _ (s3 _ _ (k1 _ _ e m1)) m4) (.inl rfl);show Z0 _ _ ((S.std++[((("draw up":Str),((([]:List P3).length:Nat):Int),atV S),S.cur)]).map fun x=>Y9 x.1);rw[zqg];exact Z0.snoc (kt4 _ _ q3) (g2.mono ktA)
abbrev Rm:Stmt:=top 69
theorem Yx:Zm ["_law_season","_law_state","_law_day","_law_number","_law_due_here","_law_told","_law_found"] ["_law_season","_law_state","_law_day","_law_number"] (Zj Rm):=fnS
theorem Gf(F:Fun K "_law_tells" "_law_tells" Rm f fd)(T:Tx K mg a)(zj6:Zt P w K mg base a.zhw "is_away" 2 ["self","at","number"] (Fs (ca a)))(zkq:Yi P w K mg base "_law_truth_is" 1 ["_law_found","_law_due_here"] D7):FnOk P w K mg base (CX1 P w) 3 f fd ["_law_season","_law_state","_law_day","_law_number"] (Cp K (ca a)):=by
 refine F.okX Yx ⋯ fun _ _ _ _ H _ Q E hr h=>?_;obtain⟨A',S,d,lp,lo,ll,i,n,rfl,SA,X,si,sn,h⟩:=h;have hu:=Ws hr;refine⟨_,(Zc (pS 4 Yx.nd Zl)
 (Zc (Zz (Zp (Qb (K:=K) rfl) (pv 3) (pD hu (pv 1) Zl) (by with_unfolding_all rfl))
  (Ze (pS 4 Yx.nd Zl))
  Zq)
 (Zc (Zz (PW.pt (Tn (Zp K7 (pv 2) Zi (Zr _)) (Vu (Zp R8 (pv 2) (pD hu (pv 1) Zl) (Zr _)))))
  (Ze (pS 4 Yx.nd Zl))
  Zq)
 (Zc (pS 5 Yx.nd Zl)
 (Zc (pS 6 Yx.nd Vq)
 (Zc (zcw (as:=[6]) Jh T.znd rfl T.zlt T.zmd rfl T.zk4
  (fun E1 lk1 pn1 EX1 hl1 hO hP=>have hl1_6:=hl1 6 (by simp);
  (Ze (pS 6 Yx.nd (Y8 (pv 0) T.zhx zj6 (hr.mono ⋯) hP (Za (pv 2) (Za (pv 3) Zd))))))
  (fun a1 =>
  (Ze (pS 5 Yx.nd Zl)))
  (fun a1 =>
  (Ze (pS 5 Yx.nd Zl))))
 (Zc (Zz (Zp Mm (pv 4) Zl (Zr _))
  (Ze (Zo (Ww Y6 (pv 5) (pv 4) (Zr _))))
  Zq)
 (Ze (Zo (P6 (Ww Y6 (pv 5) Zl (Zr _)) (Ml (pF zkq hr (Za (pv 6) (Za (Ww (Pr (K:=K) rfl hr.units) (Yd (Za (pv 2) (Za (pv 3) Zd))) (pD hu (pv 1) Zl) (by with_unfolding_all rfl)) Zd)))))))))))))),?_⟩
 show let y1:TS:=_;let y2:TS:=Z1 _ y1;let y3:TS:=Z1 _ y2;let y4:TS:=Z1 _ y3;let y5:TS:=Z1 _ y4;let y6:TS:=Z1 _ y5;let y7:TS:=Z1 _ y6;Z1 _ y7 _ _ _;intro y1 y2 y3 y4 y5 y6 y7;obtain⟨ots,o1,o2⟩:=X.oo;have gd:=X.dd;have p1:=X.pp;obtain⟨⟨dx,vv,ob,_⟩,_⟩:=id SA;obtain⟨w1,hw1⟩:∃ w1:Str,w1=if n∈S.ppl.map (·.1) then ("":Str) else "unknown":=⟨_,rfl⟩
 obtain⟨w2,hw2⟩:∃ w2:Str,w2=if i<1\/(S.len:Int)<i then ("no round":Str) else w1:=⟨_,rfl⟩
 show y7 _ [some (.ref A'.p),some (.ref d),some (.int i),some (.int n),some (.str ""),none,none] H
 let jv1:L2.St->Hp->Prop:=fun σ' H'=>σ'=[some (.ref A'.p),some (.ref d),some (.int i),some (.int n),some (.str w1),none,none]/\H'=H
 refine Nb (b:=!decide (n∈S.ppl.map (·.1))) jv1 (fun Q q=>⟨_,rfl,_,rfl,d,_,rfl,DGet.k (k:=.inr "people") gd,lp,_,rfl,.inl (SqL.of p1),rfl,Jz _,_,rfl,by rw[if_pos rfl,Iz];exact q⟩) (fun hb N hN=>hN _ _ ⟨by rw[hw1,if_neg (of_decide_eq_false (by rw[<- Bool.not_not (decide _),hb];rfl))];rfl,rfl⟩) (fun hb N hN=>Zv (hN _ _ ⟨by rw[hw1,if_pos (of_decide_eq_true (by rw[<- Bool.not_not (decide _),hb];rfl))],rfl⟩)) ?_;rintro σ1 H1 ⟨rfl,rfl⟩
 let jv2:L2.St->Hp->Prop:=fun σ' H'=>σ'=[some (.ref A'.p),some (.ref d),some (.int i),some (.int n),some (.str w2),none,none]/\H'=H1
 refine Nb (b:=decide (i<1)||decide ((S.len:Int)<i)) jv2 (M0 (fun Q q=>⟨_,rfl,_,_,rfl,rfl,_,rfl,q⟩) (fun Q q=>⟨_,rfl,_,rfl,d,_,rfl,DGet.k (k:=.inr "rounds") gd,_,_,rfl,rfl,_,rfl,q⟩)) (fun hb N hN=>hN _ _ ⟨by rw[hw2,if_pos (show i<1\/(S.len:Int)<i by simpa using hb)];rfl,rfl⟩) (fun hb N hN=>Zv (hN _ _ ⟨by rw[hw2,if_neg (show ¬ (i<1\/(S.len:Int)<i) by simpa using hb)],rfl⟩)) ?_;rintro σ2 H2 ⟨rfl,rfl⟩;have nsp:∀ {x y:Str},decide (x=y)=false->decide (V.str x=V.str y)=false:=fun z=>Xl z;show y3 _ [some (.ref A'.p),some (.ref d),some (.int i),some (.int n),some (.str w2),some (.str ""),some (.bl false)] H2;refine⟨_,rfl,A'.p,dx,_,rfl,ob,Ye ⋯,_,rfl,_,rfl,A',S,i,n,rfl,SA,si,sn,?_⟩;by_cases c1:i<1\/(S.len:Int)<i
 ·rw[if_pos c1];rw[if_pos c1] at hw2;subst hw2;refine⟨_,rfl,.inl ⟨T.zio,?_⟩⟩;show y2 _ [some (.ref A'.p),some (.ref d),some (.int i),some (.int n),some (.str "no round"),some (.str "no round"),none] H2;refine Y2 ?_;refine⟨_,rfl,rfl,_,rfl,?_⟩;rw[show decide (V.str ("no round":Str)=V.str "")=false from Xl (show decide (("no round":Str)="")=false by decide +kernel)];refine iteT ?_;refine⟨_,rfl,_,rfl,rfl,?_⟩;rw[S9];exact h _ (.refl _)
 rw[if_neg c1];rw[if_neg c1] at hw2;subst hw2;by_cases c2:n∈S.ppl.map (·.1)
 ·rw[if_pos c2];rw[if_pos c2] at hw1;subst hw1;intro H3 s3;show y2 _ [some (.ref A'.p),some (.ref d),some (.int i),some (.int n),some (.str ""),some (.str ""),some (.bl (decide ((i,n)∈S.out)))] H3;refine Y2 ?_;refine⟨_,rfl,rfl,_,rfl,?_⟩;rw[S9];refine iteF (Zv ?_);dsimp only;refine⟨_,rfl,rfl,_,rfl,?_⟩;rw[S9];refine iteT ?_;refine⟨_,rfl,_,rfl,_,rfl,sz2,fun t3 f3=>?_⟩;have q3:=Zb (H:=H3) (a:=t3) (o:=.tup [.int i,.int n]);have s4:=s3.trans (Zf (o:=.tup [.int i,.int n]) f3);generalize upd H3 t3 (.tup [.int i,.int n])=H4 at q3 s4 ⊢;refine⟨_,rfl,d,_,rfl,DGet.k (k:=.inr "out") (s4 _ _ gd),t3,lo,ots,i,n,S.out,rfl,rfl,SqT.of q3,SqL.of (s4 _ _ o1),o2.same s4,decide ((i,n)∈S.out),?_,h _ s4⟩;rw[if_neg (show ¬ false=true by decide)];rfl
 ·rw[if_neg c2];rw[if_neg c2] at hw1;subst hw1;refine⟨_,rfl,.inr ⟨T.zii,T.zie,?_⟩⟩;show y2 _ [some (.ref A'.p),some (.ref d),some (.int i),some (.int n),some (.str "unknown"),some (.str "unknown"),none] H2;refine Y2 ?_;refine⟨_,rfl,rfl,_,rfl,?_⟩;rw[show decide (V.str ("unknown":Str)=V.str "")=false from Xl (show decide (("unknown":Str)="")=false by decide +kernel)];refine iteT ?_;refine⟨_,rfl,_,rfl,rfl,?_⟩;rw[S9];exact h _ (.refl _)
abbrev Ie:Stmt:=top 72
theorem Vd:Zm ["_law_script","_law_state","_law_season","_law_numbers_here","_law_days","_law_deeds","_law_k","_law_cell_here","_law_away","_law_deed","_law_due_here","_law_told","_law_day","_law_number"] ["_law_script"] (Zj Ie):=fnS
theorem ze6(F:Fun K "law" "law" Ie f fd)(T:Tx K mg a)(zke:Yi P w K mg base "_law_at" 1 ["_law_script","_law_k"] (zen K))(znk:U6 P w K mg base "Season" a.zhw 3 ["self","rounds","rest"] (Ce (ca a)))(zk8:Yi P w K mg base "_law_numbers" 1 ["_law_cell_here","_law_many"] M3)(zl4:Yi P w K mg base "_law_cell" 2 ["_law_script","_law_k"] (Ft K))(zmw:Yi P w K mg base "_law_due" 1 ["_law_state","_law_deed"] (Co K))(zl3:Yi P w K mg base "_law_done" 9 ["_law_season","_law_deed"] (spF (zbd K (ca a))))(zld:Yi P w K mg base "_law_list_is" 3 ["_law_found","_law_due_here"] (G3 K))(zlu:Yi P w K mg base "_law_moved" 1 ["_law_state","_law_deed"] (Ib K))(zk6:Yi P w K mg base "_law_tells" 3 ["_law_season","_law_state","_law_day","_law_number"] (Cp K (ca a)))(zkh:Yi P w K mg base "_law_deeds_are" 4 ["_law_found","_law_due_here"] (Ll K))(zky:Zt P w K mg base a.zhw "deeds" 1 ["self"] (Ci (ca a))):FnOk P w K mg base (CX1 P w) 10 f fd ["_law_script"] (D5 K):=by
 refine F.okX Vd ⋯ fun _ _ _ _ H _ Q E hr h=>?_;obtain⟨b,ns,rfl,hS,hlen,h⟩:=h;have hu:=Ws hr;refine⟨_,(Zc (pS 1 Vd.nd (Dw (Tr Zl (Z3 Ue (pF zke hr (Za (pv 0) (Za Zi Zd))) Zi) (Tr Zl Zi (Tr Zl Vq (Tr Zl (Z4 Zd) (Tr Zl (Z4 Zd) Dv))))) rfl rfl (by simp) ⋯))
 (Zc (Wf hu (pv 1) Zl (Z4 Zd) rfl)
 (Zc (pS 2 Vd.nd (Ip znk (hr.mono ⋯) Zk rfl (Za (pD hu (pv 1) Zl) (Za Zi Zd))))
 (Zc (pS 3 Vd.nd (pF zk8 hr (Za (pF zke hr (Za (pv 0) (Za Zi Zd))) (Za Zi Zd))))
 (Zc (pS 4 Vd.nd (Z3 Ug (Yt (Ks rfl) (by rfl) T.zjv PyProof.Rows.boot_list (Za (Yt B0 (by rfl) T.zjq boot_range (Za (Z3 Vv (pD hu (pv 1) Zl) Zi) Zd)) Zd)) (Z4 (Za (Af Ee Zi) (Za (Z3 Ah Zi Zi) Zd)))))
 (Zc (Ni (i:=5) Vd.nd rfl rfl rfl (cT ["_law_numbers_here"] [3]) (Ua rfl T.zjq (Za (Z3 Ue (Z3 N9 (pF zke hr (Za (pv 0) (Za Zi Zd))) Zi) Zi) Zd)) (fun _ _ _ _ _=>U3) (fun _ _ _ _ _=>(Yd (Za Zl (Za (pI (iL K) (pv 1) (pv 0)) (Za Zi (Za (Z3 Vv Zi (pv 0)) Zd)))))))
 (Zc (Wi PassesOwn.leaving rfl (Cv rfl T.zjq (Za Zi (Za (Zs (Cz rfl) (by rfl) T.zn3 PyProof.Rows.boot_min (Za Zi (Za (Zs (cL K) (by rfl) T.zjl PySem.boot_len (Za (pv 0) Zd)) Zd))) Zd))) (pN 6 Vd.nd)
  (Zc (pS 7 Vd.nd (pF zl4 hr (Za (pv 0) (Za (pv 6) Zd))))
  (Zc (pS 8 Vd.nd (Yd (Za Zl (Za (pI (iL K) (pv 4) (Z3 Ue (Z3 N9 (pv 7) Zi) (Zs (cL K) (by rfl) T.zjl PySem.boot_len (Za (pv 4) Zd)))) (Za (pI (iL K) (pv 3) (Z3 Ue (Z3 N9 (pv 7) Zi) Zi)) Zd)))))
  (Ze (Yq (pv 5) (pI (iL K) (Z3 Ug (Z3 zec (Z4 (Za (pv 8) Zd)) Zi) (Z4 (Za (Yd (Za Zl (Za (Z4 Zd) Zd))) (Za (Yd (Za Zl Zd)) (Za (Yd (Za Zl Zd)) Zd))))) (Z3 Ue (pv 7) Zi)))))))
 (Zc (Wi PassesOwn.leaving rfl (Yv (K:=K) rfl (pv 5)) (pN 9 Vd.nd)
  (Zc (pS 10 Vd.nd (pF zmw hr (Za (pv 1) (Za (pv 9) Zd))))
  (Zc (pS 11 Vd.nd (pF zl3 hr (Za (pv 2) (Za (pv 9) Zd))))
  (Zc (Zz (PW.pt (Mj (Zp Mm (pv 10) Zl (Zr _)) (Pc (PW.pt (Tn (Zp Mm (pI (iU K) (pv 11) Zi) Zl (Zr _)) (Vu (Zp (zce (K:=K) rfl hr.units) (pI (iU K) (pv 11) Zi) (Z4 (Za (pv 10) (Za Zl Zd))) (Zr _))))))))
   (Ze (Zo Vq))
   Zq)
  (Zc (Zz (PW.pt (Mj (Zp Y6 (pv 10) Zl (Zr _)) (Pc (PW.pt (Tn (Zp Mm (pI (iU K) (pv 11) Zi) Zl (Zr _)) (Vu (PW.pt (Mj (Zp Y6 (pI (iU K) (pv 9) Zi) Zl (Zr _)) (Pc (Ud (Vg (pF zld hr (Za (pI (iU K) (pv 11) Zi) (Za (Z4 Zd) Zd))))))))))))))
   (Ze (Zo Vq))
   Zq)
  (Zc (Zz (Zp Y6 (pv 10) Zl (Zr _))
   (Ze (Zy (pF zlu hr (Za (pv 1) (Za (pv 9) Zd)))))
   Zq)
  (Ze (Zz (PW.pt (Mj (Zp Y6 (pI (iU K) (pv 9) Zi) Zl (Zr _)) (Pc (Ud (Vg (pF zk6 hr (Za (pv 2) (Za (pv 1) (Za (pI (iU K) (pv 9) Zi) (Za (pI (iU K) (pv 9) Zi) Zd))))))))))
   (Ze (Zo Vq))
   Zq))))))))
 (Zc (Wi PassesOwn.leaving rfl (Yv (K:=K) rfl (pv 4)) (pN 12 Vd.nd)
  (Ze (Wi PassesOwn.leaving rfl (Yv (K:=K) rfl (Z3 Ug (pv 3) (Z4 (Za Zi (Za (Af Ee Zi) (Za (Z3 Ah Zi Zi) Zd)))))) (pN 13 Vd.nd)
   (Ze (Zz (Ud (Vg (pF zk6 hr (Za (pv 2) (Za (pv 1) (Za (pv 12) (Za (pv 13) Zd)))))))
    (Ze (Zo Vq))
    Zq)))))
 (Ze (Zo (pF zkh hr (Za (Yk (pv 2) T.zhx zky (hr.mono ⋯) Zk) (Za (pD hu (pv 1) Zl) Zd)))))))))))))),?_⟩
 show let y1:TS:=_;let y2:TS:=Z1 _ y1;let y3:TS:=_;let y4:TS:=Z1 _ y3;let y5:TS:=Z1 _ y4;let y6:TS:=Z1 _ y5;let y7:TS:=Z1 _ y6;let y8:TS:=_;let y9:TS:=Z1 _ y8;let y10:TS:=Z1 (zdu _ _ (Z1 _ y7)) y9;let y11:TS:=Z1 (zdu _ _ (Z1 _ y2)) y10;let y12:TS:=Z1 _ y11;let y13:TS:=Z1 _ y12;let y14:TS:=Z1 _ y13;let y15:TS:=Z1 _ y14;let y16:TS:=Z1 _ y15;Z1 _ y16 _ _ _;intro y1 y2 y3 y4 y5 y6 y7 y8 y9 y10 y11 y12 y13 y14 y15 y16;intro d f0;have s2:=Zf (o:=.dK []) f0;have p1:(upd H d (.dK [])) d=some (.dK []):=Zb;generalize upd H d (.dK [])=H2 at s2 p1 ⊢;refine⟨_,rfl,b,ns,1,rfl,s2.seq hS,_,_,rfl,rfl,(show (0:Int)<9 by decide),?_⟩;obtain⟨rr,hrr,hr8⟩:∃ rr:Nat,Qc ns 1%9=(rr:Int)/\rr<=8:=⟨(Qc ns 1%9).toNat,by omega,by omega⟩;rw[hrr];refine⟨zqo _,fun lp f1=>?_⟩;have s3:=Zf (o:=.lst []) f1;have a1:(upd H2 lp (.lst [])) lp=some (.lst []):=Zb;have m1:lp≠d:=fun z=>by rw[z,p1] at f1;cases f1
 generalize upd H2 lp (.lst [])=H3 at s3 a1 ⊢;refine⟨zqo _,fun lo f2=>?_⟩;have s4:=Zf (o:=.lst []) f2;have a2:(upd H3 lo (.lst [])) lo=some (.lst []):=Zb;have m2:lo≠d:=fun z=>by rw[z,s3 _ _ p1] at f2;cases f2
 have n1:lp≠lo:=fun z=>by rw[<- z,a1] at f2;cases f2
 have p4:=s4 _ _ (s3 _ _ p1);have b1:=s4 _ _ a1;generalize upd H3 lo (.lst [])=H4 at s4 a2 p4 b1 ⊢;refine⟨p4,[(.inr "rounds",.int rr),(.inr "over",.int 0),(.inr "drawn",.bl false),(.inr "people",.ref lp),(.inr "out",.ref lo)],rfl,(show 5<=15 by decide),?_⟩;rw[show T8 [] [((.inr "rounds":Key),V.int rr),(.inr "over",.int 0),(.inr "drawn",.bl false),(.inr "people",.ref lp),(.inr "out",.ref lo)]=[((.inr "rounds":Key),V.int rr),(.inr "over",.int 0),(.inr "drawn",.bl false),(.inr "people",.ref lp),(.inr "out",.ref lo)] from rfl];have s5:=Xu (o:=.dK [((.inr "rounds":Key),V.int rr),(.inr "over",.int 0),(.inr "drawn",.bl false),(.inr "people",.ref lp),(.inr "out",.ref lo)]) f0 (s2.trans (s3.trans s4));have p5:(upd H4 d (.dK [((.inr "rounds":Key),V.int rr),(.inr "over",.int 0),(.inr "drawn",.bl false),(.inr "people",.ref lp),(.inr "out",.ref lo)])) d=some (.dK [((.inr "rounds":Key),V.int rr),(.inr "over",.int 0),(.inr "drawn",.bl false),(.inr "people",.ref lp),(.inr "out",.ref lo)]):=Zb;have c1:=(Zh (H:=H4) (o:=.dK [((.inr "rounds":Key),V.int rr),(.inr "over",.int 0),(.inr "drawn",.bl false),(.inr "people",.ref lp),(.inr "out",.ref lo)]) m1).trans b1;have c2:=(Zh (H:=H4) (o:=.dK [((.inr "rounds":Key),V.int rr),(.inr "over",.int 0),(.inr "drawn",.bl false),(.inr "people",.ref lp),(.inr "out",.ref lo)]) m2).trans a2;clear p4 b1 a1 a2 p1 s4 s3 s2;generalize upd H4 d (.dK [((.inr "rounds":Key),V.int rr),(.inr "over",.int 0),(.inr "drawn",.bl false),(.inr "people",.ref lp),(.inr "out",.ref lo)])=H5 at s5 p5 c1 c2 ⊢;walk_at "if";refine⟨zqo _,fun ll f3=>⟨_,rfl,d,_,rfl,DPut.k (k:=.inr "log") (Zf f3 _ _ p5) (by show 5<sizeLine;rw[sizeLine_eq];decide),?_⟩⟩;have n2:lp≠ll:=Zg c1 f3;have n3:lo≠ll:=Zg c2 f3;have m3:ll≠d:=(Zg p5 f3).symm;have c3:=(Zh (H:=upd H5 ll (.lst [])) (o:=.dK (Xb rr 0 false lp lo ll)) m3).trans Zb;have c11:=(Zh (H:=upd H5 ll (.lst [])) (o:=.dK (Xb rr 0 false lp lo ll)) m1).trans ((Zh n2).trans c1);have c21:=(Zh (H:=upd H5 ll (.lst [])) (o:=.dK (Xb rr 0 false lp lo ll)) m2).trans ((Zh n3).trans c2);have p51:=Zb (H:=upd H5 ll (.lst [])) (a:=d) (o:=.dK (Xb rr 0 false lp lo ll));have s51:=Xu (o:=.dK (Xb rr 0 false lp lo ll)) f0 (s5.trans (Zf (o:=.lst []) f3));show y15 _ _ (upd (upd H5 ll (.lst [])) d (.dK (Xb rr 0 false lp lo ll)));generalize upd (upd H5 ll (.lst [])) d (.dK (Xb rr 0 false lp lo ll))=H51 at c3 c11 c21 p51 s51 ⊢;clear p5 c1 c2 s5 f3;refine⟨_,rfl,d,_,rfl,DGet.k (k:=.inr "rounds") p51,?_⟩;intro p0 dx0 hp0 hdx0 ne0;refine⟨p0,dx0,rr,3,rfl,Zb,Yj ⋯ ⋯,Yj ⋯ ⋯,?_⟩;rw[if_neg ⋯,if_neg ⋯];intro A1 H6 hAp SA6 k6 f6;rw[zq5] at SA6;have s6:Same H51 H6:=fun x o e=>k6 x o (by rw[Zh (Zg e hp0),Zh (Zg e hdx0)];exact e) (Zg e hp0);have ff:∀ x∈A1.fp,H51 x=none:=fun x hx=>by
  by_cases z:x=p0
  ·rw[z];exact hp0
  ·have:=f6 x hx z;rw[Zh z] at this;by_cases w:x=dx0
   ·rw[w];exact hdx0
   ·rw[Zh w] at this;exact this
 clear f6 k6;subst hAp;refine⟨rfl,?_⟩;have p6:=s6 _ _ p51;have l6:=s6 _ _ c11;have o6:=s6 _ _ c21;have g6:=s6 _ _ c3;have SH6:Zu (ca a) (hide (B23 d lp lo ll fun _=>False) H6) A1 (Ho rr (Int.toNat 3)):=SA6.hide0 (fun x hx=>by
  rcases hx with z|z|z|z|z
  ·subst z;exact⟨fun z=>(by rw[ff _ z] at p51;cases p51),.inr ⟨_,p6⟩⟩
  ·subst z;exact⟨fun z=>(by rw[ff _ z] at c11;cases c11),.inl ⟨_,l6⟩⟩
  ·subst z;exact⟨fun z=>(by rw[ff _ z] at c21;cases c21),.inl ⟨_,o6⟩⟩
  ·subst z;exact⟨fun z=>(by rw[ff _ z] at c3;cases c3),.inl ⟨_,g6⟩⟩
  ·exact z.elim) rfl rfl (fun x hx=>by cases hx)
 have hS6:=(s51.trans s6).seq hS;clear SA6 ff p51 c11 c21 c3 s51 s6 hp0 hdx0 ne0;walk_at "if";refine⟨_,rfl,b,ns,2,rfl,hS6,_,6,rfl,by decide,fun ln H7 hln s7 fln=>?_⟩;obtain⟨nu,hnu⟩:∃ nu,nu=Pl (Qc ns 2) 6:=⟨_,rfl⟩;rw[<- hnu] at hln;have hnl:nu.length=6:=by rw[hnu];exact Iu _ _
 have hnd:nu.Nodup:=by rw[hnu];exact Fu _ ⋯
 have hrng:∀ n∈nu,1<=n/\n<=999:=by rw[hnu];exact Bt _ _
 clear hnu;walk_at "if";refine⟨_,rfl,d,_,rfl,DGet.k (k:=.inr "rounds") (s7 _ _ p6),_,_,rfl,rfl,_,rfl,fun r1 g1=>?_⟩;have u1:=Zf (o:=.rng 0 ((rr:Int)+3)) g1;have q1:=Zb (H:=H7) (a:=r1) (o:=.rng 0 ((rr:Int)+3));generalize upd H7 r1 (.rng 0 ((rr:Int)+3))=H71 at u1 q1 ⊢;have en:((rr:Int)+3-0).toNat=rr+3:=by omega
 refine⟨r1,0,(rr:Int)+3,rfl,q1,⟨by decide,by decide,by omega,by omega⟩,by rw[en];omega,by rw[en];exact szN ⋯,fun l1 g2=>?_⟩;rw[en];have u2:=Zf (o:=.lst (rngV 0 (rr+3))) g2;have q2:=Zb (H:=H71) (a:=l1) (o:=.lst (rngV 0 (rr+3)));generalize upd H71 l1 (.lst (rngV 0 (rr+3)))=H72 at u2 q2 ⊢;refine⟨_,rfl,_,_,rfl,rfl,⟨by decide,by decide,by decide⟩,sz2,fun l2 g3=>?_⟩;have u3:=Zf (o:=.lst [.int (-1),.int (10 ^ (20:Int).toNat)]) g3;have q3:=Zb (H:=H72) (a:=l2) (o:=.lst [.int (-1),.int (10 ^ (20:Int).toNat)]);generalize upd H72 l2 (.lst [.int (-1),.int (10 ^ (20:Int).toNat)])=H73 at u3 q3 ⊢;obtain⟨ds,hds,hdl,hdsm⟩:∃ ds:List Int,rngV 0 (rr+3)++[.int (-1),.int (10 ^ (20:Int).toNat)]=ds.map V.int/\ds.length=rr+5/\∀ x∈ds,Z6 x:=by
  refine⟨((List.range (rr+3)).map fun i=>(0:Int)+(i:Nat))++[-1,10 ^ 20],?_,?_,fun x hx=>?_⟩
  ·rw[zqg,zrj];rfl
  ·rw[zp6,zp3,zq4];rfl
  ·rcases zqi.mp hx with z|z
   ·obtain⟨i,hi,rfl⟩:=zqh.mp z;have:=zrb.mp hi;exact Yj ⋯ ⋯
   ·simp only[zp7,zq2,or_false] at z;rcases z with rfl|rfl
    ·exact Yj ⋯ ⋯
    ·unfold Z6;decide +kernel
 refine⟨l1,l2,_,_,rfl,rfl,u3 _ _ q2,q3,(by unfold rngV;rw[zp3,zq4];show rr+3+2<=sizeLine;exact szN ⋯),fun ld fld=>?_⟩;rw[hds];have u13:=(u1.trans u2).trans u3;have u4:=Zf (o:=.lst (ds.map V.int)) fld;have hld:=Zb (H:=H73) (a:=ld) (o:=.lst (ds.map V.int));have fld7:=u13.free fld;generalize upd H73 ld (.lst (ds.map V.int))=H8 at u4 hld ⊢;have s8:=u13.trans u4;have hln8:=s8 _ _ hln;have nld:ln≠ld:=Zg hln fld7;clear hds q1 q2 q3 u1 u2 u3 u4 u13 g1 g2 g3 fld en;walk_at "if";have s68:=s7.trans s8;have hS8:=s68.seq hS6;have fld6:=s7.free fld7;obtain⟨mn,hmn,hmn4⟩:∃ mn:Nat,Qc ns 1/9%5=(mn:Int)/\mn<=4:=⟨(Qc ns 1/9%5).toNat,by omega,by omega⟩;refine⟨_,rfl,b,ns,1,rfl,hS8,_,_,rfl,rfl,⟨by decide,by decide⟩,_,_,rfl,rfl,(show (0:Int)<5 by decide),_,rfl,by omega,by omega,?_⟩;rw[hmn,zq5];have hm8:Same (hide (B23 d lp lo ll fun _=>False) H6) (hide (B23 d lp lo ll fun x=>x=ln\/x=ld) H8):=Sb (fun x o e _=>s68 _ _ e) fun x hx=>by
  rcases hx with z|z|z|z|z|z
  ·exact .inl (.inl z)
  ·exact .inl (.inr (.inl z))
  ·exact .inl (.inr (.inr (.inl z)))
  ·exact .inl (.inr (.inr (.inr (.inl z))))
  ·exact .inr (by rw[z];exact fln)
  ·exact .inr (by rw[z];exact fld6)
 have SH8:=SH6.same hm8;have nlp:ln≠lp:=(Zg l6 fln).symm;have nlo:ln≠lo:=(Zg o6 fln).symm;have nll:ln≠ll:=(Zg g6 fln).symm;have ndp:ld≠lp:=(Zg l6 fld6).symm;have ndo:ld≠lo:=(Zg o6 fld6).symm;have ndl:ld≠ll:=(Zg g6 fld6).symm;have p8:=s68 _ _ p6;have l8:=s68 _ _ l6;have o8:=s68 _ _ o6;have g8:=s68 _ _ g6;clear SH6 hm8 p6 l6 o6 g6 hS6;refine Qn (fun i ys H'=>∃ Ds,Same H8 H'/\W2 (·∉A1.fp) (hide (B23 d lp lo ll fun x=>x=ln\/x=ld) H') ys Ds/\(∀ j D,Ds[j]?=some D->D23 nu j D)/\Ds.length=i) ⟨[],Same.refl _,⟨rfl,fun i x hx=>by cases hx⟩,(fun j D hD=>by cases hD),rfl⟩ (szN ⋯) (fun i ys H' ⟨Ds,_,tl,_,e⟩=>by rw[tl.len];omega) ?_ ?_
 ·rintro i ys H' hi ⟨Ds,sm,tl,dk,hl⟩;have hq:nu[i]?=some (nu[i]'⋯):=zp5 ⋯;have hf:(nu.map V.int)[i]?=some (.int (nu[i]'⋯)):=by rw[zqb,hq];rfl
  have hm:nu[i]'⋯∈nu:=zq7 _;generalize (nu[i]'⋯)=fx at hf hm hq;rw[zru];unfold tYes;dsimp only;rw[if_pos rfl];refine⟨_,rfl,_,rfl,ln,_,_,_,rfl,rfl,SqL.of (sm _ _ hln8),Yw hf,_,rfl,_,_,rfl,rfl,(by show 4<=sizeLine;rw[sizeLine_eq];decide),fun t ht=>?_⟩;have u:=Zf (o:=.tup [.str "enrol",.int fx,.int 5,.int (50+(i:Int))]) ht;have hnB:¬ B23 d lp lo ll (fun x=>x=ln\/x=ld) t:=by
   rintro(rfl|rfl|rfl|rfl|rfl|rfl)
   ·rw[sm _ _ p8] at ht;cases ht
   ·rw[sm _ _ l8] at ht;cases ht
   ·rw[sm _ _ o8] at ht;cases ht
   ·rw[sm _ _ g8] at ht;cases ht
   ·rw[sm _ _ hln8] at ht;cases ht
   ·rw[sm _ _ hld] at ht;cases ht
  have hDA:Y4 (·∉A1.fp) (hide (B23 d lp lo ll fun x=>x=ln\/x=ld) (upd H' t (.tup [.str "enrol",.int fx,.int 5,.int (50+(i:Int))]))) t (.enrol fx 5 (50+(i:Int))):=(Ya hnB).trans Zb;refine⟨Ds++[.enrol fx 5 (50+(i:Int))],sm.trans u,(tl.same (Xv u)).snoc hDA,fun j D hD=>?_,by rw[zp6,hl];rfl⟩;rw[List.getElem?_append] at hD;split at hD
  ·exact dk j D hD
  ·have hj:j=Ds.length:=by
    have h1:=(zp4.mp hD).1;have h2:[Xy.enrol fx 5 (50+(i:Int))].length=1:=rfl;omega
   rw[hj,Nat.sub_self] at hD;cases hD;have:=hrng fx hm;exact⟨nofun,⟨Yj ⋯ ⋯,Yj ⋯ ⋯,Yj ⋯ ⋯⟩,fun _ _ _ e=>by cases e;rw[hj,hl];exact⟨hq,by omega,by omega,by omega,by omega⟩⟩
 rintro ys0 H81 ⟨Ds0,s81,tl8,dk8,hDs⟩ le hle;have s89:=Zf (o:=.lst ys0) hle;have q9:upd H81 le (.lst ys0) le=some (.lst ys0):=Zb;generalize upd H81 le (.lst ys0)=H9 at s89 q9 ⊢;have hm9:Same (hide (B23 d lp lo ll fun x=>x=ln\/x=ld) H81) (hide (B23 d lp lo ll fun x=>x=ln\/x=ld\/x=le) H9):=Sb (fun x o e _=>s89 _ _ e) fun x hx=>by
  rcases hx with z|z|z|z|z|z|z
  ·exact .inl (.inl z)
  ·exact .inl (.inr (.inl z))
  ·exact .inl (.inr (.inr (.inl z)))
  ·exact .inl (.inr (.inr (.inr (.inl z))))
  ·exact .inl (.inr (.inr (.inr (.inr (.inl z)))))
  ·exact .inl (.inr (.inr (.inr (.inr (.inr z)))))
  ·exact .inr (by rw[z];exact hle)
 have tl9:=tl8.same hm9;have s8':=s81.trans s89;have nle:∀ {x o},H8 x=some o->x≠le:=fun e=>Zg (s81 _ _ e) hle;have I9:In23 (ca a) E23 nu d lp lo ll (fun x=>x=ln\/x=ld\/x=le) A1 (Ho rr (Int.toNat 3)) 0 H9:=⟨(SH8.same (Xv s81)).same hm9,⟨s8' _ _ p8,s8' _ _ l8,⟨[],s8' _ _ o8,.nil⟩,⟨[],s8' _ _ g8,.nil⟩,n1,n2,n3⟩,.nil rfl ⟨nofun,.nil,nofun,zqo _,rfl,nofun,⟨zqo _,(show rr<=60 by omega),(show 3<=10 by decide)⟩,fun z=>absurd rfl z,⟨zqo _,zqo _⟩,fun s hs=>(by rcases hs with z|z<;>cases z)⟩ nofun,fun x hx=>?_,fun x hx=>?_⟩
 rotate_left
 ·rcases hx with rfl|rfl|rfl
  ·exact⟨_,s8' _ _ hln8⟩
  ·exact⟨_,s8' _ _ hld⟩
  ·exact⟨_,q9⟩
 ·rcases hx with rfl|rfl|rfl
  ·exact⟨nlp,nlo,nll⟩
  ·exact⟨ndp,ndo,ndl⟩
  ·exact⟨(nle l8).symm,(nle o8).symm,(nle g8).symm⟩
 have nnl:ln≠le:=nle hln8;have nnd:ld≠le:=nle hld;have hS81:=s81.seq hS8;have hln9:=s8' _ _ hln8;have hld9:=s8' _ _ hld;clear SH8 tl8 p8 l8 o8 g8 hm9 hS8;have few5:ds.length<=13:=by omega
 have last:∀ {ll2:Addr} {A2:SAd} {S2:Sea} {n2:Nat} {Hz:Hp} {v6 v7 v8 v9 v10 v11:Option V},A2.p=A1.p->In23 (ca a) E23 nu d lp lo ll2 (fun x=>x=ln\/x=ld\/x=le) A2 S2 n2 Hz->n2<=100->Hz ln=some (.lst (nu.map V.int))->Hz ld=some (.lst (ds.map V.int))->y9 { nx:=fun x H'=>Q V.non H',rt:=Q } [some (.ref b),some (.ref d),some (.ref A1.p),some (.ref ln),some (.ref ld),some (.ref le),v6,v7,v8,v9,v10,v11,none,none] Hz:=by
  intro ll2 A2 S2 n2 Hz v6 v7 v8 v9 v10 v11 eAp I hn2 hlnz hldz;have so:=I.hi.ok;have hnum:=so.num;have SAz:=I.sea.same (T1 _ _);obtain⟨⟨dx,vv,ob,_⟩,_⟩:=id SAz;rw[eAp] at ob
  let jv1:Nat->L2.St->Hp->Prop:=fun i σ H'=>(∃ v12 v13,σ=[some (.ref b),some (.ref d),some (.ref A1.p),some (.ref ln),some (.ref ld),some (.ref le),v6,v7,v8,v9,v10,v11,v12,v13])/\Same Hz H'
  refine⟨_,rfl,ld,rfl,⟨_,SqL.of hldz⟩,Wu (K:=K) (a:=ld) (xs:=ds.map V.int) jv1 ⟨⟨_,_,rfl⟩,Same.refl _⟩ (fun i σ H' _ ⟨_,z⟩=>SqL.of (z _ _ hldz)) ?_ ?_⟩
  ·rintro i x σ H1 hx ⟨⟨v12,v13,rfl⟩,s1⟩;obtain⟨dy,hdy,rfl⟩:∃ dy,dy∈ds/\x=.int dy:=by
    rw[zqb] at hx;cases hq:ds[i]? with
    | none=>rw[hq] at hx;cases hx
    | some dy=>rw[hq] at hx;exact⟨dy,zqf hq,(Option.some.inj hx).symm⟩
   walk_at "if";refine⟨_,rfl,_,rfl,_,_,rfl,rfl,⟨by decide,by decide,by decide⟩,(by show 3<=sizeLine;rw[sizeLine_eq];decide),fun l1 g1=>?_⟩;have u1:=s1.trans (Zf (o:=.lst [.int 0,.int (-1),.int (10 ^ (20:Int).toNat)]) g1);have q1:=Zb (H:=H1) (a:=l1) (o:=.lst [.int 0,.int (-1),.int (10 ^ (20:Int).toNat)]);generalize upd H1 l1 (.lst [.int 0,.int (-1),.int (10 ^ (20:Int).toNat)])=H2 at u1 q1 ⊢;refine⟨ln,l1,_,_,rfl,rfl,u1 _ _ hlnz,q1,(by rw[zp3,hnl];show 9<=sizeLine;rw[sizeLine_eq];decide),fun l2 g2=>?_⟩;have u2:=u1.trans (Zf (o:=.lst (nu.map V.int++[.int 0,.int (-1),.int (10 ^ (20:Int).toNat)])) g2);have q2:upd H2 l2 (.lst (nu.map V.int++[.int 0,.int (-1),.int (10 ^ (20:Int).toNat)])) l2=some (.lst ((nu++[0,-1,10 ^ 20]).map V.int)):=by rw[Zb,zqg];rfl
   generalize upd H2 l2 (.lst (nu.map V.int++[.int 0,.int (-1),.int (10 ^ (20:Int).toNat)]))=H3 at u2 q2 ⊢
   let jv2:Nat->L2.St->Hp->Prop:=fun j σ H'=>(∃ v13,σ=[some (.ref b),some (.ref d),some (.ref A1.p),some (.ref ln),some (.ref ld),some (.ref le),v6,v7,v8,v9,v10,v11,some (.int dy),v13])/\Same H3 H'
   refine⟨l2,rfl,⟨_,SqL.of q2⟩,Wu (K:=K) (a:=l2) (xs:=(nu++[0,-1,10 ^ 20]).map V.int) jv2 ⟨⟨_,rfl⟩,Same.refl _⟩ (fun j σ H' _ ⟨_,z⟩=>SqL.of (z _ _ q2)) ?_ ?_⟩
   ·rintro j x σ H4 hx ⟨⟨v13,rfl⟩,s4⟩;obtain⟨n,hn,rfl⟩:∃ n,n∈nu++[0,-1,10 ^ 20]/\x=.int n:=by
     rw[zqb] at hx;cases hq:(nu++[0,-1,10 ^ 20])[j]? with
     | none=>rw[hq] at hx;cases hx
     | some n=>rw[hq] at hx;exact⟨n,zqf hq,(Option.some.inj hx).symm⟩
    have hsn:Z6 n:=by
     rcases zqi.mp hn with z|z
     ·have:=hrng n z;exact Yj ⋯ ⋯
     ·simp only[zp7,zq2,or_false] at z;rcases z with rfl|rfl|rfl
      ·exact Yj ⋯ ⋯
      ·exact Yj ⋯ ⋯
      ·unfold Z6;decide +kernel
    have u4:=u2.trans s4;walk_at "if";exact⟨_,rfl,_,rfl,_,rfl,_,rfl,A2,S2,d,lp,lo,ll2,dy,n,(by rw[eAp];rfl),SAz.same u4,I.st.same u4,hdsm _ hdy,hsn,fun H5 s5=>⟨true,rfl,iteF (Zv ⟨⟨_,rfl⟩,s4.trans s5⟩)⟩⟩
   ·rintro σ H4 ⟨⟨v13,rfl⟩,s4⟩;exact⟨⟨_,_,rfl⟩,u2.trans s4⟩
  ·rintro σ H1 ⟨⟨v12,v13,rfl⟩,s1⟩;obtain⟨lts,g1,g2⟩:=I.st.gg;refine⟨_,rfl,A1.p,dx,_,rfl,s1 _ _ ob,Ye ⋯,A2,S2,(by rw[eAp];rfl),SAz.same s1,by omega,fun l6 ts6 H6 h6 tl6 s6 f6=>?_⟩;have s16:=s1.trans s6;exact⟨_,rfl,d,_,rfl,DGet.k (k:=.inr "log") (s16 _ _ I.st.dd),l6,ll2,ts6,lts,S2.std.map (·.1),rfl,h6,s16 _ _ g1,(by rw[zrj];exact tl6),(by rw[zrj];exact g2.same s16),(by rw[zp3];omega),h _⟩
 have loop:∀ {ys:List V} {Ds:List Xy} {Hz:Hp} {v6 v7 v8:Option V},In23 (ca a) E23 nu d lp lo ll (fun x=>x=ln\/x=ld\/x=le) A1 (Ho rr (Int.toNat 3)) 0 Hz->Hz ln=some (.lst (nu.map V.int))->Hz ld=some (.lst (ds.map V.int))->Hz le=some (.lst ys)->W2 (·∉A1.fp) (hide (B23 d lp lo ll fun x=>x=ln\/x=ld\/x=le) Hz) ys Ds->(∀ j D,Ds[j]?=some D->D23 nu j D)->Ds.length<=90->y10 { nx:=fun x H'=>Q V.non H',rt:=Q } [some (.ref b),some (.ref d),some (.ref A1.p),some (.ref ln),some (.ref ld),some (.ref le),v6,v7,v8,none,none,none,none,none] Hz:=by
  intro ys Ds Hz v6 v7 v8 I hln hld hle tl dk hlen
  let jv3:Nat->L2.St->Hp->Prop:=fun i σ H'=>∃ ll2 A2 S2 v9 v10 v11,σ=[some (.ref b),some (.ref d),some (.ref A1.p),some (.ref ln),some (.ref ld),some (.ref le),v6,v7,v8,v9,v10,v11,none,none]/\A2.p=A1.p/\In23 (ca a) E23 nu d lp lo ll2 (fun x=>x=ln\/x=ld\/x=le) A2 S2 i H'/\Hy nu i S2/\H' ln=some (.lst (nu.map V.int))/\H' ld=some (.lst (ds.map V.int))/\H' le=some (.lst ys)/\W2 (·∉A2.fp) (hide (B23 d lp lo ll2 fun x=>x=ln\/x=ld\/x=le) H') ys Ds
  refine⟨_,rfl,le,rfl,⟨_,SqL.of hle⟩,Wu (K:=K) (a:=le) (xs:=ys) jv3 ⟨ll,A1,_,none,none,none,rfl,rfl,I,nofun,hln,hld,hle,tl⟩ (fun i σ H' _ ⟨_,_,_,_,_,_,_,_,_,_,_,_,z,_⟩=>SqL.of z) ?_ ?_⟩
  ·rintro i x σ H1 hx ⟨ll2,A2,S2,v9,v10,v11,rfl,eAp,I1,pj,hln1,hld1,hle1,tl1⟩;obtain⟨t,D,rfl,hDi,hD⟩:=tl1.at_ i x hx;have hil:i<Ds.length:=(zp4.mp hDi).1;have hd:=dk i D hDi;have so:=I1.hi.ok;have hnum:=so.num;have hfew:=so.few;have hlen2:=so.len;have htot:=so.tot;have hol:=so.olen;have hDt:Y4 (fun _=>True) H1 t D:=(hD.imp fun _ _=>trivial).same (T1 _ _);walk_at "if";refine⟨_,rfl,_,rfl,d,lp,lo,ll2,t,S2,D,rfl,I1.st,hDt,hd.dr,hd.new pj so hnd hrng ⋯,by omega,by omega,by omega,I1.hi.words,fun H2 s2=>?_⟩;have I2:=I1.same s2;have hD2:=hD.same (Xv s2);have tl2:=tl1.same (Xv s2);have hln2:=s2 _ _ hln1;have hld2:=s2 _ _ hld1;have hle2:=s2 _ _ hle1;clear I1 hD tl1 hDt;walk_at "if";have fin:∀ {ll3:Addr} {A3:SAd} {S3:Sea} {Hz:Hp} {v10 v11:Option V},A3.p=A1.p->In23 (ca a) E23 nu d lp lo ll3 (fun x=>x=ln\/x=ld\/x=le) A3 S3 (i+1) Hz->Hy nu (i+1) S3->Hz ln=some (.lst (nu.map V.int))->Hz ld=some (.lst (ds.map V.int))->Hz le=some (.lst ys)->W2 (·∉A3.fp) (hide (B23 d lp lo ll3 fun x=>x=ln\/x=ld\/x=le) Hz) ys Ds->Y4 (fun _=>True) Hz t D->y3 { nx:=jv3 (i+1),rt:=Q,bk:=y9 { nx:=fun x H'=>Q V.non H',rt:=Q },ct:=jv3 (i+1) } [some (.ref b),some (.ref d),some (.ref A1.p),some (.ref ln),some (.ref ld),some (.ref le),v6,v7,v8,some (.ref t),v10,v11,none,none] Hz:=by
    intro ll3 A3 S3 Hz v10 v11 eAp3 J pj3 e1 e2 e3 tlz hDz;obtain⟨rw,hw⟩:=hDz.word;have hw0:atI (V.str (Xm D) :: rw) 0=some (V.str (Xm D)):=Yw (j:=0) rfl;refine⟨_,rfl,t,_,_,_,rfl,rfl,SqT.of hw,hw0,rfl,_,rfl,?_⟩;by_cases ha:∃ i n,D=.away i n
    ·obtain⟨dy,n,rfl⟩:=ha;rw[show decide (V.str (Xm (.away dy n))=V.str "away")=true from zp8 rfl];have ht:Hz t=some (.tup [.str "away",.int dy,.int n]):=hDz;refine iteT ⟨_,rfl,_,rfl,_,rfl,t,_,_,_,rfl,rfl,SqT.of ht,rfl,_,rfl,t,_,_,_,rfl,rfl,SqT.of ht,rfl,A3,S3,d,lp,lo,ll3,dy,n,(by rw[eAp3];rfl),J.sea.same (T1 _ _),J.st,hd.sm.1,hd.sm.2,fun H5 s5=>⟨true,rfl,iteF (Zv ?_)⟩⟩;exact⟨ll3,A3,S3,_,_,_,rfl,eAp3,J.same s5,pj3,s5 _ _ e1,s5 _ _ e2,s5 _ _ e3,tlz.same (Xv s5)⟩
    ·have hwa:decide (V.str (Xm D)=V.str "away")=false:=by
      cases D with
      | enrol n g c=>exact Xl (show decide (("enrol":Str)="away")=false by decide +kernel)
      | draw ms=>exact Xl (show decide (("draw up":Str)="away")=false by decide +kernel)
      | close=>exact Xl (show decide (("close":Str)="away")=false by decide +kernel)
      | away i n=>exact absurd ⟨i,n,rfl⟩ ha
      | back=>exact Xl (show decide (("take back":Str)="away")=false by decide +kernel)
     rw[hwa];refine iteF (iteF (Zv ?_));exact⟨ll3,A3,S3,_,_,_,rfl,eAp3,J,pj3,e1,e2,e3,tlz⟩
   refine⟨_,rfl,_,rfl,B23 d lp lo ll2 (fun x=>x=ln\/x=ld\/x=le),I2.hok,A2,S2,t,D,(by rw[eAp];rfl),I2.sea,hD2,hd.sm,so.cur,so.pok,by omega,by omega,by omega,by omega,by omega,fun _ z=>(I2.hi.back z).imp fun _ y=>y.1,fun r hr u lr H3 hu hlr s3 fu gone=>?_,fun hno u v A3 S3 H3 hu af SA3 nx fr nu3 gone=>?_⟩
   ·have us:=F3 s3;have ut:=J9 (H:=H2) gone;have hu':=ut _ _ hu;have hlr':=ut _ _ hlr;generalize W3 (B23 d lp lo ll2 (fun x=>x=ln\/x=ld\/x=le)) H2 H3=H4 at us ut hu' hlr' ⊢;rw[J0 hr];have hfn:decide (V.str r.name=V.str "")=false:=Xl (zcu r);walk_at "if";refine Y2 ?_;refine⟨_,rfl,rfl,_,rfl,?_⟩;rw[hfn];refine iteT ?_;refine⟨_,rfl,u,_,_,_,rfl,rfl,SqT.of hu',rfl,rfl,_,rfl,?_⟩;rw[S9];refine iteF ?_;refine⟨_,rfl,u,_,_,_,rfl,rfl,SqT.of hu',rfl,_,rfl,sz2,fun l7 f7=>?_⟩;refine⟨.lst ([r.name,"ValueError"].map Dt.str),.lst ([r.name,"ValueError"].map Dt.str),.lst (SqL.of (Zf f7 _ _ hlr')) (Qy [r.name,"ValueError"]),.lst (SqL.of Zb) (Qy [r.name,"ValueError"]),Ck _ (Cm r),Ck _ (Cm r),false,?_,iteF (Zv ?_)⟩
    ·rw[if_pos rfl,G2];rfl
    have s7:=us.trans (Zf (o:=.lst [.str r.name,.str "ValueError"]) f7);generalize upd H4 l7 (.lst [.str r.name,.str "ValueError"])=H7 at s7 ⊢;dsimp only;refine Y2 ?_;refine⟨_,rfl,rfl,_,rfl,?_⟩;rw[hfn];refine iteF (iteF (Zv ?_));dsimp only;refine Y2 ?_;refine⟨_,rfl,rfl,_,rfl,?_⟩;rw[hfn];refine iteF (Zv ?_);dsimp only;exact fin eAp ((I2.same s7).mono (zrn i)) (pj.mono (zrn i)) (s7 _ _ hln2) (s7 _ _ hld2) (s7 _ _ hle2) (tl2.same (Xv s7)) (((hD2.same (T1 _ _)).imp fun _ _=>trivial).same s7)
   ·have g:Lh S2 D:=(Bw hno fun ms e m hm=>by subst e;exact hd.sm.1 m hm).1;have hkn:∀ k gr c,D=.enrol k gr c->k∈nu:=fun k gr c e=>zqf (hd.en k gr c e).1;have f:=FrN.next I2.sea nx fr;have st4:=I2.stay f.kt;have ut:=J9 (H:=H2) gone;have hD4:Y4 (fun _=>True) _ t D:=((hD2.fr f).imp fun _ _=>trivial).same ut
    have hu4:=ut _ _ hu;have af4:=af.same ut;have kb:∀ x o,B23 d lp lo ll2 (fun x=>x=ln\/x=ld\/x=le) x->H2 x=some o->W3 (B23 d lp lo ll2 (fun x=>x=ln\/x=ld\/x=le)) H2 H3 x=some o:=fun x o z e=>by rw[X6 z];exact e
    rw[<- F2 (H:=H2) gone] at SA3 f;have hE:D≠.back->E23 S3:=fun z=>I2.hi.is.after af hd.dr z;generalize W3 (B23 d lp lo ll2 (fun x=>x=ln\/x=ld\/x=le)) H2 H3=H4 at st4 ut hD4 hu4 af4 kb SA3 f ⊢;rw[Bz hno];walk_at "if";refine Y2 ?_;refine⟨_,rfl,rfl,_,rfl,?_⟩;rw[S9];refine iteF (iteF (Zv ?_));dsimp only;refine Y2 ?_;refine⟨_,rfl,rfl,_,rfl,?_⟩;rw[S9];refine iteT ?_;refine⟨_,rfl,u,_,_,_,rfl,rfl,SqT.of hu4,rfl,rfl,_,rfl,?_⟩;rw[S9];refine iteF ?_;obtain⟨rw4,hw4⟩:=hD4.word;have hw0:atI (V.str (Xm D) :: rw4) 0=some (V.str (Xm D)):=Yw (j:=0) rfl;refine⟨_,rfl,t,_,_,_,rfl,rfl,SqT.of hw4,hw0,rfl,_,rfl,?_⟩;have go:∀ {H7:Hp},Same H4 H7->y4 { nx:=jv3 (i+1),rt:=Q,bk:=y9 { nx:=fun x H'=>Q V.non H',rt:=Q },ct:=jv3 (i+1) } [some (.ref b),some (.ref d),some (.ref A1.p),some (.ref ln),some (.ref ld),some (.ref le),v6,v7,v8,some (.ref t),some (.str ""),some (.ref u),none,none] H7:=by
     intro H7 s7;refine Y2 ?_;refine⟨_,rfl,rfl,_,rfl,?_⟩;rw[S9];refine iteT ?_;refine⟨_,rfl,_,rfl,d,lp,lo,ll2,t,S2,S3,D,v,H7,rfl,st4.same s7,hD4.same s7,g,af4.same s7,hd.dr,fun z=>?_,by omega,by omega,by omega,fun ll8 H8 X8 k8 n8=>?_⟩
     ·subst z;cases af with
      | back h1 h2 h3 =>
        obtain⟨S1,x1,x2,_⟩:=I2.hi.back g;rw[Jw h3 x1];exact x2
     ·obtain⟨I8,f8,hX8⟩:=I2.moved (SA3.same (Xv s7)) (f.trans (.of (Xv s7))) (fun x o z e=>s7 _ _ (kb x o z e)) af4 g hkn hE X8 k8 n8;exact fin (f8.p.trans eAp) I8 (pj.after hd af4) (hX8 _ _ (.inl rfl) hln2) (hX8 _ _ (.inr (.inl rfl)) hld2) (hX8 _ _ (.inr (.inr rfl)) hle2) (tl2.fr f8) (((hD2.fr f8).imp fun _ _=>trivial).same (T1 _ _))
    by_cases ha:∃ i n,D=.away i n
    ·obtain⟨dy,n,rfl⟩:=ha;rw[show decide (V.str (Xm (.away dy n))=V.str "away")=true from zp8 rfl];obtain⟨l,rfl,hl4⟩:=I2.hi.is.told so.cur af4;refine iteT ⟨_,rfl,u,_,_,_,rfl,rfl,SqT.of hu4,rfl,zqo _,fun l7 f7=>⟨l,l7,[],rfl,Zf f7 _ _ hl4,SqL.of Zb,nofun,zqo _,true,rfl,iteF (Zv ?_)⟩⟩;exact go (Zf f7)
    ·have hwa:decide (V.str (Xm D)=V.str "away")=false:=by
      cases D with
      | enrol n g c=>exact Xl (show decide (("enrol":Str)="away")=false by decide +kernel)
      | draw ms=>exact Xl (show decide (("draw up":Str)="away")=false by decide +kernel)
      | close=>exact Xl (show decide (("close":Str)="away")=false by decide +kernel)
      | away i n=>exact absurd ⟨i,n,rfl⟩ ha
      | back=>exact Xl (show decide (("take back":Str)="away")=false by decide +kernel)
     rw[hwa];refine iteF (iteF (Zv ?_));exact go (.refl _)
  ·rintro σ H1 ⟨ll2,A2,S2,v9,v10,v11,rfl,eAp,I1,pj,hln1,hld1,hle1,tl1⟩;have:=tl.len;exact last eAp I1 ⋯ hln1 hld1
 walk_at "if";refine⟨_,rfl,b,_,rfl,.inl (s89.seq hS81),?_⟩;rw[zp3];refine⟨_,_,rfl,3,_,rfl,⟨by omega,by omega,by split<;>omega,by split<;>omega⟩,?_⟩;obtain⟨N0,hN0,hN1⟩:∃ N0:Nat,((if (ns.length:Int)<63 then (ns.length:Int) else 63)-3).toNat=N0/\∀ i:Nat,i<N0->3+i<ns.length:=⟨_,rfl,fun i hi=>by split at hi<;>omega⟩;have hN60:N0<=60:=by rw[<- hN0];split<;>omega
 rw[hN0]
 let jv4:Nat->L2.St->Hp->Prop:=fun i σ H'=>∃ ys Ds v6 v7 v8,σ=[some (.ref b),some (.ref d),some (.ref A1.p),some (.ref ln),some (.ref ld),some (.ref le),v6,v7,v8,none,none,none,none,none]/\(∀ x o,x≠le->H9 x=some o->H' x=some o)/\H' le=some (.lst ys)/\W2 (·∉A1.fp) (hide (B23 d lp lo ll fun x=>x=ln\/x=ld\/x=le) H') ys Ds/\(∀ j D,Ds[j]?=some D->D23 nu j D)/\Ds.length<=4+i
 refine Rn jv4
  ⟨ys0,Ds0,_,_,_,rfl,fun _ _ _ e=>e,q9,tl9,dk8,by omega⟩ ?_ ?_
 ·rintro i σ H1 hi ⟨ys,Ds,v6,v7,v8,rfl,k1,hle1,tl,dk,hl⟩;have hki:=hN1 i hi;have e3:(3:Int)+(i:Int)=((3+i:Nat):Int):=by omega
  rw[e3];have hln1:=k1 _ _ nnl hln9;have hld1:=k1 _ _ nnd hld9;have I1:=I9.off (fun x o n e=>k1 x o (fun z=>n (.inr (.inr z))) e) (fun x z=>by
   rcases z with rfl|rfl|rfl
   ·exact⟨_,hln1⟩
   ·exact⟨_,hld1⟩
   ·exact⟨_,hle1⟩)
  have hSz:=ze5 hS81 hle (fun x o n e=>k1 x o n (s89 _ _ e));walk_at "if";refine⟨_,rfl,_,rfl,b,ns,3+i,rfl,hSz,hki,fun cell H2 s2=>?_⟩;walk_at "if";have hle2:=s2 _ _ hle1;have hld2:=s2 _ _ hld1;have hln2:=s2 _ _ hln1;have y0:=Int.emod_nonneg (cell/42) (show (((ds.map V.int).length:Nat):Int)≠0 by rw[zp3];omega);have y1':=Int.emod_lt_of_pos (cell/42) (show (0:Int)<(((ds.map V.int).length:Nat):Int) by rw[zp3];omega);have hix1:=Mz (xs:=ds) y0 (by rw[zp3] at y1' ⊢;omega);have mix1:=Jv (ns:=ds) (i:=(cell/42%(((ds.map V.int).length:Nat):Int)).toNat) (by rw[zp3] at y0 y1' ⊢;omega);generalize ds.getD (cell/42%(((ds.map V.int).length:Nat):Int)).toNat 0=dy at hix1 mix1;have y2':=Int.emod_nonneg (cell/7) (show (6:Int)≠0 by decide);have y3':=Int.emod_lt_of_pos (cell/7) (show (0:Int)<6 by decide);have hix2:=Mz (xs:=nu) y2' ⋯;have mix2:=Jv (ns:=nu) (i:=(cell/7%6).toNat) ⋯;generalize nu.getD (cell/7%6).toNat 0=n at hix2 mix2;refine⟨_,rfl,_,rfl,_,_,rfl,rfl,⟨by decide,by decide⟩,_,rfl,ld,_,rfl,.inl (SqL.of hld2),_,_,rfl,rfl,(by rw[zp3];omega),ld,_,_,_,rfl,rfl,SqL.of hld2,hix1,_,rfl,_,rfl,_,_,rfl,rfl,⟨by decide,by decide⟩,_,_,rfl,rfl,⋯,ln,_,_,_,rfl,rfl,SqL.of hln2,hix2,(by show 3<=sizeLine;rw[sizeLine_eq];decide),fun t x0=>?_⟩;have hdy:=hdsm _ mix1;have hn:=hrng _ mix2;have w0:=s2.trans (Zf (o:=.tup [.str "away",.int dy,.int n]) x0);have r0:(upd H2 t (.tup [.str "away",.int dy,.int n])) t=some (.tup [.str "away",.int dy,.int n]):=Zb;have z0:=s2.free x0;walk_at "if";generalize upd H2 t (.tup [.str "away",.int dy,.int n])=H3 at w0 r0 ⊢;refine⟨_,rfl,le,ys,rfl,w0 _ _ hle1,_,rfl,sz1,fun l1 x1=>?_⟩;have w1:=Zf (o:=.lst [.ref t]) x1;have r1:(upd H3 l1 (.lst [.ref t])) l1=some (.lst [.ref t]):=Zb;generalize upd H3 l1 (.lst [.ref t])=Ha at w1 r1 ⊢;refine⟨l1,4,[.ref t],rfl,rfl,r1,by decide,by decide,(by show 4<=sizeLine;rw[sizeLine_eq];decide),fun l2 x2=>?_⟩;have w2:=Zf (o:=.lst (List.replicate (4:Int).toNat [V.ref t]).flatten) x2;have r2:(upd Ha l2 (.lst (List.replicate (4:Int).toNat [V.ref t]).flatten)) l2=some (.lst (List.replicate (4:Int).toNat [V.ref t]).flatten):=Zb;generalize upd Ha l2 (.lst (List.replicate (4:Int).toNat [V.ref t]).flatten)=Hb at w2 r2 ⊢;have u2:=(w0.trans w1).trans w2;refine⟨zqo _,fun l0 x3=>?_⟩;have w3:=Zf (o:=.lst []) x3;have r3:(upd Hb l0 (.lst [])) l0=some (.lst []):=Zb;have z3:=u2.free x3;generalize upd Hb l0 (.lst [])=Hc at w3 r3 ⊢;have u3:=u2.trans w3;refine⟨sz2,fun t1 x4=>?_⟩;have w4:=Zf (o:=.tup [.str "draw up",.ref l0]) x4;have r4:(upd Hc t1 (.tup [.str "draw up",.ref l0])) t1=some (.tup [.str "draw up",.ref l0]):=Zb;have z4:=u3.free x4;generalize upd Hc t1 (.tup [.str "draw up",.ref l0])=Hd at w4 r4 ⊢;have u4:=u3.trans w4;refine⟨sz1,fun t2 x5=>?_⟩;have w5:=Zf (o:=.tup [.str "close"]) x5;have r5:(upd Hd t2 (.tup [.str "close"])) t2=some (.tup [.str "close"]):=Zb;have z5:=u4.free x5;generalize upd Hd t2 (.tup [.str "close"])=He at w5 r5 ⊢;have u5:=u4.trans w5;refine⟨sz1,fun t3 x6=>?_⟩;have w6:=Zf (o:=.tup [.str "take back"]) x6;have r6:(upd He t3 (.tup [.str "take back"])) t3=some (.tup [.str "take back"]):=Zb;have z6:=u5.free x6;generalize upd He t3 (.tup [.str "take back"])=Hf at w6 r6 ⊢;have u6:=u5.trans w6;refine⟨(by show 3<=sizeLine;rw[sizeLine_eq];decide),fun lm x7=>?_⟩;have w7:=Zf (o:=.lst [.ref t1,.ref t2,.ref t3]) x7;have r7:(upd Hf lm (.lst [.ref t1,.ref t2,.ref t3])) lm=some (.lst [.ref t1,.ref t2,.ref t3]):=Zb;generalize upd Hf lm (.lst [.ref t1,.ref t2,.ref t3])=Hg at w7 r7 ⊢;have w37:=(((w3.trans w4).trans w5).trans w6).trans w7;refine⟨l2,lm,_,_,rfl,rfl,w37 _ _ r2,r7,(by show 7<=sizeLine;rw[sizeLine_eq];decide),fun l3 x8=>?_⟩;have w8:=Zf (o:=.lst ((List.replicate (4:Int).toNat [V.ref t]).flatten++[V.ref t1,.ref t2,.ref t3])) x8;have r8:(upd Hg l3 (.lst ((List.replicate (4:Int).toNat [V.ref t]).flatten++[V.ref t1,.ref t2,.ref t3]))) l3=some (.lst ((List.replicate (4:Int).toNat [V.ref t]).flatten++[V.ref t1,.ref t2,.ref t3])):=Zb;generalize upd Hg l3 (.lst ((List.replicate (4:Int).toNat [V.ref t]).flatten++[V.ref t1,.ref t2,.ref t3]))=Hh at w8 r8 ⊢;obtain⟨t',hat,htt⟩:=zgn (t:=t) (t1:=t1) (t2:=t2) (t3:=t3) (Int.emod_nonneg cell (show (7:Int)≠0 by decide)) (Int.emod_lt_of_pos cell (show (0:Int)<7 by decide));have w78:=w7.trans w8;have u9:=u6.trans w78;obtain⟨D,hD,hD23⟩:∃ D,Y4 (·∉A1.fp) (hide (B23 d lp lo ll fun x=>x=ln\/x=ld\/x=le) Hh) t' D/\∀ j,D23 nu j D:=by
   rcases htt with e|e|e|e<;>subst e
   ·exact⟨.away dy n,(Ya (I1.out z0)).trans (w8 _ _ (w37 _ _ (w2 _ _ (w1 _ _ r0)))),fun _=>.away hdy (Yj ⋯ ⋯)⟩
   ·exact⟨.draw [],⟨l0,[],(Ya (I1.out z4)).trans (w78 _ _ (w6 _ _ (w5 _ _ r4))),(Ya (I1.out z3)).trans (w78 _ _ (w6 _ _ (w5 _ _ (w4 _ _ r3)))),.nil,I1.sea.newOk _ (Uc z3)⟩,fun _=>.plain (.inl rfl)⟩
   ·exact⟨.close,(Ya (I1.out z5)).trans (w78 _ _ (w6 _ _ r5)),fun _=>.plain (.inr (.inl rfl))⟩
   ·exact⟨.back,(Ya (I1.out z6)).trans (w78 _ _ r6),fun _=>.plain (.inr (.inr rfl))⟩
  have hyl:ys.length=Ds.length:=tl.len;refine⟨_,rfl,_,_,rfl,rfl,⋯,l3,_,_,_,rfl,rfl,SqL.of r8,hat,ys,u9 _ _ hle1,szN ⋯,ys++[.ref t'],Ds++[D],_,_,_,rfl,fun x o n e=>?_,Zb,?_,fun j D' hD'=>?_,?_⟩
  ·rw[Zh n];exact u9 _ _ (k1 x o n e)
  ·rw[zbl (.inr (.inr (.inr (.inr (.inr (.inr rfl))))))];exact(tl.same (Xv u9)).snoc hD
  ·rw[List.getElem?_append] at hD';split at hD'
   ·exact dk j D' hD'
   ·rw[zp9.mp (zqf hD')];exact hD23 j
  ·rw[zp6];show Ds.length+1<=_;omega
 ·rintro σ H1 ⟨ys,Ds,v6,v7,v8,rfl,k1,hle1,tl,dk,hl⟩;have hln1:=k1 _ _ nnl hln9;have hld1:=k1 _ _ nnd hld9;refine loop (I9.off (fun x o n e=>k1 x o (fun z=>n (.inr (.inr z))) e) (fun x z=>?_)) hln1 hld1 hle1 tl dk ⋯;rcases z with rfl|rfl|rfl
  ·exact⟨_,hln1⟩
  ·exact⟨_,hld1⟩
  ·exact⟨_,hle1⟩
end
end K23
namespace K23
open PySem PySem.Spec PyProof.Rows L2 G PySem.W
theorem ze7{l:OpenLaw}{w:World}{K:Frag}{h:Heap}{mg:Str->Option Value}{fa zi8 zh8 zia zh6 zhy zh7 ziu zik zh5 ziq zij zif ziz zit zh3 zh9 zhz zh0 zh1 zhw f0 f1 f2 f3 f4 f5 f6 f7 f8 f9 f10 f11 f12 f13 f14 f15 f16 f17 f18 f19 f20 f21 f22 f23 f24 f25 f26 f27 f28 f29 f30 f31 f32 f33 f34 f35 f36 f37 f38 f39 f40 f41 f42 f43 f44 f45 f46 f47 f48 f49 f50 f51 f52 f53 f54 f55 f56 f57 f58 f59 f60 f61 f62 f63 f64 f65 f66 f67 f68 f69 f70 f71:Addr}{tk0 tk1 tk2 tk3 tk4 tk5 tk6 tk7:Tok}{u0 n0 u1 n1 u2 n2 u3 n3 u4 n4 u5 n5 u6 n6 u7 n7 u8 n8 u9 n9 u10 n10 u11 n11 u12 n12 u13 n13 u14 n14 u15 n15 u16 n16 u17 n17 u18 n18 u19 n19 u20 n20 u21 n21 u22 n22 u23 n23 u24 n24 u25 n25 u26 n26 u27 n27 u28 n28 u29 n29 u30 n30 u31 n31 u32 n32 u33 n33 u34 n34 u35 n35 u36 n36 u37 n37 u38 n38 u39 n39 u40 n40 u41 n41 u42 n42 u43 n43 u44 n44 u45 n45 u46 n46 u47 n47 u48 n48 u49 n49 u50 n50 u51 n51 u52 n52 u53 n53 u54 n54 u55 n55 u56 n56 u57 n57 u58 n58 u59 n59 u60 n60 u61 n61 u62 n62 u63 n63 u64 n64 u65 n65 u66 n66 u67 n67 u68 n68 u69 n69 u70 n70 u71 n71:Option Addr}{z0 z1 z2 z3 z4 z5 z6 z7 z8 z9 z10 z11 z12 z13 z14 z15 z16 z17 z18 z19 z20 z21 z22 z23 z24 z25 z26 z27 z28 z29 z30 z31 z32 z33 z34 z35 z36 z37 z38 z39 z40 z41 z42 z43 z44 z45 z46 z47 z48 z49 z50 z51 z52 z53 z54 z55 z56 z57 z58 z59 z60 z61 z62 z63 z64 z65 z66 z67 z68 z69 z70 z71:Array (Option Value)}{o0 v0 d0 m0 c0 t0 o1 v1 d1 m1 c1 t1 o2 v2 d2 m2 c2 t2 o3 v3 d3 m3 c3 t3 o4 v4 d4 m4 c4 t4 o5 v5 d5 m5 c5 t5 o6 v6 d6 m6 c6 t6 o7 v7 d7 m7 c7 t7 o8 v8 d8 m8 c8 t8 o9 v9 d9 m9 c9 t9 o10 v10 d10 m10 c10 t10 o11 v11 d11 m11 c11 t11 o12 v12 d12 m12 c12 t12 o13 v13 d13 m13 c13 t13 o14 v14 d14 m14 c14 t14 o15 v15 d15 m15 c15 t15 o16 v16 d16 m16 c16 t16 o17 v17 d17 m17 c17 t17 o18 v18 d18 m18 c18 t18 o19 v19 d19 m19 c19 t19 o20 v20 d20 m20 c20 t20 o21 v21 d21 m21 c21 t21 o22 v22 d22 m22 c22 t22 o23 v23 d23 m23 c23 t23 o24 v24 d24 m24 c24 t24 o25 v25 d25 m25 c25 t25 o26 v26 d26 m26 c26 t26 o27 v27 d27 m27 c27 t27 o28 v28 d28 m28 c28 t28 o29 v29 d29 m29 c29 t29 o30 v30 d30 m30 c30 t30 o31 v31 d31 m31 c31 t31 o32 v32 d32 m32 c32 t32 o33 v33 d33 m33 c33 t33 o34 v34 d34 m34 c34 t34 o35 v35 d35 m35 c35 t35 o36 v36 d36 m36 c36 t36 o37 v37 d37 m37 c37 t37 o38 v38 d38 m38 c38 t38 o39 v39 d39 m39 c39 t39 o40 v40 d40 m40 c40 t40 o41 v41 d41 m41 c41 t41 o42 v42 d42 m42 c42 t42 o43 v43 d43 m43 c43 t43 o44 v44 d44 m44 c44 t44 o45 v45 d45 m45 c45 t45 o46 v46 d46 m46 c46 t46 o47 v47 d47 m47 c47 t47 o48 v48 d48 m48 c48 t48 o49 v49 d49 m49 c49 t49 o50 v50 d50 m50 c50 t50 o51 v51 d51 m51 c51 t51 o52 v52 d52 m52 c52 t52 o53 v53 d53 m53 c53 t53 o54 v54 d54 m54 c54 t54 o55 v55 d55 m55 c55 t55 o56 v56 d56 m56 c56 t56 o57 v57 d57 m57 c57 t57 o58 v58 d58 m58 c58 t58 o59 v59 d59 m59 c59 t59 o60 v60 d60 m60 c60 t60 o61 v61 d61 m61 c61 t61 o62 v62 d62 m62 c62 t62 o63 v63 d63 m63 c63 t63 o64 v64 d64 m64 c64 t64 o65 v65 d65 m65 c65 t65 o66 v66 d66 m66 c66 t66 o67 v67 d67 m67 c67 t67 o68 v68 d68 m68 c68 t68 o69 v69 d69 m69 c69 t69 o70 v70 d70 m70 c70 t70 o71 v71 d71 m71 c71 t71:Value}(X:K.In h)(G:h.Ns mainGlobals mg)(hfa:mg "law"=some (.ref fa))
  (zlq:NsB K "BookError" zi8)
  (zkl:NsB K "OutOfRange" zh8)
  (zju:NsB K "KnownReferee" zia)
  (zjb:NsB K "TooManyReferees" zh6)
  (zjh:NsB K "UnknownReferee" zhy)
  (zjk:NsB K "TooManyMatches" zh7)
  (zlk:NsB K "SameClub" ziu)
  (zlc:NsB K "NoSuchMatch" zik)
  (zj8:NsB K "NoSuchRound" zh5)
  (zk5:NsB K "RoundOver" ziq)
  (zkn:NsB K "SeasonOver" zij)
  (zka:NsB K "AwayAlready" zif)
  (zlz:NsB K "DrawnUp" ziz)
  (zli:NsB K "NotDrawn" zit)
  (zi4:NsB K "NothingToTakeBack" zh3)
  (zjt:NsB K "TooManyDeeds" zh9)
  (zl7:NsB K "Ledger" zhz)
  (zl9:NsB K "Roster" zh0)
  (zm9:NsB K "Sheet" zh1)
  (zmc:NsB K "Season" zhw)
  (zmp:plainGet K zhz Str.empty=true)
  (zm2:hasDictIn K zhz=true)
  (zm3:plainOver K zhz=true)
  (zmo:findIn K (.ref zhz) "__setattr__"=some (some (.builtin "object.__setattr__")))
  (zmk:makesIn K zhz=true)
  (zm5:keepIn K (.ref zhz)=true)
  (zkd:findIn K (.ref zhz) "rounds"=some none)
  (zjd:findIn K (.ref zhz) "meetings"=some none)
  (zmh:plainGet K zh0 Str.empty=true)
  (zmu:hasDictIn K zh0=true)
  (zm6:plainOver K zh0=true)
  (zmz:findIn K (.ref zh0) "__setattr__"=some (some (.builtin "object.__setattr__")))
  (zm1:makesIn K zh0=true)
  (zmj:keepIn K (.ref zh0)=true)
  (zi2:findIn K (.ref zh0) "entries"=some none)
  (znq:plainGet K zh1 Str.empty=true)
  (zne:hasDictIn K zh1=true)
  (znf:plainOver K zh1=true)
  (znc:findIn K (.ref zh1) "__setattr__"=some (some (.builtin "object.__setattr__")))
  (zng:makesIn K zh1=true)
  (znn:keepIn K (.ref zh1)=true)
  (zjy:findIn K (.ref zh1) "listed"=some none)
  (zl8:findIn K (.ref zh1) "lists"=some none)
  (zj9:findIn K (.ref zh1) "given"=some none)
  (zlv:findIn K (.ref zh1) "gaps"=some none)
  (zmy:plainGet K zhw Str.empty=true)
  (zm0:hasDictIn K zhw=true)
  (zmi:plainOver K zhw=true)
  (zmt:findIn K (.ref zhw) "__setattr__"=some (some (.builtin "object.__setattr__")))
  (zmn:makesIn K zhw=true)
  (zm4:keepIn K (.ref zhw)=true)
  (zkp:findIn K (.ref zhw) "length"=some none)
  (zmr:findIn K (.ref zhw) "rest"=some none)
  (zi5:findIn K (.ref zhw) "roster"=some none)
  (zje:findIn K (.ref zhw) "ledger"=some none)
  (zjp:findIn K (.ref zhw) "absent"=some none)
  (zkz:findIn K (.ref zhw) "sheets"=some none)
  (zix:findIn K (.ref zhw) "sheet"=some none)
  (zi0:findIn K (.ref zhw) "standing"=some none)
  (zlo:XcB K zh8)
  (zj4:XcB K zh7)
  (zl5:XcB K ziu)
  (zkw:XcB K zia)
  (zj1:XcB K zh6)
  (zj3:XcB K zhy)
  (zlh:XcB K zij)
  (zml:XcB K ziz)
  (zla:XcB K zh5)
  (zkt:XcB K zh9)
  (zl1:XcB K zit)
  (zls:XcB K ziq)
  (zlb:XcB K zif)
  (zjm:XcB K zh3)
  (znv:NzB K "max")
  (zjl:NzB K "len")
  (zlx:NzB K "tuple")
  (zjv:NzB K "list")
  (zkb:NzB K "enumerate")
  (zjq:NzB K "range")
  (zn6:NzB K "zip")
  (zh2:NzB K "isinstance")
  (zme:NzB K "int")
  (zms:NzB K "bool")
  (zn7:NzB K "str")
  (zjw:NzB K "ValueError")
  (zn3:NzB K "min")
  (zlm:typeIn K (.ref zi8)=some (.type "type"))
  (zkk:mroIn K zi8 (.type "BaseException")=some true)
  (zku:typeIn K (.ref zh5)=some (.type "type"))
  (zj0:mroIn K zh5 (.type "BaseException")=some true)
  (zjz:typeIn K (.ref zhy)=some (.type "type"))
  (zja:mroIn K zhy (.type "BaseException")=some true)
  (ga:∀ r:Ref,r≠.noMatch->findIn K (.ref (r.cls (CA.mk zhw zh1 zh0 zhz zh8 zia zh6 zhy zh7 ziu zik zh5 ziq zij zif ziz zit zh3 zh9))) "__getattribute__"=some (some (.builtin "BaseException.__getattribute__")))
  (gk:∀ r:Ref,r≠.noMatch->findIn K (.ref (r.cls (CA.mk zhw zh1 zh0 zhz zh8 zia zh6 zhy zh7 ziu zik zh5 ziq zij zif ziz zit zh3 zh9))) "__getattr__"=some none)
  (at_:∀ r:Ref,r≠.noMatch->findIn K (.ref (r.cls (CA.mk zhw zh1 zh0 zhz zh8 zia zh6 zhy zh7 ziu zik zh5 ziq zij zif ziz zit zh3 zh9))) "__class__"=some (some (.builtin "object.__class__")))
  (mx:∀ r:Ref,r≠.noMatch->mroIn K (r.cls (CA.mk zhw zh1 zh0 zhz zh8 zia zh6 zhy zh7 ziu zik zh5 ziq zij zif ziz zit zh3 zh9)) (.type "BaseException")=some true)
  (mo:∀ r:Ref,r≠.noMatch->mroIn K (r.cls (CA.mk zhw zh1 zh0 zhz zh8 zia zh6 zhy zh7 ziu zik zh5 ziq zij zif ziz zit zh3 zh9)) (.type "object")=some true)
  (mB:∀ r:Ref,r≠.noMatch->mroIn K (r.cls (CA.mk zhw zh1 zh0 zhz zh8 zia zh6 zhy zh7 ziu zik zh5 ziq zij zif ziz zit zh3 zh9)) (.ref zi8)=some true)
  (kit:∀ r t:Ref,r≠.noMatch->kitOne K (.ref (r.cls (CA.mk zhw zh1 zh0 zhz zh8 zia zh6 zhy zh7 ziu zik zh5 ziq zij zif ziz zit zh3 zh9))) (.ref (t.cls (CA.mk zhw zh1 zh0 zhz zh8 zia zh6 zhy zh7 ziu zik zh5 ziq zij zif ziz zit zh3 zh9)))=some (decide (r=t)))
  (zoc:∀ r:Ref,r≠.noMatch->kitOne K (.ref (r.cls (CA.mk zhw zh1 zh0 zhz zh8 zia zh6 zhy zh7 ziu zik zh5 ziq zij zif ziz zit zh3 zh9))) (.type "ValueError")=some true)
  (gt:specialIn K (.builtin "object.__class__") "__get__"=some (some (.builtin "getset_descriptor.__get__")))
  (tk:takesIn K (.builtin "object.__class__")=some true)
  (zie:mroIn K zhy (.ref zhy)=some true)
  (zio:mroIn K zh5 (.ref zh5)=some true)
  (zii:mroIn K zhy (.ref zh5)=some false)
  (zjo:nsIn K mainGlobals "MOST_NUMBER"=some (some (.int 999 tk0)))
  (zjf:nsIn K mainGlobals "MOST_GRADE"=some (some (.int 9 tk1)))
  (zjc:nsIn K mainGlobals "MOST_CLUB"=some (some (.int 99 tk2)))
  (zi3:nsIn K mainGlobals "MOST_REFEREES"=some (some (.int 30 tk3)))
  (zi6:nsIn K mainGlobals "MOST_MATCHES"=some (some (.int 20 tk4)))
  (zjn:nsIn K mainGlobals "MOST_ROUNDS"=some (some (.int 60 tk5)))
  (zkc:nsIn K mainGlobals "MOST_REST"=some (some (.int 10 tk6)))
  (zjg:nsIn K mainGlobals "MOST_DEEDS"=some (some (.int 100 tk7)))
  (l0:LN K "met_lately" "met_lately" Sd f0 o0 v0 d0 m0 c0 t0 u0 n0 z0)
  (l1:LN K "reasons" "reasons" Oq f1 o1 v1 d1 m1 c1 t1 u1 n1 z1)
  (l2:LN K "takers" "takers" Lv f2 o2 v2 d2 m2 c2 t2 u2 n2 z2)
  (l3:LM K zhz "__init__" "Ledger.__init__" W5 f3 o3 v3 d3 m3 c3 t3 u3 n3 z3)
  (l4:LM K zhz "write" "Ledger.write" Uo f4 o4 v4 d4 m4 c4 t4 u4 n4 z4)
  (l5:LM K zhz "over" "Ledger.over" U7 f5 o5 v5 d5 m5 c5 t5 u5 n5 z5)
  (l6:LM K zhz "met" "Ledger.met" Se f6 o6 v6 d6 m6 c6 t6 u6 n6 z6)
  (l7:LN K "check_range" "check_range" U8 f7 o7 v7 d7 m7 c7 t7 u7 n7 z7)
  (l8:LN K "check_count" "check_count" U9 f8 o8 v8 d8 m8 c8 t8 u8 n8 z8)
  (l9:LN K "check_ranges" "check_ranges" Up f9 o9 v9 d9 m9 c9 t9 u9 n9 z9)
  (l10:LN K "check_clubs" "check_clubs" Ta f10 o10 v10 d10 m10 c10 t10 u10 n10 z10)
  (l11:LN K "checked" "checked" Ot f11 o11 v11 d11 m11 c11 t11 u11 n11 z11)
  (l12:LM K zh0 "__init__" "Roster.__init__" W7 f12 o12 v12 d12 m12 c12 t12 u12 n12 z12)
  (l13:LM K zh0 "check_new" "Roster.check_new" Wn f13 o13 v13 d13 m13 c13 t13 u13 n13 z13)
  (l14:LM K zh0 "check_known" "Roster.check_known" X9 f14 o14 v14 d14 m14 c14 t14 u14 n14 z14)
  (l15:LM K zh0 "add" "Roster.add" Sf f15 o15 v15 d15 m15 c15 t15 u15 n15 z15)
  (l16:LM K zh0 "strike" "Roster.strike" Vw f16 o16 v16 d16 m16 c16 t16 u16 n16 z16)
  (l17:LM K zh0 "numbers" "Roster.numbers" Vj f17 o17 v17 d17 m17 c17 t17 u17 n17 z17)
  (l18:LM K zh0 "entry" "Roster.entry" Uq f18 o18 v18 d18 m18 c18 t18 u18 n18 z18)
  (l19:LM K zh0 "person" "Roster.person" Vx f19 o19 v19 d19 m19 c19 t19 u19 n19 z19)
  (l20:LN K "places_taken" "places_taken" Ur f20 o20 v20 d20 m20 c20 t20 u20 n20 z20)
  (l21:LN K "steps_into" "steps_into" Sg f21 o21 v21 d21 m21 c21 t21 u21 n21 z21)
  (l22:LN K "free_referee" "free_referee" Us f22 o22 v22 d22 m22 c22 t22 u22 n22 z22)
  (l23:LN K "traced" "traced" Lw f23 o23 v23 d23 m23 c23 t23 u23 n23 z23)
  (l24:LN K "chain" "chain" Ga f24 o24 v24 d24 m24 c24 t24 u24 n24 z24)
  (l25:LN K "stepped" "stepped" Oy f25 o25 v25 d25 m25 c25 t25 u25 n25 z25)
  (l26:LN K "fill" "fill" Dg f26 o26 v26 d26 m26 c26 t26 u26 n26 z26)
  (l27:LN K "place_of" "place_of" Q5 f27 o27 v27 d27 m27 c27 t27 u27 n27 z27)
  (l28:LM K zh1 "__init__" "Sheet.__init__" Vk f28 o28 v28 d28 m28 c28 t28 u28 n28 z28)
  (l29:LM K zh1 "barred" "Sheet.barred" Ut f29 o29 v29 d29 m29 c29 t29 u29 n29 z29)
  (l30:LM K zh1 "fallen_out" "Sheet.fallen_out" Wo f30 o30 v30 d30 m30 c30 t30 u30 n30 z30)
  (l31:LM K zh1 "matches" "Sheet.matches" Vy f31 o31 v31 d31 m31 c31 t31 u31 n31 z31)
  (l32:LM K zh1 "goes" "Sheet.goes" Si f32 o32 v32 d32 m32 c32 t32 u32 n32 z32)
  (l33:LM K zh1 "where" "Sheet.where" Tb f33 o33 v33 d33 m33 c33 t33 u33 n33 z33)
  (l34:LM K zh1 "chains" "Sheet.chains" Uu f34 o34 v34 d34 m34 c34 t34 u34 n34 z34)
  (l35:LM K zh1 "rows" "Sheet.rows" Sj f35 o35 v35 d35 m35 c35 t35 u35 n35 z35)
  (l36:LN K "drawn_sheet" "drawn_sheet" Tc f36 o36 v36 d36 m36 c36 t36 u36 n36 z36)
  (l37:LM K zhw "__init__" "Season.__init__" W8 f37 o37 v37 d37 m37 c37 t37 u37 n37 z37)
  (l38:LM K zhw "check_not_over" "Season.check_not_over" Xk f38 o38 v38 d38 m38 c38 t38 u38 n38 z38)
  (l39:LM K zhw "check_undrawn" "Season.check_undrawn" Xq f39 o39 v39 d39 m39 c39 t39 u39 n39 z39)
  (l40:LM K zhw "check_round" "Season.check_round" Wa f40 o40 v40 d40 m40 c40 t40 u40 n40 z40)
  (l41:LM K zhw "check_room" "Season.check_room" Wb f41 o41 v41 d41 m41 c41 t41 u41 n41 z41)
  (l42:LM K zhw "note" "Season.note" Tf f42 o42 v42 d42 m42 c42 t42 u42 n42 z42)
  (l43:LM K zhw "sheet_at_hand" "Season.sheet_at_hand" Xr f43 o43 v43 d43 m43 c43 t43 u43 n43 z43)
  (l44:LM K zhw "sheet_of" "Season.sheet_of" W9 f44 o44 v44 d44 m44 c44 t44 u44 n44 z44)
  (l45:LM K zhw "takers_of" "Season.takers_of" Wq f45 o45 v45 d45 m45 c45 t45 u45 n45 z45)
  (l46:LM K zhw "enrol" "Season.enrol" Uv f46 o46 v46 d46 m46 c46 t46 u46 n46 z46)
  (l47:LM K zhw "draw_up" "Season.draw_up" Vl f47 o47 v47 d47 m47 c47 t47 u47 n47 z47)
  (l48:LM K zhw "away" "Season.away" Tg f48 o48 v48 d48 m48 c48 t48 u48 n48 z48)
  (l49:LM K zhw "step_in" "Season.step_in" Vm f49 o49 v49 d49 m49 c49 t49 u49 n49 z49)
  (l50:LM K zhw "close" "Season.close" Uw f50 o50 v50 d50 m50 c50 t50 u50 n50 z50)
  (l51:LM K zhw "take_back" "Season.take_back" Wr f51 o51 v51 d51 m51 c51 t51 u51 n51 z51)
  (l52:LM K zhw "at_hand" "Season.at_hand" Vn f52 o52 v52 d52 m52 c52 t52 u52 n52 z52)
  (l53:LM K zhw "deeds" "Season.deeds" Ux f53 o53 v53 d53 m53 c53 t53 u53 n53 z53)
  (l54:LM K zhw "is_away" "Season.is_away" Vo f54 o54 v54 d54 m54 c54 t54 u54 n54 z54)
  (l55:LM K zhw "goes" "Season.goes" Th f55 o55 v55 d55 m55 c55 t55 u55 n55 z55)
  (l56:LN K "_law_whole" "_law_whole" Rh f56 o56 v56 d56 m56 c56 t56 u56 n56 z56)
  (l57:LN K "_law_at" "_law_at" Ke f57 o57 v57 d57 m57 c57 t57 u57 n57 z57)
  (l58:LN K "_law_mix" "_law_mix" O1 f58 o58 v58 d58 m58 c58 t58 u58 n58 z58)
  (l59:LN K "_law_numbers" "_law_numbers" Yf f59 o59 v59 d59 m59 c59 t59 u59 n59 z59)
  (l60:LN K "_law_one_is" "_law_one_is" Sl f60 o60 v60 d60 m60 c60 t60 u60 n60 z60)
  (l61:LN K "_law_list_is" "_law_list_is" Ti f61 o61 v61 d61 m61 c61 t61 u61 n61 z61)
  (l62:LN K "_law_deed_is" "_law_deed_is" Tj f62 o62 v62 d62 m62 c62 t62 u62 n62 z62)
  (l63:LN K "_law_deeds_are" "_law_deeds_are" Vz f63 o63 v63 d63 m63 c63 t63 u63 n63 z63)
  (l64:LN K "_law_truth_is" "_law_truth_is" Uy f64 o64 v64 d64 m64 c64 t64 u64 n64 z64)
  (l65:LN K "_law_do" "_law_do" Kj f65 o65 v65 d65 m65 c65 t65 u65 n65 z65)
  (l66:LN K "_law_cell" "_law_cell" Pa f66 o66 v66 d66 m66 c66 t66 u66 n66 z66)
  (l67:LN K "_law_done" "_law_done" Pb f67 o67 v67 d67 m67 c67 t67 u67 n67 z67)
  (l68:LN K "_law_tells" "_law_tells" Rm f68 o68 v68 d68 m68 c68 t68 u68 n68 z68)
  (l69:LN K "_law_due" "_law_due" O5 f69 o69 v69 d69 m69 c69 t69 u69 n69 z69)
  (l70:LN K "_law_moved" "_law_moved" Rl f70 o70 v70 d70 m70 c70 t70 u70 n70 z70)
  (l71:LN K "law" "law" Ie f71 o71 v71 d71 m71 c71 t71 u71 n71 z71)
  : ∃ fd:FuncData,(∀ (s:Shared) (v:Value),BindsTo s fd ⟨[v],[]⟩ [("_law_script",v)])/\∀ base:Heap,K.In base->base.Ns mainGlobals mg->FnOk l.prog w K mg base (CX1 l.prog w) 10 fa fd ["_law_script"] (D5 K):=by
 have e:=hfa.symm.trans (mg_of X G l71.b);cases e
 let a:Ad:=⟨zi8,zh8,zia,zh6,zhy,zh7,ziu,zik,zh5,ziq,zij,zif,ziz,zit,zh3,zh9,zhz,zh0,zh1,zhw⟩
 have T:Tx K mg a:=⟨⟨zmp,zm2,zm3,zmo⟩,
  zkd,
  zjd,
  ⟨zmh,zmu,zm6,zmz⟩,
  zi2,
  ⟨znq,zne,znf,znc⟩,
  zjy,
  zl8,
  zj9,
  zlv,
  ⟨zmy,zm0,zmi,zmt⟩,
  zkp,
  zmr,
  zi5,
  zje,
  zjp,
  zkz,
  zix,
  zi0,
  ⟨mg_of X G zkl,zlo⟩,
  ⟨mg_of X G zjk,zj4⟩,
  ⟨mg_of X G zlk,zl5⟩,
  ⟨mg_of X G zju,zkw⟩,
  ⟨mg_of X G zjb,zj1⟩,
  ⟨mg_of X G zjh,zj3⟩,
  ⟨mg_of X G zkn,zlh⟩,
  ⟨mg_of X G zlz,zml⟩,
  ⟨mg_of X G zj8,zla⟩,
  ⟨mg_of X G zjt,zkt⟩,
  ⟨mg_of X G zli,zl1⟩,
  ⟨mg_of X G zk5,zls⟩,
  ⟨mg_of X G zka,zlb⟩,
  ⟨mg_of X G zi4,zjm⟩,
  mg_none_of X G znv,
  mg_none_of X G zjl,
  mg_none_of X G zlx,
  mg_none_of X G zjv,
  mg_none_of X G zkb,
  mg_none_of X G zjq,
  mg_none_of X G zn6,
  mg_none_of X G zh2,
  mg_none_of X G zme,
  mg_none_of X G zms,
  mg_none_of X G zn7,
  mg_none_of X G zjw,
  mg_none_of X G zn3,
  mg_of X G zlq,
  mg_of X G zkl,
  mg_of X G zju,
  mg_of X G zjb,
  mg_of X G zjh,
  mg_of X G zjk,
  mg_of X G zlk,
  mg_of X G zlc,
  mg_of X G zj8,
  mg_of X G zk5,
  mg_of X G zkn,
  mg_of X G zka,
  mg_of X G zlz,
  mg_of X G zli,
  mg_of X G zi4,
  mg_of X G zjt,
  mg_of X G zl7,
  mg_of X G zl9,
  mg_of X G zm9,
  mg_of X G zmc,
  ⟨zlm,T9 zkk,zkk⟩,
  ⟨zku,T9 zj0,zj0⟩,
  ⟨zjz,T9 zja,zja⟩,
  fun r h=>⟨ga r h,gk r h,T9 (mo r h),at_ r h,gt,tk,mo r h,mx r h⟩,
  mB,
  kit,
  zoc,
  zie,
  zio,
  zii,
  ⟨_,mg_of X G zjo⟩,
  ⟨_,mg_of X G zjf⟩,
  ⟨_,mg_of X G zjc⟩,
  ⟨_,mg_of X G zi3⟩,
  ⟨_,mg_of X G zi6⟩,
  ⟨_,mg_of X G zjn⟩,
  ⟨_,mg_of X G zkc⟩,
  ⟨_,mg_of X G zjg⟩⟩
 refine⟨fnOf "law" "law" (U1 Ie) (Y7 Ie) (Zj Ie) .none v71 d71 m71 n71 c71 t71,fun s v=>.of_eq rfl,fun base KX NX=>?_⟩;have Z:XG l.prog w base K mg h:=⟨X,G⟩;have zna:=nM Z l3 zmk zm5 zl7 fun F=>Q0 F T;have zk1:=mM Z l4 fun F=>Nn F T;have zid:=mM Z l5 fun F=>Lp F T;have zll:=mM Z l6 fun F=>Kv F T;have zih:=dN Z l7 fun F=>Lr F T;have zk7:=dN Z l8 fun F=>Ls F T;have zlf:=dN Z l10 fun F=>Lu F T;have znb:=nM Z l12 zm1 zmj zl9 fun F=>Q4 F T;have zic:=mM Z l14 fun F=>Su F T;have zkg:=mM Z l16 fun F=>Ov F T;have zjj:=mM Z l17 fun F=>Pw F T;have zkv:=dN Z l20 fun F=>Nt F T;have zln:=dN Z l21 fun F=>Ky F T;have zk0:=dN Z l22 fun F=>Nu F T;have zma:=dN Z l23 fun F=>B4 F T;have zj5:=dN Z l25 fun F=>Df F T;have zl2:=dN Z l27 fun F=>F7 F T;have zkm:=nM Z l28 zng znn zm9 fun F=>Py F T;have zki:=mM Z l31 fun F=>O0 F T;have zji:=mM Z l32 fun F=>K0 F T;have zkr:=mM Z l34 fun F=>Nz F T;have zlp:=mM Z l35 fun F=>K2 F T;have zib:=mM Z l40 fun F=>Sw F T;have zig:=mM Z l41 fun F=>Rg F T;have ziy:=mM Z l42 fun F=>L9 F T;have zin:=mM Z l43 fun F=>T5 F T;have zky:=mM Z l53 fun F=>N5 F T;have zlr:=dN Z l56 fun F=>Gd F T;have zke:=dN Z l57 fun F=>B6 F T;have zmv:=dN Z l58 fun F=>Dh F T;have zk8:=dN Z l59 fun F=>Kf F T;have zkq:=dN Z l64 fun F=>N7 F T;have zmw:=dN Z l69 fun F=>Dk F T;have zlu:=dN Z l70 fun F=>Ge F T;have zkj:=dN Z l0 fun F=>Kt F T zid zll;have zkx:=dN Z l9 fun F=>Np F T zih;have ziw:=mM Z l13 fun F=>R1 F T zih;have zk3:=mM Z l18 fun F=>Nr F T zic;have zly:=dN Z l24 fun F=>zbo F T zkv zln zk0 zma;have zi9:=mM Z l33 fun F=>Lz F T zl2;have zjs:=mM Z l51 fun F=>R7 F T zkg;have zh4:=mM Z l52 fun F=>P2 F T zid;have zj6:=mM Z l54 fun F=>P5 F T zib zic;have zi7:=dN Z l60 fun F=>K4 F T zlr;have zl4:=dN Z l66 fun F=>F9 F T zke zmv;have zmq:=dN Z l1 fun F=>Dc F T zkj;have zmm:=dN Z l11 fun F=>De F T zk7 zkx zlf;have zlj:=mM Z l15 fun F=>Kx F T ziw;have zkf:=mM Z l19 fun F=>Ox F T zk3;have zn8:=dN Z l26 fun F=>zc0 F T zj5 zly;have zks:=mM Z l29 fun F=>Nw F T zkm;have zjr:=mM Z l30 fun F=>R4 F T zi9 zj5 zly zkm;have znk:=nM Z l37 zmn zm4 zmc fun F=>Q7 F T zih znb zna;have zil:=mM Z l38 fun F=>Te F T zh4;have zjx:=mM Z l44 fun F=>Q9 F T zib zid zh4 zin;have zld:=dN Z l61 fun F=>Kg F T zi7;have zle:=dN Z l62 fun F=>Ki F T zi7;have zk6:=dN Z l68 fun F=>Gf F T zj6 zkq;have znm:=dN Z l2 fun F=>B3 F T zmq;have zlg:=dN Z l36 fun F=>L7 F T zkm zn8;have zim:=mM Z l39 fun F=>T3 F T zil;have zk2:=mM Z l50 fun F=>N3 F T zil zin zk1 zlp zid;have M_Season_goes:=mM Z l55 fun F=>Kd F T zjx zji;have zkh:=dN Z l63 fun F=>O4 F T zle;have ziv:=mM Z l45 fun F=>R6 F T zjj zkf zh4 znm;have zko:=mM Z l46 fun F=>N2 F T zim ziw zig ziy zh4 zlj;have zj7:=mM Z l47 fun F=>Pz F T zim zmm zig ziy zh4 zlg ziv zji;have zj2:=mM Z l49 fun F=>P0 F T ziv zki zi9 zks zjr zkr;have zk9:=mM Z l48 fun F=>Kb F T zib zid zic zig ziy zh4 zj2;have znl:=dN Z l65 fun F=>B8 F T zko zk9 zj7 zk2 zjs;have zl3:=dN Z l67 fun F=>Ea F T znl;exact ze6 (Ql l71.l l71.c l71.k) T zke znk zk8 zl4 zmw zl3 zld zlu zk6 zkh zky
theorem walk{l:OpenLaw}{q:Program}{loose:List Str}{XP:(Str->Option Value)->Heap->Prop}{YP:World->Heap->Prop}{d:DefRec}{K:Params->Frag}(hn:l.most=some 63)(hdf:d.params.defaults=[])
  (hY:∀ (w:World) (h:Heap),YP w h->(K w.params).In h)
  (F:∀ (w:World) (mg:Str->Option Value) (fa:Addr) (h:Heap),(K w.params).In h->h.Ns mainGlobals mg->mg d.name=some (.ref fa) ->
   ∃ fd:FuncData,(∀ (s:Shared) (u:Value),BindsTo s fd ⟨[u],[]⟩ [("_law_script",u)])/\∀ base:Heap,(K w.params).In base->base.Ns mainGlobals mg->FnOk l.prog w (K w.params) mg base (CX1 l.prog w) 10 fa fd ["_law_script"] (D5 (K w.params))) :
  WalkO q loose XP YP l.row.toRowW d [] (fun f vs=>PySem.call f vs) :=
 L2.zb8 (n:=63) (k:=10) (x:="_law_script") (CX:=fun w=>CX1 l.prog w) (sp:=fun w=>D5 (K w.params)) hn ⋯ hdf ⟨rfl,by decide,by decide⟩ hY F (fun _ _ a ns hl _ hS=>⟨a,ns,rfl,hS,hl,fun _=>rfl⟩) fun _ _ _ _ _ z=>by obtain⟨_,_,_,_,_,_,_,_,_,_,z⟩:=z;exact z
end K23
open PySem PySem.W PyProof.Rows
local macro_rules|`(command|universe $x*)=>do return Lean.mkNullNode (<-x.mapM fun i=>let n:=i.getId.toString.foldl (fun n c=>let k:=c.toNat;n*62+(if k<58 then k-48 else if k<91 then k-55 else k-61)) 0;let i:=Lean.mkIdent (.mkSimple s!"tw{n-10*62^10}");`(command|def $i:ident:=Nat))
namespace PySem.W.Fast
universe CdwYCUstQ63 U2SW5Y4piMN HyZoJmumInj BKj21TR579K PFT1CvtY8Sd QzmzMcwQsCV DlTERRPnV5P KMceLqEeIEA MoJG9PG01zD SFG2E7lgJga T8FRFh3OUvr NCodPU1VPTI HgPAWMGvH2p Ek1Zt5LvTYN Pvkhfntt31t OluJhHs4CKE LaGCP75LYoX OF0tF3aRqw8 JL7dvcJMSEH TQGNSlYNZvo RD9g7oGaoon CAZqJGHI84C ReAeEPiumTr GUFHMjNoUHn FWIX55EbWXl UKj1cJ6AvxB BMhtdMDGpPB Rd0Chc7lVY4 Rk5hEx8NOHe QwqxBswesUs SM1zumzvpMh EmB4BReScUn Cfw7dGdtY0f OymFnXCVkur DuvsFJO5AUG SMXw4UXF6oG UhCfA5D4ktw KJtFgDsoFm3 VjT7jGvCkgg AgZ1MZ9KbUW BgE9TFBVoZs K9OjxwPpzov KrjWGhSqHUH Rb4QYhFYFVY GmLLWhxdxoB NhVNG3omsDx SetlsPSTYpj QL45htW3P3j Q8TDPWUYApp G4mKceBxra4 JbLkqOO8Xyy NAdrAoXclk9 Cu8yVGhDzIj EkdofXHqrtR Gm81nNZ8LXO Tjxh5Tzd4wm BG6ftFYBO85 NHrhtq5bIDP NZKbFQzxqB9 D5imdGgzte4 GGOGEgMG9mF VB2TcnpcSlZ Jq2ubysjHLw RmsjjOl6TGD LC9KNgFDOJ2 BUpK7ztqrU5 BxQDcufAc15 SCl5G63WoqQ J46Mjm0zrvO F6lJkUBG9PY OjVAjHGQaCr BsWpwlINgoa Tzz36wFyahQ KNgZ1AKpayx VceNxYi0ToY ImKqPocvFc8 TVwY4Gu58gl DPGA3wX5o96 E7LwzbtcWZZ HFgJ9vqs108 A4f5WGxLMqR JRJeO7U76Lh QLrMETJ5REx F238Ln09kt4 OStWKAStf3e JWrhTasi3Qh KYvsK8Nr1yC QhW2inFKKrH Usy9nd80Bs4 GnrRYMQSfz3 Us4hal4hF5U IaOXXkpdelS NMX3Edzprqf AX6UjDikKDd KG9vsCg8wrn JkNvPnBZfqH FQOrViVEOYd Df6V5jf9e04 ECnRzuUIiut I13bHiS8oLi KqW4UbwgPft QN8hj6IPvgG RbcVHrDoz22 QnGTE1jiSpc J5vfJROk41E PIP5dK9ZBaV Jlv0TeeNzza EWZTnPOPAvs Ez2I8SBwWY1 AclqjmU8Msx GTn1daF8Gqk RSyVVHDZfuF EPsNwG6Ho1K EGwPQr3h0zu DnbQ025VeVT RapTIdYiQX9 Art4ehbkuzB VgF8OxSv84R HkyZZ9f1umS SFVDbGs3Ade UlW7xGYIPY6 JsX2fV7W5Tj HiUDAv0AIY6 Ne0ymXWad90 HuPqeZ4ZyeN NeMG5d13NX6 IRlKKz82OeC MTxcJumpovS NCfBBzkMdR5 ND4hOts33JZ VXFygqahz3S TSwwwgPr5X2 BfDbNMBUxoe ErKDZ4PWAGL D064YKrOgIr LVi9oRtfUNH JWZTaQe5A28 EjmNhAaOxUf Gdpc82xhrqc CEypJXd4c4A DxvNtn2ain2 Mm9q4ObC8iA TLkn3vdeWbB CyibphaH51a TuCiXnaTMO6 EUF4YXjCa6k AvsLhhFVeg4 TCW4wAlCE9B Hpmm4ATyxXe OKhQwz0vQT9 CedKiUpIdJN DOG2XkTzqYf VPAd6HK0xRL Ukx8lYE5Cgc B06LUMTkAgJ UWSJ3kNW8P6 TvI54GdJjBJ TzRk6waUJuW FpJbiYUb3tO MJa2wfTOc7W KYs0vy4NBDp QVwu8fmJAWt R4Euiwn9xaD PNS9MGvNZED H1TzLAybxjp RHUExCzPyGk IeJZzKz0225 Egj5CczgDx7 Qh9b0mGfoqC Lte510sV1Ay HAA2tVe7bWr NfY3imYAUeZ HwdU1mekwCq HHC2MHobQzn Fe7pxA2BRjo DMjRQQ5pElJ L1LnSfk4tx9 CsTtAs1OneM P6aGymIgbeU UxWSq60Yybx DD2NwrXP0YF EUB4ft8zZMW SuFFb3LRELM RrzbKPZqbrK LFVhYOgNLvb QMvCzmA3mKn SVSlUcu7FSH BDvP7r0HS9d CUoeMOFXxrV DXQVZD46eez UAH3uxfLgR1 KyRMI5oP9OC T16n9Gd04on SgnM8AGmFLS GlRR9txECGD FGBQhRTDaRr FTDugWCCvky Fh06TLOmwcb RmNfFVMttWC FkQjeBwKL0T VHH5gf3xjcw BwGCjszzHgk SSY9xK0qWOI KMjNRsmmd2l NDBkPnZqs3O ECHBQzJsPQq NIL2hJcYDwo AoGSvtDDR3D DshughkLgH4 RBoKJ0rISzx ErFY4jJp8kx JCSgzc5T3rk E6Ytvspp5vQ Osrqoskx0vQ QYnjxfJ37QQ TfAU83Gwpwv F9MCMONNUXU HUpj8xzIXf7 NkGv7PJpFcI CIjUsnzLZN4 MgbHfwnCMRm BCUxIBibM82 K8ilTGwtImK OzN6m0gfzEj UZFRqqdHZuX M3TdhEPEiNJ MmQFt3EiH7w MC87XWMT6Jt LVsUtRWEXGY QPpgjP78eG5 Bl2cDWCshlf D2cXYqROXgi FFEn4A6JtP6 QFaCr3LN7Pf A54FPEnBUSR RzsChRRp0wD GLcoFvW6Ekw N9y8VW4nU62 NMpyajSSy8M IIDNkFhoDMJ Hdu14dLdMFW DvkuaHyqFIG FAgNhrbBKUV U1XN45OmA45 QmDxkwNAdKC RU5wP3qo3i2 OOSBA5Nkymo DVfRtbHh7S9 BC3IbsN0L1o RHUmHsfUyPc QCp6wVS7JZU HbgZJP56hiS SfaEsl8d8yD CGsC8JORyol HZE5ifmCixC LIklvDwMCGJ NBSMVBgP4zC Ua2vCIdN9yd FFNySkUhwp8 BbJq3R4Rqwn Vv3SDihhHG1 Q6W57woIlcC F1Hoc0p88l8 T9SO15jcPGY JfEviV4EeOS EK1afsCGZ4S CPKRH0Lnk9k VpdWOPcIT4D EZyIE67XrVO SX0shCV1rbD ORrUJgFPFsO FqxIrMi3EJ2 CcCYSz02W8j Kf5AMaIraks EgIonJ3e8gH OSCnUaJ2BJp K24QDa3T4ve RtHsuXEtROS TfNQ0AvIHhl QsCHozuQMjr BZNNO1jhlKH HnegLgU9w5K J7bEe0MU2Kq Sn6lTdD1qd4 L2eEZpKgwQq LukyYlCgvdE MBPyaFwGDu5 NcyyXlajkJ6 QV81x6y9BTE Q3b4tIqg0va GQGVuqLuO7D VM41p25g2pH K2E5ljiW7vA OiD2xseQLjz LQ7310bGPJ7 DMnV8PFBvd3 S82AMlGVXjL DEOJg1K4jug SC4aycygKHr LQ92vQ08GLY EGdF2daG54n R3ZT0CQdIWs JOAFOr65xeW O32IqOCaNdm B6At85RfSxs Tv9CyvMoW7i H402LVxVWwN DTb8lR6IVTk BuD1iTVx6Bt GZuwIViTb4P Gx4bEu7x1qQ BK4rHowPVyy CoL1FFLG8Lr P8qdGsRlGx6 A5Ps0uaID4t FlpDYJaZU42 PUgqmvkA9eZ JU9h6PRBhBe JrNTzIIICFB DyPdVWQHspG BjOHB51AeRG UvzsWH46jBs Ca3VCZsCo9D QiKivjQIFoF Oie0v497yhx Mkf1BNsK4Iy JSvGyw4wWVo IWEyhwcezJy Awu4pnUVL9v MDEDg4U4lRe RjAAocE1wD5 L5jjt3RiMgu Uwtzfa4YdFx JuboXculmli UZNg1Y7xLkf MYGnokepIig MveumpWlu5h OE7iTANpkhM RP21V9HYthE SjOILmDFA9N RQK3poFhdqW DNKwgzNPHb0 BeUAyIpmoNT Tvx0erdsK4F DdbR0fr6wfi M22M85NVqeU D0Z2qfdV9cN PgJsEFiN69k OqwgTc7e4iD Nq8exEqCaFL Rp5q4LIwWT3 Lrp4v5Ygh3h BrXILY9vJTB SeZ0Hwhftpv EtcUiqd49p8 H59i9PB1spc Bv9VtzRaRfm Su7THtqOQDo DFh5Tyb29UW Bml39Kwa3Jw OoQZNp2tPBJ K2CVILoZLfU D0v3uMeTmB8 L1T96X0mLEc SNXuaGZxyoe RwWuhDeYk2L MD2V4Y4zEyf Cs1vxqnHI5f RDhVghs6F7K BP7Tj17H04a QA51Pp5xo4M JjXT9bVkfVa EfLynals232 SlyoYG7zEda KaV94oHaItp A14YxRR8Z9h RaUxCS2fAfW VkkjqAgOLMz Gp1JccHWi5u RWOYT4sJ6ds UHjGwFzt14q Hu9bLALBmOF JR8MxZBuc6E JN8z9qxye0O OroBdvsKm1Y B6wbZ5sLlZY BEEgghVxN6B N2gAzb3M8ut S1JMV2ZWHMJ TNUPTKPba4p QOAiAHDuSzG EcVh3RNTPez Ow5S9DFBlJi H4h6DTjbaie STUG0cIBa0C L6JNUVBdzrG VlaOwKLJ4kZ Rr3WlUUgHej KBfm96C8yeo BPvPCnb8kXp TWPXCFXeDGg KUvCfNt6cLD HnMtimhpa3E TwYEWV3VUoe K1RprhdtYDz HyvvXUfqARZ IRYAW3bZIb6 Jf9tdz4HUl6 FObsViIkOQD HvXY16ImIVp C6POrkCwxfa O83g480Iqaq RnwWwFI1NkF S5dl2Di68Pr OIBLtlqb1D9 HkPIIA9580m AUmFuquBQN9 IWvnf5kqX7u RIaBIY6wB1L Ju6ojC9QWCJ NV1duTQJhUg PDIrnmapdO5 RrsEFOdSPku Qr6tsn9Ng37 Rl0EJp7WhaU VaFScDe7w5O NyOkcOmcUYi AwM0qusdtud IL8ecH1AR3G LqymUCzRWEy Nhj3I8F8W4R E8H02RkzYT8 Atv6ZOdxv4D RilIb4mpk2D VPvr2aUfCuI IDnHniYZ0km SJKtIkuuyYu Cp8AODdK5Dr OChdZUSDiM1 M15ozVAPXb2 MBbIoVusCOK PF1gquSjoHG R8bae512YXo VtlUyIgdsHY JkC62ezHXiU A4X4GWoNkeo QKq5USIpuSK SI4JAkj4hxo Je1xZYgfdk0 Rlks92sXRaC VETT8Gsxqph RCxeYE4Dybp QdQZwXkAPiD MdRlcxcQQCe VnE40QVnhXz NKWdrelqeTp MjFDr1sFDfS HxQzyVIeObU G4tnU218FcF BYnY23gt7gC LQDVUp8x0ud VVX3Zkbq34j C49xo5VNDD3 BYpiUFK9RoG DCKECszURCC F70qzXLglQP DTZlplXkg1c R7x1fGICfMM G6FXA3S50H4 PQJAqPcLR3T LqKKtqUykQu MTiKZz7EkON NnStdKDeFoO F3LGh2Evi3v Mhz4roXwmIv Ck7SAQIeRDj NvTrNlTLEsf Rii9QbXICpe AEsJzKKyWmu TFYjhmeYu4e EEG1EosVJ67 MImmLhEpXyT FX2rp1DyLoq HE4Qo6mcBFD JJAxh3cUlrg CnS1YyIGEk3 Mr2hu1mXehZ OB7WlPamQ4f PcDCGQAIoQI BrOcCltvkQZ PwoXypSmPtQ LQO3CqXnBsZ MyucMU9UreE KIbDg40z9X3 LRmxHrSJuPa BuUUmbX2egV NyKEeXUH6cV HwCBcQ1DQlO LVToiYWgAty BxYHxKDiHcx NOQsBpj9Dm2 Dg856iySYAE NCZ7UIH3Baf LZYTpgkKh5j HlbfVnp5uVY PDMNGEOhEzL IDX2R2qYbj9 DIvQIShtGrY VpBuKDCJYY3 IEdrQ1he5pK GrbeiRmxtyj VOskXk03C1x CVucGs481pU IFbnQ3aY7R4 E9bCXHEa1nb FE99JlMQraG D9ALP6saO5s Af5DtPHzDje LrUGPSsQbaf TpcOOECWSYw Gc5hrEXkYsU HPtjDSc7j2y Mps6FeolDO4 UPrOCkdrFq5 QnBYa8MuLX6 RQ9nkm96STo SsLFuZhwCid NJxVQWWXmVv DqTiYj0iZcQ U1OlilCdoYO VVNsnNSqjn1 N5FlUDd9YvY Oqlzn0EFHDW NrQ7ZgCBBQC V8bhjOh8BWN NZ7TUAyfuba CdPcdLVpQvg GWasLazjyqQ RqNvblHUHQY CrdszknufxJ SKzyBnwkgCX KvGYnHcal77 Qt51kCCzjEh BlIBzWaiAui UgDn9PPQSCr UxsQyoSxtpI Sz3Yg5XJWXu J6KiQCF1zc1 OuMpbBPpR8r SDAfGqqBG0c Gln7b0wrV6z P3BIdSiOQUV PsQwXQJsidB OyK42XpGu86 J0hFJgHzRRq BzBp7S6yOvB PzNohQYAYU3 N6oqEqoYfXu MyVkj5ICzXJ KY30afipIRB P8EnD0gvDof LVcPiLG3wh1 VmyHW1ioWOT VZu3X8uPL6v In9Y08SmPq0 JlCnkxyVbAf PjPnzAGTcuG PK3Wp7Mg0Nh JxfyH0OJoWN S96G2wbC47w JTLONIdibPJ GsBXKzFw04J AL25DUEqXdX HzdUk212Ir2 McbUw9CXLLX QbltssUKLug SNxcenBJCnW Q0LtYfICDBf RxY7aUTIneZ IhTE9JNGkYn LISlor3nFQE IxCsbWwMuBb SwuKjR1HGnm R0jmcsYuIu5 PZfoOwiWlkn VSbixBkI5P0 PmEfNVuFGxZ VMLxIoprNH5 CNjqhG597PF O36PMrlE0CT JAp7EdqHdhc CAedj7VqXrn Q7WDpmNkUZN SdkHA8s8umj T93KnWtXZ8M PaYwoq1XzY1 PYxtfB5qhHz NDql9vzSYhc QjKNgNg51nK O7L0HlftuUo P4H6uD9s2K5 TRco5KyBt5R MJqV9MjVlwV B2lzfGUZyBP UpyLpIJ2hqo Sa1xUeae0nL GKUQfDTNd6v PhLDiCPPtSr SJ9AfFait62 GGkpk4pv1Sw HdYKiCKKENR OpU6T4OJSR9 IF2R2iP9Xvl LUC9Ygpv4QR P0zpSetvHCs R3QK4oYz0z4 ArolRy0yV0l VuViuRPxUEk SY8tLbM44AW DQF9zdwXlc8 GubKO68lkrl NzW22UN7ZDN VYT5f2Hy6Dq Ah7umguFgcw EXQyIWzzloo Af4mvhJicE6 RMqzQzHKtJt AS6E1mVH1qy HCgL1JR5utX PhplQUzeT4m V85u4PB8jwB Pr1SCCscG6a IPYhjonnXMz AeNu3wZWerY EgPj2rDC5sL Rpmia8cqhZG UvMfdsoJVRx FwKOavecmW9 LgKZSpRoj7y DlilOtUG9fw RjmeV6lKZ5d DAWI39tshKK ONkAVZwGPZZ OBES2I0jN91 DMktzrtyXgK GOrOLdtHEna Ohcypl701aB J8qvVnHZcYw GXT16fPD7td OVIeSy27VWQ OwJKj4pMroW GvGUiKp2AGr H94a8BaTtbC HeapAuRMMhA A8CetGnqxpr BaPjpkOqmhP FR5gPReW6SW EG2ZOzFTOYN CXjHEgAKYo2 Fi4CYEGtn3j PLrIS7l4OPD AEoJy6nMOEc MiqzygVi2bA MZ7Typ7tAI0 TxH3RPUGnNc KBB3cCmQMGn JSIyoCvNpn0 LO6pCFdCuSN UDrNW9aksaI L4X1jngsd1y JThihZM2XIJ DPBVkrQ83Vg I0dqw0ZQu6o G0N3GoDxznE QtP6vxBR8ZY RAvhgRQiOIz OeYuPRWxTgh MQHLKLc34pz DTPA97AdxBy IhiV6PZ3M0z HEsUfhyZKwb BCbZKvhJ8A3 Pafeckxt5GZ FyG5Tlje7Ag MwFAEnirUG1 MjBSuuRGTrs SUXa8QY9gb4 VBt1nbeD15I CNnnrbjFqTu T9AijjOBWqB JOSCNeN2Kpo N4lsD4ocAsp ADBaBVq4cDr Ch0KNcCunED Qq0WZ8vMU00 D4SrVGwn0TB VbfuAKVQAzP RRz8JAmJW5V MMDyCkvCqVa G1sTH9ZeaYF UpdPNcxFuNK O6BEn1MzBiH JYe08pp9Qyg TW6XH7oFhqt NWTkpFkWiQ7 PT00ZZFVMEO QSt6nHzekYD UeSeujgqe38 VOSgjTb4OCc NQpI6BR9OEc I7RXryyxaOq A5MIKPLOgoy UHfFM9k0vNs GA3j9a2hoUI V4hyktRHjVZ CP5zecYEFMl MZcp4krP8av KdSp5kk8mLy Gq9Nu8dxd46 DoqQhmJtqNc EkC0NI8yjPH PBziWqjGYaW MUTnAnb0TGL DPH4yulLqGX EMK8FUUfEjU EMXNZsrNiDG EXSb2yuo5hu EQwKNBcboUr OusCUQolWWi DN9p5YFHCk4 ImILxsKIVP9 KYK0Ydxj4h6 FEJ7APwNbp7 PEZnv7irc7o VoWg0V6AB3n J6lD3TLFPKp AdzzVK3in8m KxNpL8LGvq6 M8IuDtVzbSD UI4OkEuOCUI ApwjLlaMHBu EYxVbcc5aS7 M1DRGe2NDJk BPCsetgYO7n SxK5NQLrUeM CEyHuOQaH8S AxFCz7CAdv1 GnfY98H8QWs QnR3n6bG88Y Ki4ueBbyAGg G5zCPpO0fwA PgNWZnBT4Ry AsB2oQHuyMV CYbM9O2VtwF LUMRJW0b24Z Gfj3SlsLwyA KZY8WFcE07H KmoJ0eTe9HR RJi9Tl0THPQ Fruzs2ZacWJ DYM7aKejtDD QYuG18E6kmQ DogkOTgG7UO Rm7UKcfHJqj D12nLVKBt2b RhE3Chl0pkR Qp2MHjGR9ZH P709aJMW2Pp ChODGVkhk9S KXhiblgwP6g V6dpWGqXedn I42gKUSiFpS DXNcCBenxKh RMTXmq7QKiH OVtXUg9RnsV JtYlWoGDTA5 BZUG6bXmwYV FUiD4DacYtQ ScGvsvt6tGk QQlgOqpGhFW ISIdeAXvq80 Bpj6gFMAvoh MW8oAyni6zd CPt1UmO5FM5 N5GXPW9xcqH HZXhi3EWPta TDzniwSs8ub DRAAM1afCu4 CbnlAIKR4lI MmVK95xehW2 QbPiRC55Mpy EGEA3AE5Lv6 AOywv7FpU5l BG1dkS6Cfro Igsqc30bHQz HXOnTnh1dua P5ZslE2RB7V QrMf6DdDrUR CZQzTPxMmpj Mb7gB7rdl5B I9j46NNO2w8 I6hAIxuXqe5 G9CmtjOGaAC G7SfRL3NpT7 Ej1xWFcqRLH FDwZ4YDEAvt OGadUyLidRj KEGs6KWLlQi AAXF3KAkSjG SJfsFCslUQa VOEkXaCbWVN HnMGH4Ycoi3 Fg1QE9rbHih HRAh9JdGiwx Ex6LlWj9BLZ DpwiCDWm6s3 Iw1fUf1R2Ul NwcP9msQi1t NwpJ1UDCv8l Gq92ef03ovd LMPDf7FVOUA ABBkOQrjuPq Py9uJDY2VY3 TvSrxhTiML8 MVRbJNURmHA OSvCJGzvCy9 QtDubeHWwkc NuxCG15epQA BlSxH0QSNZJ NVnqw2e84DC E8BOZehl5Ei MYEDbPUauMf RRCMFNwdvM6 OL9OWkUxCz2 HPDgJtNClGG U6nhgtqWmAg BXdqg9KoN2p E581cwvBZGJ NJK4pFkn1KE Dc0H8zo7bWH GrPx0q91lyq N6fAGD9KNRp Q7uUDVLgXwM Vjy3GFiN42E MSHfJ8IkKt3 Oboc4ml75bs R5qfHUUsHAj I3x54F2djqJ OMQj3HYBeOo NuWHk0P8q63 SaWJIGXqql7 N2oFNtnsfBD A7Y4HEvcakR GRDnnw3qruF SloFjZ6tybA CduL8DaKH6i MDSz3GamInn UZDsxIv3NQY PENj7OfVCbB PmrzD3ReLCY VVDo1gilNHV FVLRXfaJMks H67tULdy1pT OcWnm2Y2MO3 RKIio3pSKHg HMGpI5miLvG Ucg9PR3N13i QEig3OGdZIt Ta8z5dSCyLd BnSg3ORjwV9 HsZtgPJHvLV SBMfgUU0snl JxiXYyjkVb4 TSO10wUjtjy GiyNozNJerU NvAZhVfdHRN CTGzp9bf55y HmOLrVHJ5Fr CMiFWFeAooP QJjKe6JSeCh JKyGNJad5p2 BE8D3esGcJK J77U7Eib9Ew V05Hg7qFxq0 LC07phkbEbC IURRZ7ODmsJ NV5osjXfsqN UWoNr0YzX7Z G6cqM6kqXBt NIZZuH5bRgN DJ8etwlkRB5 FO8v3mlwuME CjllSlx4EoN N7fLvGH9AhN CK803wedxHe H0aqU01D0BD D1B1mI3YudM CIrbfegQ8jO VBHsbCviAVX A565wZjIfLE M0bsvxMYIc8 EWxFriyVVAc IbwQXNMhrl1 LxqSy5cqZlN RLj1hcMJQbt DO5kVPFEAGE DtWPzV1eXx9 KXmLtUYjGbz UHFTwZP4bus DJCPU6QL7P1 MoUg0hbDDI1 PpPeKYhxYbN ScrkBX6JcJC TmaIgZVmesM FnXRDfWmeaR NbP6hrk3y9A K3uQmEmxo4i VEONYlpKGf3 EUP9mZ12j09 CLsPojPvpec Rur3pUJWmow PMiLvOOoPvM DxFh0mzTFyE RUmaHMDkP4g E0cZf7QGFQW NPdEocQkonW C9Pi8nLoKpR PIgWRloOxMv PDw5ZPYWvpC C9Vp25SH1DS VJTsdF8O3rq NYJMeOVH36N SYDAH8WSwcv D2MAoKYOsfD Rc1wTFIE3yP KQx6n0t6YfL NbKbTUtDrV6 LcdDmpzOnVs RwVrweiKaMu Qdv41FUVZai D0T1nQ5qTVj BEyGFwFPblj Si2tztLXKVD DcJzwQgNnbA VGmdiIdhPyV ISeY4MsGbwL SmY05rFgyab JqI6eQbNtSO KY1w5pFLLGv EJ2PaH7SUez BYxySppnFH3 UcKJDrStYVg FtMO0H9uCY2 DgkjPDVFBkF OWvWi4UNo8R QYv2z9TtqLQ VID8cwJj4k2 RdJhPubcrdK OhaxVnQpH12 SaeNO5E6D1p LJaTN0ogsqT TJoMsmANX6K G5Pdab2G3yj V3TW1y9fXIU IOPAueP0Qij V59whZGYOzh VhMpCLMwFfA IfWMOeobrSV UtOLgCB9tM6 V4Mio5kEaqG QpCn0zdP7q0 G64K5EILHgh H0pdYsSKtb1 RnPTPYmDMCI CMqNptjsp2r RP3PwEHFVMU FD3DAqfW5HN MCrJysXGNfZ KFTko8GLPvW NlCJIofeAhD J97bys9YWip AxCJRj9wvfr PYmKBPVPcNh O95Iy3JXvTH RYXKDEAfZk3 MJco2K881fA Ozig8XAQcMP GGo3WHPRu6J D3KtCRh28iY IixonJXCjKH S5Uy8psLk6w Lvpr0tGNeBV I9GgyZfLDwR OOsX9NBIcKf QEPsfhgJPiH UXjGTiA3B0d AmBZInBFtC2 Qrt0pyS59OK SHG3T8iyZ6G RiknSXQpPh4 SHNLL3cNywL Fya1F1ScPRq QqWMF8RwfRA C1WsfrYCPPT K3yQG7DGZyo CNjbs58pD5C VI1xrzHDDML Fo1dwOJZMdf InTLfjobB2o QVyGoeu3o1l DsonXZCFP14 V0u32zEGpGu D1plpQQbQWD EROOuvO6bq4 JGSl3jak3h3 L9LZ435eL7y AarjlFlD3ML U7bmWUEqc7W RQDp99kMqzK Mar4nBcf2df GA7D0gJVjle MUXw9s6FJt0 FLtjxTR1E10 Vx4woE1eSbb SXVa379JKpj OurWzB3TgzG APF5mpS7Umx AlNypphp3Lg NMbEmSKcumO MHXJWjOsxpo B9Lpww2u6o0 B1eBJRcT0Xi PTvoDHIKZk9 Isgs4ufMs2q S4EOFkcaNnJ KQssD1AD5Ub IbkzEquGIoO Kqqg0U9ZMnS RZSa5HWqABw ADyS2OYQ7y0 IsFR55Dezhh MG4GQLkAOzr RPIheD7fprr Jv8ov11RW5D E9yi3NsR1gr NvLXat2dpuR LQFF6MqudgC U82wgxAIVY9 O5kkWhhgDLx BMtl0hy9hlL PxZqFYtwuHu Am8e0oPHSt5 SOytRLvaOS7 Ryfm0W77Nuz QnfyeKdSet7 JTEJTO2G4yq AR7oSIldWmY VLlGiEwxFkV RDqXtT7TJan FPz13EnHCnF JoKaEhwZH1K U0vLIQMuahP VDOsHyjmPmo I97IwnrFxkS CDtlAuqUt12 KOoXITqCO0c BG2eh2NMuua ElO6HPjs0wg FlRpBVB2Qt9 EMQJKFuZshY GXhrUhBu23F Vqja3h8Llln EWAT72miAN4 HAtrmcwQ72U NVH6cU0XbM8 LAylzFlFugX QGDJObGQHYR Mje5EWMxeFU Qg64wZMjpAS CJZB8KqS4pb JzVLa9fFo2N SZPeo3SXjIV FXUZxUbI4gO B0VbX6J9sH3 OF97L7mCwnP TPyoc5GO203
end PySem.W.Fast
set_option maxRecDepth 100000 in
set_option maxHeartbeats 0 in
theorem PySem.Challenge.cw_whistlebook_k23_away_in_rounds_holds : PySem.Challenge.rw_whistlebook_k23_away_in_rounds.Holds := by
 w_on;o_law;k_head;(case hw=>w_witness2)
 k_fill
 refine K23.walk (l:=PySem.Challenge.rw_whistlebook_k23_away_in_rounds) rfl rfl (fun w h Y=>PySem.W.kIn_of Y) ?F
 case F =>
  intro w mg fa h KX G hmg
  refine' K23.ze7 KX G hmg ?zlq ?zkl ?zju ?zjb ?zjh ?zjk ?zlk ?zlc ?zj8 ?zk5 ?zkn ?zka ?zlz ?zli ?zi4 ?zjt ?zl7 ?zl9 ?zm9 ?zmc ?zmp ?zm2 ?zm3 ?zmo ?zmk ?zm5 ?zkd ?zjd ?zmh ?zmu ?zm6 ?zmz ?zm1 ?zmj ?zi2 ?znq ?zne ?znf ?znc ?zng ?znn ?zjy ?zl8 ?zj9 ?zlv ?zmy ?zm0 ?zmi ?zmt ?zmn ?zm4 ?zkp ?zmr ?zi5 ?zje ?zjp ?zkz ?zix ?zi0 ?zlo ?zj4 ?zl5 ?zkw ?zj1 ?zj3 ?zlh ?zml ?zla ?zkt ?zl1 ?zls ?zlb ?zjm ?znv ?zjl ?zlx ?zjv ?zkb ?zjq ?zn6 ?zh2 ?zme ?zms ?zn7 ?zjw ?zn3 ?zlm ?zkk ?zku ?zj0 ?zjz ?zja ?ga ?gk ?at_ ?mx ?mo ?mB ?kit ?zoc ?gt ?tk ?zie ?zio ?zii ?zjo ?zjf ?zjc ?zi3 ?zi6 ?zjn ?zkc ?zjg ?l0 ?l1 ?l2 ?l3 ?l4 ?l5 ?l6 ?l7 ?l8 ?l9 ?l10 ?l11 ?l12 ?l13 ?l14 ?l15 ?l16 ?l17 ?l18 ?l19 ?l20 ?l21 ?l22 ?l23 ?l24 ?l25 ?l26 ?l27 ?l28 ?l29 ?l30 ?l31 ?l32 ?l33 ?l34 ?l35 ?l36 ?l37 ?l38 ?l39 ?l40 ?l41 ?l42 ?l43 ?l44 ?l45 ?l46 ?l47 ?l48 ?l49 ?l50 ?l51 ?l52 ?l53 ?l54 ?l55 ?l56 ?l57 ?l58 ?l59 ?l60 ?l61 ?l62 ?l63 ?l64 ?l65 ?l66 ?l67 ?l68 ?l69 ?l70 ?l71
  (case zlq|zkl|zju|zjb|zjh|zjk|zlk|zlc|zj8|zk5|zkn|zka|zlz|zli|zi4|zjt|zl7|zl9|zm9|zmc|zmp|zm2|zm3|zmo|zmk|zm5|zkd|zjd|zmh|zmu|zm6|zmz|zm1|zmj|zi2|znq|zne|znf|znc|zng|znn|zjy|zl8|zj9|zlv|zmy|zm0|zmi|zmt|zmn|zm4|zkp|zmr|zi5|zje|zjp|zkz|zix|zi0|znv|zjl|zlx|zjv|zkb|zjq|zn6|zh2|zme|zms|zn7|zjw|zn3|zlm|zkk|zku|zj0|zjz|zja|gt|tk|zie|zio|zii|zjo|zjf|zjc|zi3|zi6|zjn|zkc|zjg=>(show _=_;k_is))
  (case zlo|zj4|zl5|zkw|zj1|zj3|zlh|zml|zla|zkt|zl1|zls|zlb|zjm=>(show PySem.W.excIn _ _ _ _=true;k_exc))
  (case ga|gk|at_|mx|mo|mB=>(intro r h;cases r<;>first|exact absurd rfl h|(dsimp only[_root_.G.Ref.cls];k_is)))
  (case kit=>(intro r t h;cases r<;>first|exact absurd rfl h|(cases t<;>(dsimp only[_root_.G.Ref.cls];first|(show _=some true;kit_is)|(show _=some false;kit_is)))))
  (case zoc=>(intro r h;cases r<;>first|exact absurd rfl h|(dsimp only[_root_.G.Ref.cls];kit_is)))
  (case l0|l1|l2|l7|l8|l9|l10|l11|l20|l21|l22|l23|l24|l25|l26|l27|l36|l56|l57|l58|l59|l60|l61|l62|l63|l64|l65|l66|l67|l68|l69|l70|l71=>(constructor<;>(show _=_;k_is)))
  (case l3|l4|l5|l6|l12|l13|l14|l15|l16|l17|l18|l19|l28|l29|l30|l31|l32|l33|l34|l35|l37|l38|l39|l40|l41|l42|l43|l44|l45|l46|l47|l48|l49|l50|l51|l52|l53|l54|l55=>(constructor<;>(show _=_;k_is)))
#print axioms PySem.Challenge.cw_whistlebook_k23_away_in_rounds_holds
