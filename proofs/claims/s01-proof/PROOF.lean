import PyProof.Rows.All
import Wide.All
import OpenK.AllK
import Wide.FinOn
import PyProof.EqAt
import PyProof.EqKinds
import PyProof.TupleCall
import KE.BitLaws
import Open.SpecLaws
import KE.OsHead
import KE.OsGo
import Md07Spec
import PyMd07
import PySem.Challenge.RW_pointgroupsdesk_s01_answers
set_option Elab.async false
set_option linter.all false
section
set_option Elab.async false
set_option linter.all false
set_option maxRecDepth 100000
namespace L2
open PySem PySem.Spec PyProof.Rows
abbrev Key:=Sum Int Str
def vt:Key->Value->Bool
 |.inl k,v=>Value.isInt k v
 |.inr x,v=>Value.isStrOf x v
def zei(w:World):Key->Int
 |.inl k=>hashInt k
 |.inr x=>hashStr w x
theorem wK:∀{k:Key}{v:Value},vt k v=true->(∃i t,k=Sum.inl i/\v=Value.int i t)∨(∃x t,k=Sum.inr x/\v=Value.str x t)
 |.inl i,v,h=>by
  obtain⟨t,e⟩:=Value.isInt_shape (k:=i) (v:=v) h
  exact .inl ⟨i,t,rfl,e⟩
 |.inr x,v,h=>by
  obtain⟨t,e⟩:=Value.isStrOf_shape (x:=x) (v:=v) h
  exact .inr ⟨x,t,rfl,e⟩
theorem zeh(i:Int)(t:Tok):vt (.inl i) (.int i t)=true:=by simp[vt,Value.isInt]
theorem zeg(x:Str)(t:Tok):vt (.inr x) (.str x t)=true:=by simp[vt,Value.isStrOf]
theorem zef(a b:Int):decide ((Sum.inl a:Key)=Sum.inl b)=(a == b):=by
 by_cases e:a=b
 .subst e;simp
 .have h:¬(Sum.inl a:Key)=Sum.inl b:=λq=>e (Sum.inl.inj q)
  rw[decide_eq_false h]
  exact(beq_eq_false_iff_ne.mpr e).symm
theorem zec(a b:Str):decide ((Sum.inr a:Key)=Sum.inr b)=decide (a=b):=by
 by_cases e:a=b
 .subst e;simp
 .have h:¬(Sum.inr a:Key)=Sum.inr b:=λq=>e (Sum.inr.inj q)
  rw[decide_eq_false h,decide_eq_false e]
theorem zee(a:Int)(b:Str):decide ((Sum.inl a:Key)=Sum.inr b)=false:=decide_eq_false (λq=>nomatch q)
theorem zed(a:Str)(b:Int):decide ((Sum.inr a:Key)=Sum.inl b)=false:=decide_eq_false (λq=>nomatch q)
def yI(prog:Program)(w:World):PySem.KeyKind prog w Key where
 is:=vt
 hash:=zei w
 inj:=λv a b ha hb=>by
  rcases wK ha with ⟨i,t,rfl,rfl⟩|⟨x,t,rfl,rfl⟩
  .rcases wK hb with ⟨j,u,rfl,e⟩|⟨y,u,rfl,e⟩
   .injection e with e1 _;rw[e1]
   .exact nomatch e
  .rcases wK hb with ⟨j,u,rfl,e⟩|⟨y,u,rfl,e⟩
   .exact nomatch e
   .injection e with e1 _;rw[e1]
 byValue:=λk v h=>by
  rcases wK h with ⟨i,t,rfl,rfl⟩|⟨x,t,rfl,rfl⟩<;>rfl
 pyHash:=λhv h=>by
  rcases wK hv with ⟨i,t,rfl,rfl⟩|⟨x,t,rfl,rfl⟩
  .exact wpAny_pyHash_int h
  .exact wpAny_pyHash_str h
 eqBool:=λhu hv h=>by
  rcases wK hu with ⟨i,t,rfl,rfl⟩|⟨x,t,rfl,rfl⟩
  .rcases wK hv with ⟨j,u,rfl,rfl⟩|⟨y,u,rfl,rfl⟩
   .rw[zef] at h;exact wpAny_eqBool_int h
   .rw[zee] at h;exact SeqAt.EqAt.int_str i t y u _ _ _ _ h
  .rcases wK hv with ⟨j,u,rfl,rfl⟩|⟨y,u,rfl,rfl⟩
   .rw[zed] at h;exact SeqAt.EqAt.str_int x t j u _ _ _ _ h
   .rw[zec] at h;exact wpAny_eqBool_str h
 «strs»:=λk x t v h=>by
  rcases wK h with ⟨i,u,rfl,e⟩|⟨y,u,rfl,e⟩
  .exact nomatch e
  .injection e with e1 _
   subst e1
   cases v<;>rfl
theorem Xd(prog:Program)(w:World)(i:Int)(t:Tok):(yI prog w).is (.inl i) (.int i t)=true:=zeh i t
theorem zdx(prog:Program)(w:World)(x:Str)(t:Tok):(yI prog w).is (.inr x) (.str x t)=true:=zeg x t
end L2
namespace L2
open PySem PySem.Spec PyProof.Rows
inductive V where
 |non|bl (b:Bool)|int (i:Int)|str (x:Str)|byt (b:Array UInt8)|flt (b:UInt64)|ref (a:Addr)|ty (n:String)
 deriving DecidableEq
def zr:V->Value->Prop
 |.non,u=>u=Value.none
 |.bl b,u=>u=Value.bool b
 |.int i,u=>∃t,u=Value.int i t
 |.str x,u=>∃t,u=Value.str x t
 |.byt b,u=>∃t,u=Value.bytes b t
 |.flt b,u=>∃t,u=Value.float b t
 |.ref a,u=>u=Value.ref a
 |.ty n,u=>u=Value.type n
abbrev Vals:List V->List Value->Prop:=Paired zr
theorem Vals.length{xs:List V}{us:List Value}(r:Vals xs us):xs.length=us.length:=Paired.length r
theorem Vals.get:∀{xs:List V}{us:List Value}{i:Nat}{x:V},Vals xs us->xs[i]? = some x->∃u,us[i]? = some u/\zr x u
 |_,_,_,_,.nil,e=>by simp at e
 |_,_,0,_,.cons r _,e=>by simp at e;subst e;exact⟨_,rfl,r⟩
 |_,_,i+1,x,.cons _ t,e=>by
  obtain⟨u,h1,h2⟩:=Vals.get (i:=i) (x:=x) t (by simpa using e)
  exact⟨u,by simpa using h1,h2⟩
theorem Vals.set{x:V}{u:Value}(r:zr x u):∀{xs:List V}{us:List Value}(i:Nat),Vals xs us->Vals (xs.set i x) (us.set i u)
 |_,_,_,.nil=>.nil
 |_,_,0,.cons _ t=>.cons r t
 |_,_,i+1,.cons q t=>.cons q (Vals.set r i t)
theorem Vals.append:∀{xs ys:List V}{us ws:List Value},Vals xs us->Vals ys ws->Vals (xs++ys) (us++ws)
 |_,_,_,_,.nil,s=>s
 |_,_,_,_,.cons r t,s=>.cons r (Vals.append t s)
theorem Vals.take:∀{xs:List V}{us:List Value}(n:Nat),Vals xs us->Vals (xs.take n) (us.take n)
 |_,_,0,_=>.nil
 |_,_,_+1,.nil=>.nil
 |_,_,n+1,.cons r t=>.cons r (Vals.take n t)
theorem Vals.drop:∀{xs:List V}{us:List Value}(n:Nat),Vals xs us->Vals (xs.drop n) (us.drop n)
 |_,_,0,r=>r
 |_,_,_+1,.nil=>.nil
 |_,_,n+1,.cons _ t=>Vals.drop n t
def yV:Option V->Option Value->Prop
 |some v,some u=>zr v u
 |none,none=>True
 |_,_=>False
def KV{κ:Type}:List (κ×V)->List (κ×Value)->Prop:=Paired λ(p:κ×V)(q:κ×Value)=>p.1=q.1/\zr p.2 q.2
def kV:Key->V
 |.inl i=>.int i
 |.inr x=>.str x
inductive HO where
 |lst (xs:List V)
 |tup (xs:List V)
 |dK (kvs:List (Key×V))|dT (kvs:List (List Key×V))
 |set (S:Int->Bool) (n:Nat)
 |ins (C dx:Addr) (fs:List (Str×V))
 |own (x:Addr)
 |xd (fs:List (Str×V))
 |met (f x:Addr)
 |rng (lo hi:Int)
 |frz (o:Obj) (u:HO)
 |tbl (ps:Array Value)
 |ext (φ:Heap->Prop)
abbrev Hp:=Addr->Option HO
def upd(H:Hp)(a:Addr)(o:HO):Hp:=λb=>if b=a then some o else H b
theorem zj{H:Hp}{a:Addr}{o:HO}:upd H a o a=some o:=by unfold upd;rw[if_pos rfl]
theorem zh{H:Hp}{a b:Addr}{o:HO}(h:b≠a):upd H a o b=H b:=by unfold upd;rw[if_neg h]
theorem uZ{H:Hp}{a:Addr}{o u:HO}:upd (upd H a o) a u=upd H a u:=by
 funext b;unfold upd;split<;>rfl
theorem xj{H:Hp}{a b:Addr}{o u:HO}(h:H a=some o)(h':H b=some u)(d:o≠u):a≠b:=by
 intro e;subst e;rw[h] at h';exact d (Option.some.inj h')
theorem zw{H:Hp}{a b:Addr}{o:HO}(h:H a=some o)(h':H b=none):a≠b:=by
 intro e;subst e;rw[h] at h';cases h'
section
variable(P:Program)(w:World)
def yy(H:Hp)(h:Heap)(a:Addr):HO->Prop
 |.lst xs=>xs.length<=sizeLine/\∃(its:List Value)(n:Nat),Vals xs its/\h.get? a=some { cls:=.type "list",data:=.seq its.toArray n }
 |.tup xs=>xs.length<=sizeLine/\∃its:List Value,Vals xs its/\IsTup h a its.toArray
 |.dK kvs=>kvs.length<=sizeLine/\(a == sysModules)=false/\∃vs,KV kvs vs/\h.DictOf (yI P w) a vs
 |.dT kvs=>kvs.length<=sizeLine/\(a == sysModules)=false/\∃xs:List (List Key×Addr×Value),
   Paired (λ(p:List Key×V)(q:List Key×Addr×Value)=>p.1=q.1/\H q.2.1=some (.tup (p.1.map kV))/\zr p.2 q.2.2) kvs xs /\
   ∃o es ep,h.get? a=some o/\o.ExactDict/\o.data=.dict es ep/\es.toList=xs.map (entryOfKey (tupleKind (yI P w)))/\(xs.map (·.1)).Nodup
 |.set S n=>h.SetOf (intKind P w) a S n
 |.ins C dx fs=>H dx=some (.own a)/\fs.length<=1000/\dx≠a/\h.get? a=some (PySem.W.instObj C dx) /\
   ∃mA,h.Ns1 dx mA/\(∀f,yV (fs.lookup f) (mA f))/\PySem.Within mA (fs.map (·.1))
 |.own _=>∃o,h.get? a=some o
 |.xd fs=>∃mA,h.Ns1 a mA/\∀f,yV (fs.lookup f) (mA f)
 |.rng lo hi=>∃t u v,h.get? a=some { cls:=.type "range",data:=.fields #[.int lo t,.int hi u,.int 1 v] }
 |.frz o u=>h.get? a=some o/\yy H h a u
 |.tbl ps=>h.get? a=some { cls:=.none,data:=.fields ps }
 |.met f x=>h.get? a=some (PySem.W.methodObj (.ref f) (.ref x))
 |.ext φ=>φ h/\(∃o,h.get? a=some o)/\∀h1 h2:Heap,φ h1->(∀o,h1.get? a=some o->h2.get? a=some o)->φ h2
def HOk(H:Hp)(h:Heap):Prop:=∀a o,H a=some o->yy P w H h a o
end
section
variable{P:Program}{w:World}{H H':Hp}{h h':Heap}{a:Addr}{o:HO}
theorem yy.lt(x:yy P w H h a o):a<h.objs.size:=by
 cases o with
 |lst xs=>obtain⟨_,_,_,_,e⟩:=x;exact Heap.lt_size e
 |tup xs=>obtain⟨_,_,_,p⟩:=x;exact p.lt
 |dK kvs=>obtain⟨_,_,_,_,o,_,_,e,_⟩:=x;exact Heap.lt_size e
 |dT kvs=>obtain⟨_,_,_,_,o,_,_,e,_⟩:=x;exact Heap.lt_size e
 |set S n=>obtain⟨o,_,_,_,e,_⟩:=x;exact Heap.lt_size e
 |ins C dx fs=>obtain⟨_,_,_,e,_⟩:=x;exact Heap.lt_size e
 |own y=>obtain⟨_,e⟩:=x;exact Heap.lt_size e
 |xd fs=>obtain⟨_,⟨_,_,_,e,_⟩,_⟩:=x;exact Heap.lt_size e
 |rng lo hi=>obtain⟨_,_,_,e⟩:=x;exact Heap.lt_size e
 |frz ob u=>obtain⟨e,_⟩:=x;exact Heap.lt_size e
 |tbl ps=>exact Heap.lt_size (show h.get? a=some _ from x)
 |met f y=>exact Heap.lt_size (show h.get? a=some _ from x)
 |ext φ=>obtain⟨_,⟨_,e⟩,_⟩:=x;exact Heap.lt_size e
theorem Paired.mapP{α β:Type}{F G:α->β->Prop}:∀{l₁:List α}{l₂:List β},Paired F l₁ l₂->(∀a b,F a b->G a b)->Paired G l₁ l₂
 |_,_,.nil,_=>.nil
 |_,_,.cons r t,f=>.cons (f _ _ r) (Paired.mapP t f)
theorem yy.stay(x:yy P w H h a o)(k:∀b u,(b=a∨H b=some (.own a))->h.get? b=some u->h'.get? b=some u)
  (ho:∀b,H b=some (.own a)->H' b=some (.own a)) (ht:∀b xs,H b=some (.tup xs)->H' b=some (.tup xs)):yy P w H' h' a o:=by
 induction o with
 |lst xs=>obtain⟨z,its,n,r,e⟩:=x;exact⟨z,its,n,r,k _ _ (.inl rfl) e⟩
 |tup xs=>obtain⟨z,its,r,ob,e,c⟩:=x;exact⟨z,its,r,ob,k _ _ (.inl rfl) e,c⟩
 |dK kvs=>obtain⟨z,y,vs,r,ob,es,ep,e,c⟩:=x;exact⟨z,y,vs,r,ob,es,ep,k _ _ (.inl rfl) e,c⟩
 |dT kvs=>
  obtain⟨z,y,xs,r,ob,es,ep,e,c⟩:=x
  exact⟨z,y,xs,Paired.mapP r λp q z=>⟨z.1,ht _ _ z.2.1,z.2.2⟩,ob,es,ep,k _ _ (.inl rfl) e,c⟩
 |set S n=>obtain⟨ob,es,ep,t,e,c⟩:=x;exact⟨ob,es,ep,t,k _ _ (.inl rfl) e,c⟩
 |ins C dx fs=>
  obtain⟨d,z,ne,e,mA,⟨od,es,ep,e2,c⟩,r⟩:=x
  exact⟨ho _ d,z,ne,k _ _ (.inl rfl) e,mA,⟨od,es,ep,k _ _ (.inr d) e2,c⟩,r⟩
 |own y=>obtain⟨ob,e⟩:=x;exact⟨ob,k _ _ (.inl rfl) e⟩
 |xd fs=>obtain⟨mA,⟨od,es,ep,e,c⟩,r⟩:=x;exact⟨mA,⟨od,es,ep,k _ _ (.inl rfl) e,c⟩,r⟩
 |rng lo hi=>obtain⟨t,u,v,e⟩:=x;exact⟨t,u,v,k _ _ (.inl rfl) e⟩
 |frz ob u ih=>obtain⟨e,q⟩:=x;exact⟨k _ _ (.inl rfl) e,ih q⟩
 |tbl ps=>
  have e:h.get? a=some { cls:=.none,data:=.fields ps }:=x
  show h'.get? a=some { cls:=.none,data:=.fields ps }
  exact k a _ (.inl rfl) e
 |met f y=>
  have e:h.get? a=some (PySem.W.methodObj (.ref f) (.ref y)):=x
  show h'.get? a=some (PySem.W.methodObj (.ref f) (.ref y))
  exact k a _ (.inl rfl) e
 |ext φ=>obtain⟨p,⟨o,e⟩,st⟩:=x;exact⟨st _ _ p λo q=>k _ _ (.inl rfl) q,⟨o,k _ _ (.inl rfl) e⟩,st⟩
theorem HOk.lt(x:HOk P w H h)(e:H a=some o):a<h.objs.size:=(x a o e).lt
theorem HOk.fresh(x:HOk P w H h)(e:h.objs.size<=a):H a=none:=by
 cases q:H a with
 |none=>rfl
 |some u=>exact absurd (Nat.lt_of_lt_of_le (x.lt q) e) (Nat.lt_irrefl _)
theorem HOk.kept(x:HOk P w H h)(k:∀b u,h.get? b=some u->h'.get? b=some u):HOk P w H h':=λa o e=>
 (x a o e).stay (λb u _ q=>k b u q) (λ_ q=>q) λ_ _ q=>q
theorem HOk.laid(x:HOk P w H h)(k:∀b u,h.get? b=some u->h'.get? b=some u)(hp:h.objs.size<=a)(new:yy P w (upd H a o) h' a o):HOk P w (upd H a o) h':=λb u e=>by
 have hn:=x.fresh hp
 by_cases hb:b=a
 .subst hb;rw[zj] at e;cases e;exact new
 .rw[zh hb] at e
  exact(x b u e).stay (λc v _ q=>k c v q) (λc q=>by rw[zh (zw q hn)];exact q) λc xs q=>by rw[zh (zw q hn)];exact q
end
def Rd(H:Hp)(a:Addr)(u:HO):Prop:=H a=some u∨∃o,H a=some (.frz o u)
theorem Rd.ok{P:Program}{w:World}{H:Hp}{h:Heap}{a:Addr}{u:HO}(r:Rd H a u)(x:HOk P w H h):yy P w H h a u:=by
 rcases r with r|⟨o,r⟩
 .exact x a u r
 .obtain⟨_,q⟩:=x a _ r
  exact q
def Mut:Option HO->Prop
 |some (.lst _)=>True
 |some (.dK _)=>True
 |some (.dT _)=>True
 |some (.set _ _)=>True
 |some (.ins _ _ _)=>True
 |some (.ext _)=>True
 |_=>False
section
variable{P:Program}{w:World}{H:Hp}{h h':Heap}{x e:Addr}{o':HO}
theorem HOk.write(ok:HOk P w H h)(mu:Mut (H x))(he:e=x∨H e=some (.own x))(k:∀b u,b≠e->h.get? b=some u->h'.get? b=some u)(heo:∃u,h'.get? e=some u)
  (new:yy P w (upd H x o') h' x o'):HOk P w (upd H x o') h':=λb u q=>by
 have nown:∀c y,H c=some (.own y)->c≠x:=λc y r z=>by subst z;rw[r] at mu;exact mu
 have ntup:∀c xs,H c=some (.tup xs)->c≠x:=λc xs r z=>by subst z;rw[r] at mu;exact mu
 by_cases hb:b=x
 .subst hb;rw[zj] at q;cases q;exact new
 .rw[zh hb] at q
  by_cases hbe:b=e
  .have q':H b=some (.own x):=by
    rcases he with z|z
    .exact absurd (hbe.trans z) hb
    .rw[hbe];exact z
   rw[q] at q';cases q'
   obtain⟨v,hv⟩:=heo
   exact⟨v,by rw[hbe];exact hv⟩
  .refine(ok b u q).stay (λc v hc r=>k c v ?_ r) (λc r=>by rw[zh (nown c b r)];exact r) λc xs r=>by rw[zh (ntup c xs r)];exact r
   rcases hc with rfl|hc
   .exact hbe
   .rintro rfl
    rcases he with z|z
    .exact nown c b hc z
    .rw[hc] at z;cases z;exact hb rfl
end
structure Un(fs ex:List Addr)(H H':Hp)(h h':Heap):Prop where
 keep:∀b o,h.get? b=some o->H b=none->b∉fs->b∉ex->h'.get? b=some o
 slot:∀b o,h.get? b=some o->H b=none->b∈fs->b∉ex->∃sl,h'.get? b=some { o with slots:=sl }
 free:∀b o,h.get? b=some o->H b=none->b∉ex->H' b=none
 there:∀b o,h.get? b=some o->b∉ex->∃o',h'.get? b=some o'
 tups:∀b xs,H b=some (.tup xs)->H' b=some (.tup xs)
 frzs:∀b o u,H b=some (.frz o u)->H' b=some (.frz o u)
 tbls:∀b ps,H b=some (.tbl ps)->∃more,H' b=some (.tbl (ps++more))
section
variable{fs fs' ex ex':List Addr}{H H1 H2:Hp}{h h1 h2 h':Heap}{a x e:Addr}{o:HO}
theorem Un.any(u:Un fs ex H H1 h h1){b:Addr}{ob:Obj}(q:h.get? b=some ob)(n:H b=none)(hx:b∉ex):∃sl,h1.get? b=some { ob with slots:=sl }:=by
 by_cases hb:b∈fs
 .exact u.slot b ob q n hb hx
 .exact⟨ob.slots,u.keep b ob q n hb hx⟩
theorem Un.kept(k:∀b u,h.get? b=some u->h'.get? b=some u):Un fs ex H H h h' :=
 ⟨λb ob q _ _ _=>k b ob q,λb ob q _ _ _=>⟨ob.slots,k b ob q⟩,λ_ _ _ n _=>n,λb ob q _=>⟨ob,k b ob q⟩,λ_ _ q=>q,λ_ _ _ q=>q,λ_ ps q=>⟨#[],by rw[q];simp⟩⟩
theorem Un.refl:Un fs ex H H h h:=Un.kept λ_ _ q=>q
theorem Un.laid(k:∀b u,h.get? b=some u->h'.get? b=some u)(hp:h.objs.size<=a)(hn:H a=none):Un fs ex H (upd H a o) h h' where
 keep:=λb u q _ _ _=>k b u q
 slot:=λb u q _ _ _=>⟨u.slots,k b u q⟩
 free:=λb u q n _=>by rw[zh (Nat.ne_of_lt (Nat.lt_of_lt_of_le (Heap.lt_size q) hp))];exact n
 there:=λb u q _=>⟨u,k b u q⟩
 tups:=λb xs q=>by rw[zh (zw q hn)];exact q
 frzs:=λb u xs q=>by rw[zh (zw q hn)];exact q
 tbls:=λb ps q=>⟨#[],by rw[zh (zw q hn),q];simp⟩
theorem Un.write(mu:Mut (H x))(he:e=x∨H e=some (.own x))(k:∀b u,b≠e->h.get? b=some u->h'.get? b=some u)(heo:∃u,h'.get? e=some u):Un fs ex H (upd H x o) h h':=by
 have hx:∀b,H b=none->b≠x:=λb n z=>by subst z;rw[n] at mu;exact mu
 have hb:∀b,H b=none->b≠e:=λb n z=>by
  subst z
  rcases he with r|r
  .exact hx b n r
  .rw[n] at r;cases r
 have hm:∀b u,H b=some u->¬Mut (some u)->b≠x:=λb u q nm z=>by subst z;rw[q] at mu;exact nm mu
 refine⟨λb u q n _ _=>k b u (hb b n) q,λb u q n _ _=>⟨u.slots,k b u (hb b n) q⟩,λb u q n _=>by rw[zh (hx b n)];exact n,λb u q _=>?_,
  λb xs q=>by rw[zh (hm b _ q λz=>z)];exact q,λb u xs q=>by rw[zh (hm b _ q λz=>z)];exact q,λb ps q=>⟨#[],by rw[zh (hm b _ q λz=>z),q];simp⟩⟩
 by_cases hbe:b=e
 .subst hbe;exact heo
 .exact⟨u,k b u hbe q⟩
end
def trk(h:Heap)(H:Hp):List Addr:=(List.range h.objs.size).filter λa=>(H a).isSome
def wZ(h:Heap)(H:Hp):Heap:=PySem.W.hideAll h (trk h H)
theorem zev(h:Heap)(H:Hp):(wZ h H).objs.size=h.objs.size:=PySem.W.hideAll_size _ _
theorem zew{h:Heap}{H:Hp}{b:Addr}{o:Obj}(e:h.get? b=some o)(n:H b=none):(wZ h H).get? b=some o :=
 PySem.W.hideAll_get _ e λhm=>by
  have q:(H b).isSome=true:=(List.mem_filter.mp hm).2
  rw[n] at q;simp at q
theorem zdn{h:Heap}{H:Hp}{b:Addr}{o:Obj}(e:(wZ h H).get? b=some o):h.get? b=some o/\H b=none:=by
 have e':h.get? b=some o:=PySem.W.of_hideAll (trk h H) e
 refine⟨e',?_⟩
 cases q:H b with
 |none=>rfl
 |some x=>
  have hm:b∈trk h H:=List.mem_filter.mpr ⟨List.mem_range.mpr (Heap.lt_size e'),by simp[q]⟩
  have z:(wZ h H).get? b=none:=PySem.W.hideAll_none (trk h H) hm
  rw[z] at e;cases e
end L2
namespace L2
open PySem PySem.Spec PyProof.Rows
structure Mod(K:PySem.W.Frag)(mg:Str->Option Value)(base:Heap):Prop where
 kin:K.In base
 glob:base.Ns mainGlobals mg
 blt:∃mb,base.Ns builtinsNs mb/\∀x:Str,x≠"__name__"->mb x=bootBuiltins x
 nolimit:base.NoLimit
structure Cx where
 prog:Program
 w:World
 K:PySem.W.Frag
 mg:Str->Option Value
 base:Heap
 A:Around
 N:List Str
 s_0:Shared
 H_0:Hp
 env:Env
 outer:List Env
 stack:List Env
 ex:List Addr
 fn:Str->Bool
 calm:Bool
 pn:List (Addr×Obj)
 xe:Value->Shared->Prop
def frs(l:List Env):List Addr:=l.filterMap (·.frame)
abbrev Cx.fs(X:Cx):List Addr:=frs X.outer
def Vis(sc:Scope)(x:Str):Prop:=sc.names.lookup x=some .local∨sc.names.lookup x=some .cell∨sc.names.lookup x=some .free
def Loc(sc:Scope)(x:Str):Prop:=sc.names.lookup x=some .local∨sc.names.lookup x=some .cell
def Look(env:Env)(h:Heap)(m:Str->Option Value)(x:Str)(u:Value):Prop :=
 (env.kindOf x=some .local/\m x=some u)∨((env.kindOf x=some .cell∨env.kindOf x=some .free)/\∃c,env.cells.lookup x=some c/\h.IsCell c (some u))
structure Cx.Ok(X:Cx):Prop where
 mod:Mod X.K X.mg X.base
 kind:X.env.scope.kind=.function
 glob:X.env.globals=mainGlobals
 blt:X.env.builtins=builtinsNs
 above:X.s_0.heap.objs.size<=X.env.locals
 inj:∀x y c,X.env.cells.lookup x=some c->X.env.cells.lookup y=some c->x=y
 has:∀x,(X.env.kindOf x=some .cell∨X.env.kindOf x=some .free)->∃c,X.env.cells.lookup x=some c
 cab:∀x c,X.fn x=true->X.env.cells.lookup x=some c->X.s_0.heap.objs.size<=c
 hd:X.calm=true->X.A.handled=none
 frames:X.A.frames=some X.stack
 stk:X.stack=X.outer∨(X.stack=X.env::X.outer/\X.env.frame=some X.env.locals)
 exf:∀b∈X.ex,b≠X.env.locals/\∀x c,X.env.cells.lookup x=some c->c≠b
 bs:∀b o,X.base.get? b=some o->X.s_0.heap.get? b=some o/\X.H_0 b=none
 bsz:X.base.objs.size<=X.s_0.heap.objs.size
 noex:∀b o,X.base.get? b=some o->b∉X.ex
 exfs:∀b∈X.ex,b∉X.fs
 funs:X.s_0.heap.FunFrames X.base X.outer
 frf:∀b∈X.fs,X.H_0 b=none
structure Inv(X:Cx)(pins:List (Addr×Obj))(σ:List (Option V))(H:Hp)(s:Shared):Prop where
 ok:X.Ok
 os:s.os=X.s_0.os
 bare:AllBare s.gens
 base:Un X.fs X.ex X.H_0 H X.s_0.heap s.heap
 loc:∃m,s.heap.Ns X.env.locals m/\∀(i:Nat)(x:Str)(v:V),X.N[i]? = some x->σ[i]? = some (some v)->Vis X.env.scope x->∃u,zr v u/\Look X.env s.heap m x u
 cell:∀x c,X.env.cells.lookup x=some c->∃v,s.heap.IsCell c v
 free:H X.env.locals=none
 freeC:∀x c,X.env.cells.lookup x=some c->H c=none
 pin:∀p∈X.pn++pins,s.heap.get? p.1=some p.2/\H p.1=none/\p.1≠X.env.locals/\p.1∉X.fs/\∀v,p.2.data≠.cell v
 hok:HOk X.prog X.w H s.heap
 len:σ.length=X.N.length
section
variable{X:Cx}{pins:List (Addr×Obj)}{σ:List (Option V)}{H H':Hp}{s:Shared}{h':Heap}
theorem Cx.Ok.nofr(ok:X.Ok){b:Addr}{o:Obj}(e:X.base.get? b=some o):b∉X.fs:=λhb=>by
 have:=(ok.funs.mem hb).1
 rw[e] at this;cases this
theorem Inv.bs(I:Inv X pins σ H s):∀b o,X.base.get? b=some o->s.heap.get? b=some o/\H b=none:=λb o e=>
 ⟨I.base.keep b o (I.ok.bs b o e).1 (I.ok.bs b o e).2 (I.ok.nofr e) (I.ok.noex b o e),I.base.free b o (I.ok.bs b o e).1 (I.ok.bs b o e).2 (I.ok.noex b o e)⟩
theorem Inv.bk(I:Inv X pins σ H s):∀b o,X.base.get? b=some o->s.heap.get? b=some o:=λb o e=>(I.bs b o e).1
theorem Inv.mod(I:Inv X pins σ H s):Mod X.K X.mg X.base:=I.ok.mod
theorem Inv.kIn(I:Inv X pins σ H s):X.K.In s.heap:=I.ok.mod.kin.keeps I.bk
theorem Inv.fr(I:Inv X pins σ H s):∃m,Fr X.base X.env.locals s.heap m :=
 let ⟨m,hn,_⟩:=I.loc
 ⟨m,hn,I.bk,Nat.le_trans I.ok.bsz I.ok.above⟩
theorem Inv.lt(I:Inv X pins σ H s):X.env.locals<s.heap.objs.size:=let ⟨_,hn,_⟩:=I.loc;hn.lt
theorem Inv.sz(I:Inv X pins σ H s):X.s_0.heap.objs.size<=s.heap.objs.size:=Nat.le_trans I.ok.above (Nat.le_of_lt I.lt)
theorem Inv.nofs(I:Inv X pins σ H s){a:Addr}(h:s.heap.objs.size<=a):a∉X.fs:=λhb=>by
 obtain⟨_,o,ho,_⟩:=I.ok.funs.mem hb
 exact absurd (Nat.lt_of_lt_of_le (Heap.lt_size ho) (Nat.le_trans I.sz h)) (Nat.lt_irrefl _)
theorem Inv.cne(I:Inv X pins σ H s):∀x c,X.env.cells.lookup x=some c->c≠X.env.locals:=λx c e z=>by
 obtain⟨v,o,ho,hd⟩:=I.cell x c e
 obtain⟨m,⟨o',es,ep,ho',hd',_⟩,_⟩:=I.loc
 rw[z,ho'] at ho;cases ho;rw[hd'] at hd;cases hd
theorem Inv.funs(I:Inv X pins σ H s):s.heap.FunFrames X.base X.outer:=by
 have all:∀(l:List Env),(∀b∈frs l,b∈X.fs)->X.s_0.heap.FunFrames X.base l->s.heap.FunFrames X.base l:=by
  intro l
  induction l with
  |nil=>intro _ _;trivial
  |cons env r ih=>
   intro hs hl
   obtain⟨hk,⟨L,o,hf,hn,ho,hd⟩,hr⟩:=hl
   have hL:L∈X.fs:=hs L (by unfold frs;rw[List.filterMap_cons,hf];exact List.mem_cons_self)
   obtain⟨sl,e⟩:=I.base.slot L o ho (I.ok.frf L hL) hL λz=>I.ok.exfs L z hL
   exact⟨hk,⟨L,_,hf,hn,e,hd⟩,ih (λb hb=>hs b (by unfold frs;rw[List.filterMap_cons,hf];exact List.mem_cons_of_mem _ hb)) hr⟩
 exact all X.outer (λ_ hb=>hb) I.ok.funs
theorem Inv.stack(I:Inv X pins σ H s):s.heap.FunFrames X.base X.stack:=by
 rcases I.ok.stk with e|⟨e,hf⟩
 .rw[e];exact I.funs
 .rw[e]
  obtain⟨m,hn,_⟩:=I.loc
  refine .cons (by rw[I.ok.kind];decide) hf hn ?_ I.funs
  exact Heap.get?_none_of_le (Nat.le_trans I.ok.bsz I.ok.above)
theorem Inv.stkSub(I:Inv X pins σ H s):∀b∈frs X.stack,b∈X.env.locals::X.fs:=λb hb=>by
 rcases I.ok.stk with e|⟨e,hf⟩
 .rw[e] at hb;exact List.mem_cons_of_mem _ hb
 .rw[e] at hb
  unfold frs at hb
  rw[List.filterMap_cons,hf] at hb
  exact hb
theorem Inv.stkFree(I:Inv X pins σ H s):∀b∈frs X.stack,H b=none:=λb hb=>by
 rcases List.mem_cons.mp (I.stkSub b hb) with e|hb
 .rw[e];exact I.free
 .obtain⟨_,o,ho,_⟩:=I.ok.funs.mem hb
  exact I.base.free b o ho (I.ok.frf b hb) λz=>I.ok.exfs b z hb
theorem Inv.step{g':Array GenState}{t':Nat}{d':Drawn}{ch:List Addr}(I:Inv X pins σ H s)
  (hch:∀b∈ch,(b∈X.ex∨X.s_0.heap.objs.size<=b)/\b≠X.env.locals/\(∀x c,X.env.cells.lookup x=some c->c≠b)/\∀p∈X.pn++pins,p.1≠b)
  (keep:∀b o,b≠X.env.locals->b∉X.fs->b∉ch->s.heap.get? b=some o->H b=none->h'.get? b=some o)
  (slot:∀b o,b≠X.env.locals->b∈X.fs->b∉ch->s.heap.get? b=some o->H b=none->∃sl,h'.get? b=some { o with slots:=sl }) (free:∀b o,b∉ch->s.heap.get? b=some o->H b=none->H' b=none)
  (there:∀b o,b∉ch->s.heap.get? b=some o->∃o',h'.get? b=some o')
  (tups:∀b xs,H b=some (.tup xs)->H' b=some (.tup xs)) (frzs:∀b o u,H b=some (.frz o u)->H' b=some (.frz o u)) (tbls:∀b ps,H b=some (.tbl ps)->∃more,H' b=some (.tbl (ps++more)))
  (ns:∀m,s.heap.Ns X.env.locals m->h'.Ns X.env.locals m) (hok:HOk X.prog X.w H' h') (hg:AllBare g') :
  Inv X pins σ H' { s with heap:=h',gens:=g',drawn:=d',toks:=t' }:=by
 have neL:∀b o,X.s_0.heap.get? b=some o->b≠X.env.locals:=λb o e=>Nat.ne_of_lt (Nat.lt_of_lt_of_le (Heap.lt_size e) I.ok.above)
 have neC:∀b o,X.s_0.heap.get? b=some o->b∉X.ex->b∉ch:=λb o e hx hb=>by
  rcases(hch b hb).1 with z|z
  .exact hx z
  .exact absurd (Nat.lt_of_lt_of_le (Heap.lt_size e) z) (Nat.lt_irrefl _)
 have cellK:∀x c,X.env.cells.lookup x=some c->∀v,s.heap.IsCell c v->h'.IsCell c v:=λx c e v ⟨o,ho,hd⟩=>by
  have nch:c∉ch:=λz=>(hch c z).2.2.1 x c e rfl
  by_cases hc:c∈X.fs
  .obtain⟨sl,q⟩:=slot c o (I.cne x c e) hc nch ho (I.freeC x c e)
   exact⟨_,q,hd⟩
  .exact⟨o,keep c o (I.cne x c e) hc nch ho (I.freeC x c e),hd⟩
 refine⟨I.ok,I.os,hg,⟨λb o e n hb hx=>?_,λb o e n hb hx=>?_,λb o e n hx=>?_,λb o e hx=>?_,λb xs e=>tups b xs (I.base.tups b xs e),λb o xs e=>frzs b o xs (I.base.frzs b o xs e),λb ps e=>?_⟩,?_,λx c e=>?_,?_,λx c e=>?_,λp hp=>?_,hok,I.len⟩
 .exact keep b o (neL b o e) hb (neC b o e hx) (I.base.keep b o e n hb hx) (I.base.free b o e n hx)
 .obtain⟨sl,e1⟩:=I.base.slot b o e n hb hx
  obtain⟨sl',e2⟩:=slot b _ (neL b o e) hb (neC b o e hx) e1 (I.base.free b o e n hx)
  exact⟨sl',e2⟩
 .obtain⟨o',e1⟩:=I.base.there b o e hx
  exact free b o' (neC b o e hx) e1 (I.base.free b o e n hx)
 .obtain⟨o',e1⟩:=I.base.there b o e hx
  exact there b o' (neC b o e hx) e1
 .obtain⟨m1,e1⟩:=I.base.tbls b ps e
  obtain⟨m2,e2⟩:=tbls b _ e1
  exact⟨m1++m2,by rw[e2,Array.append_assoc]⟩
 .obtain⟨m,hn,hl⟩:=I.loc
  refine⟨m,ns m hn,λi x v e1 e2 e3=>?_⟩
  obtain⟨u,r,l⟩:=hl i x v e1 e2 e3
  refine⟨u,r,?_⟩
  rcases l with l|⟨k,c,e,z⟩
  .exact .inl l
  .exact .inr ⟨k,c,e,cellK x c e _ z⟩
 .obtain⟨v,z⟩:=I.cell x c e
  exact⟨v,cellK x c e v z⟩
 .obtain⟨m,⟨o,_,_,ho,_⟩,_⟩:=I.loc
  exact free _ o (λz=>(hch _ z).2.1 rfl) ho I.free
 .obtain⟨v,o,ho,hd⟩:=I.cell x c e
  exact free c o (λz=>(hch c z).2.2.1 x c e rfl) ho (I.freeC x c e)
 .obtain⟨e,n,ne,nf,d⟩:=I.pin p hp
  have nch:p.1∉ch:=λz=>(hch p.1 z).2.2.2 p hp rfl
  exact⟨keep p.1 p.2 ne nf nch e n,free p.1 p.2 nch e n,ne,nf,d⟩
theorem Inv.un{t':Nat}(I:Inv X pins σ H s)(u:Un X.fs [] H H' s.heap h')(hok:HOk X.prog X.w H' h'):Inv X pins σ H' { s with heap:=h',toks:=t' }:=by
 obtain⟨m,⟨o,es,ep,ho,r⟩,_⟩:=id I.loc
 obtain⟨sl,hL⟩:=u.any ho I.free (by simp)
 exact I.step (g':=s.gens) (d':=s.drawn) (ch:=[]) (λ_ z=>nomatch z) (λb o _ hb _ e n=>u.keep b o e n hb (by simp)) (λb o _ hb _ e n=>u.slot b o e n hb (by simp)) (λb o _ e n=>u.free b o e n (by simp)) (λb o _ e=>u.there b o e (by simp)) u.tups u.frzs u.tbls (λm' hm=>by
  obtain⟨o',es',ep',ho',r'⟩:=hm
  rw[ho] at ho';cases ho'
  exact⟨_,es',ep',hL,r'⟩) hok I.bare
theorem Inv.call{g':Array GenState}{t':Nat}{d':Drawn}{ch:List Addr}(I:Inv X pins σ H s)(u:Un (frs X.stack) ch H H' s.heap h')(hok:HOk X.prog X.w H' h')(hg:AllBare g')
  (hch:∀b∈ch,(b∈X.ex∨X.s_0.heap.objs.size<=b)/\b≠X.env.locals/\(∀x c,X.env.cells.lookup x=some c->c≠b)/\∀p∈X.pn++pins,p.1≠b) :
  Inv X pins σ H' { s with heap:=h',gens:=g',drawn:=d',toks:=t' }:=by
 obtain⟨m,⟨o,es,ep,ho,r⟩,_⟩:=id I.loc
 obtain⟨sl,hL⟩:=u.any ho I.free λz=>(hch _ z).2.1 rfl
 exact I.step (ch:=ch) hch (λb o hL hb hc e n=>u.keep b o e n (λz=>(List.mem_cons.mp (I.stkSub b z)).elim hL hb) hc) (λb o _ _ hc e n=>u.any e n hc) (λb o hc e n=>u.free b o e n hc) (λb o hc e=>u.there b o e hc) u.tups u.frzs u.tbls (λm' hm=>by
  obtain⟨o',es',ep',ho',r'⟩:=hm
  rw[ho] at ho';cases ho'
  exact⟨_,es',ep',hL,r'⟩) hok hg
theorem Inv.turned{t':Nat}{it:Addr}(I:Inv X pins σ H s)(k:∀b o,b≠it->s.heap.get? b=some o->h'.get? b=some o)(hn:H it=none)(hL:it≠X.env.locals)
  (h1:it∈X.ex∨X.s_0.heap.objs.size<=it) (h2:∀x c,X.env.cells.lookup x=some c->c≠it) (h3:∀p∈X.pn++pins,p.1≠it):Inv X pins σ H { s with heap:=h',toks:=t' }:=by
 have nit:∀b u,H b=some u->b≠it:=λb u e z=>by rw[z,hn] at e;cases e
 refine I.step (g':=s.gens) (d':=s.drawn) (ch:=[it]) (λb hb=>?_) (λb o _ _ hc e _=>k b o (λz=>hc (by simp[z])) e) (λb o _ _ hc e _=>⟨o.slots,k b o (λz=>hc (by simp[z])) e⟩) (λ_ _ _ _ n=>n)
  (λb o hc e=>⟨o,k b o (λz=>hc (by simp[z])) e⟩) (λ_ _ e=>e) (λ_ _ _ e=>e) (λb ps e=>⟨#[],by rw[e];simp⟩) (λm hm=>?_) (λb u e=>?_) I.bare
 .have e:b=it:=by simpa using hb
  subst e
  exact⟨h1,hL,h2,h3⟩
 .obtain⟨o,es,ep,ho,r⟩:=hm
  exact⟨o,es,ep,k _ o (Ne.symm hL) ho,r⟩
 .refine(I.hok b u e).stay (λc v hc q=>k c v ?_ q) (λ_ q=>q) λ_ _ q=>q
  rcases hc with z|z
  .rw[z];exact nit b u e
  .exact nit c _ z
theorem Inv.tok(I:Inv X pins σ H s)(t:Nat):Inv X pins σ H { s with toks:=t }:=I.un (h':=s.heap) (t':=t) Un.refl I.hok
theorem Inv.kept{t':Nat}(I:Inv X pins σ H s)(k:∀b u,s.heap.get? b=some u->h'.get? b=some u):Inv X pins σ H { s with heap:=h',toks:=t' }:=I.un (Un.kept k) (I.hok.kept k)
theorem Inv.laid{a:Addr}{o:HO}{t':Nat}(I:Inv X pins σ H s)(k:∀b u,s.heap.get? b=some u->h'.get? b=some u)(hp:s.heap.objs.size<=a)(new:yy X.prog X.w (upd H a o) h' a o) :
  Inv X pins σ (upd H a o) { s with heap:=h',toks:=t' }:=I.un (Un.laid k hp (I.hok.fresh hp)) (I.hok.laid k hp new)
theorem Inv.write{x e:Addr}{o:HO}{t':Nat}(I:Inv X pins σ H s)(mu:Mut (H x))(he:e=x∨H e=some (.own x))(k:∀b u,b≠e->s.heap.get? b=some u->h'.get? b=some u)(heo:∃u,h'.get? e=some u)
  (new:yy X.prog X.w (upd H x o) h' x o):Inv X pins σ (upd H x o) { s with heap:=h',toks:=t' }:=I.un (Un.write mu he k heo) (I.hok.write mu he k heo new)
theorem Inv.weak{σ':List (Option V)}(I:Inv X pins σ H s)(hl:σ'.length=σ.length)(w:∀(i:Nat) v,σ'[i]? = some (some v)->σ[i]? = some (some v)):Inv X pins σ' H s :=
 ⟨I.ok,I.os,I.bare,I.base,let ⟨m,hn,hl'⟩:=I.loc;⟨m,hn,λi x v e1 e2 e3=>hl' i x v e1 (w i v e2) e3⟩,I.cell,I.free,I.freeC,I.pin,I.hok,hl.trans I.len⟩
theorem Inv.pins_of{pins':List (Addr×Obj)}(I:Inv X pins σ H s)(h:∀p∈pins',s.heap.get? p.1=some p.2/\H p.1=none/\p.1≠X.env.locals/\p.1∉X.fs/\∀v,p.2.data≠.cell v):Inv X pins' σ H s :=
 ⟨I.ok,I.os,I.bare,I.base,I.loc,I.cell,I.free,I.freeC,λp hp=>(List.mem_append.mp hp).elim (λz=>I.pin p (List.mem_append_left _ z)) (h p),I.hok,I.len⟩
theorem Y9{N:List Str}(hN:N.Nodup){i j:Nat}{x:Str}(a:N[i]? = some x)(b:N[j]? = some x):i=j:=by
 obtain⟨h1,e1⟩:=List.getElem?_eq_some_iff.mp a
 obtain⟨h2,e2⟩:=List.getElem?_eq_some_iff.mp b
 exact(List.getElem_inj hN).mp (e1.trans e2.symm)
theorem zbl{M:Model}{A:Around}{E:Value->Shared->Prop}{i:Nat}{x:Str}{v:V}{u:Value}{Q:Unit->Shared->Prop}(I:Inv X pins σ H s)(hN:X.N.Nodup)(hi:X.N[i]? = some x)(hx:Loc X.env.scope x)(r:zr v u)
  (h:∀s',Inv X pins (σ.set i (some v)) H s'->(∃a,Heap.SameBut a s.heap s'.heap/\(a=X.env.locals∨X.env.cells.lookup x=some a))->Q () s') (hf:X.fn x=true∨X.env.scope.names.lookup x=some .local:=by first|exact .inl rfl|exact .inr rfl|assumption):wpAny M A (storeName X.env x u) Q E s:=by
 obtain⟨m,hn,hl⟩:=id I.loc
 have hcls:(X.env.scope.kind == .class || (X.env.scope.kind == .module && X.env.locals != X.env.globals))=false:=by rw[I.ok.kind];rfl
 have hiσ:i < σ.length:=by rw[I.len];exact(List.getElem?_eq_some_iff.mp hi).1
 have cne:=I.cne
 have tracked:∀{a:Addr}{h':Heap},(∃o,s.heap.get? a=some o/\H a=none)->Heap.SameBut a s.heap h'->HOk X.prog X.w H h':=λ{a h'} ha hs b ob e=>by
  obtain⟨_,_,hfree⟩:=ha
  refine(I.hok b ob e).stay (λc w' hc q=>(hs.2 c ?_).trans q) (λ_ q=>q) λ_ _ q=>q
  rintro rfl
  rcases hc with rfl|hc
  .rw[hfree] at e;cases e
  .rw[hfree] at hc;cases hc
 rcases hx with hk|hk
 .refine wpAny_storeName_local hk hn (λh' hn' hs=>?_) hcls
  obtain⟨oL,_,_,hoL,_⟩:=id hn
  refine h _ ⟨I.ok,I.os,I.bare,⟨λb o e n hb hx=>?_,λb o e n hb hx=>?_,I.base.free,λb o e hx=>?_,I.base.tups,I.base.frzs,I.base.tbls⟩,⟨_,hn',λj y v' e1 e2 e3=>?_⟩,λy c e=>?_,I.free,I.freeC,λp hp=>?_,tracked ⟨oL,hoL,I.free⟩ hs,by simpa using I.len⟩ ⟨_,hs,.inl rfl⟩
  .exact(hs.2 b (Nat.ne_of_lt (Nat.lt_of_lt_of_le (Heap.lt_size e) I.ok.above))).trans (I.base.keep b o e n hb hx)
  .obtain⟨sl,e1⟩:=I.base.slot b o e n hb hx
   exact⟨sl,(hs.2 b (Nat.ne_of_lt (Nat.lt_of_lt_of_le (Heap.lt_size e) I.ok.above))).trans e1⟩
  .obtain⟨o',e1⟩:=I.base.there b o e hx
   exact⟨o',(hs.2 b (Nat.ne_of_lt (Nat.lt_of_lt_of_le (Heap.lt_size e) I.ok.above))).trans e1⟩
  .by_cases hj:j=i
   .subst hj
    rw[hi] at e1;cases e1
    rw[List.getElem?_set_self hiσ] at e2
    cases e2
    exact⟨u,r,.inl ⟨hk,by simp⟩⟩
   .rw[List.getElem?_set_ne (Ne.symm hj)] at e2
    obtain⟨u',r',q⟩:=hl j y v' e1 e2 e3
    refine⟨u',r',?_⟩
    rcases q with ⟨k,e⟩|⟨k,c,e,z⟩
    .refine .inl ⟨k,?_⟩
     have:y≠x:=λe=>hj (Y9 hN e1 (e ▸ hi))
     simp[this,e]
    .exact .inr ⟨k,c,e,z.sameBut hs (cne y c e)⟩
  .obtain⟨w',z⟩:=I.cell y c e
   exact⟨w',z.sameBut hs (cne y c e)⟩
  .obtain⟨e,n,ne,nf,d⟩:=I.pin p hp
   exact⟨(hs.2 p.1 ne).trans e,n,ne,nf,d⟩
 .have hfn:X.fn x=true:=by
   rcases hf with z|z
   .exact z
   .rw[z] at hk;cases hk
  obtain⟨c,hc⟩:=I.ok.has x (.inl hk)
  obtain⟨w',z⟩:=I.cell x c hc
  refine wpAny_storeName_cell I.ok.kind hk hc z (λh' hc' hs=>?_)
  obtain⟨oc,hoc,hocd⟩:=id z
  refine h { s with heap:=h' } ⟨I.ok,I.os,I.bare,⟨λb o e n hb hx=>?_,λb o e n hb hx=>?_,I.base.free,λb o e hx=>?_,I.base.tups,I.base.frzs,I.base.tbls⟩,⟨m,hn.sameBut hs (Ne.symm (cne x c hc)),λj y v' e1 e2 e3=>?_⟩,λy c' e=>?_,I.free,I.freeC,λp hp=>?_,tracked ⟨oc,hoc,I.freeC x c hc⟩ hs,by simpa using I.len⟩ ⟨c,hs,.inr hc⟩
  .exact(hs.2 b (Nat.ne_of_lt (Nat.lt_of_lt_of_le (Heap.lt_size e) (I.ok.cab x c hfn hc)))).trans (I.base.keep b o e n hb hx)
  .obtain⟨sl,e1⟩:=I.base.slot b o e n hb hx
   exact⟨sl,(hs.2 b (Nat.ne_of_lt (Nat.lt_of_lt_of_le (Heap.lt_size e) (I.ok.cab x c hfn hc)))).trans e1⟩
  .obtain⟨o',e1⟩:=I.base.there b o e hx
   exact⟨o',(hs.2 b (Nat.ne_of_lt (Nat.lt_of_lt_of_le (Heap.lt_size e) (I.ok.cab x c hfn hc)))).trans e1⟩
  .by_cases hj:j=i
   .subst hj
    rw[hi] at e1;cases e1
    rw[List.getElem?_set_self hiσ] at e2
    cases e2
    exact⟨u,r,.inr ⟨.inl hk,c,hc,hc'⟩⟩
   .rw[List.getElem?_set_ne (Ne.symm hj)] at e2
    obtain⟨u',r',q⟩:=hl j y v' e1 e2 e3
    refine⟨u',r',?_⟩
    rcases q with q|⟨k,c',e,z'⟩
    .exact .inl q
    .refine .inr ⟨k,c',e,z'.sameBut hs ?_⟩
     rintro rfl
     exact hj (Y9 hN e1 (I.ok.inj _ _ _ e hc ▸ hi))
  .by_cases hcc:c'=c
   .subst hcc;exact⟨_,hc'⟩
   .obtain⟨w2,z2⟩:=I.cell y c' e
    exact⟨w2,z2.sameBut hs hcc⟩
  .obtain⟨e,n,ne,nf,d⟩:=I.pin p hp
   refine⟨(hs.2 p.1 ?_).trans e,n,ne,nf,d⟩
   intro q
   rw[q,hoc] at e
   have q':oc=p.2:=Option.some.inj e
   exact d w' (by rw[<- q'];exact hocd)
theorem ZK{M:Model}{A:Around}{E:Value->Shared->Prop}{i:Nat}{x:Str}{v:V}{u:Value}{Q:Unit->Shared->Prop}(I:Inv X pins σ H s)(hN:X.N.Nodup)(hi:X.N[i]? = some x)(hx:Loc X.env.scope x)(r:zr v u)
  (h:∀s',Inv X pins (σ.set i (some v)) H s'->Q () s') (hf:X.fn x=true∨X.env.scope.names.lookup x=some .local:=by first|exact .inl rfl|exact .inr rfl|assumption):wpAny M A (storeName X.env x u) Q E s :=
 zbl I hN hi hx r (λs' I' _=>h s' I') hf
theorem Inv.call'{s':Shared}{ch:List Addr}(I:Inv X pins σ H s)(ho:s'.os=s.os)(u:Un (frs X.stack) ch H H' s.heap s'.heap)(hok:HOk X.prog X.w H' s'.heap)(hg:AllBare s'.gens)
  (hch:∀b∈ch,(b∈X.ex∨X.s_0.heap.objs.size<=b)/\b≠X.env.locals/\(∀x c,X.env.cells.lookup x=some c->c≠b)/\∀p∈X.pn++pins,p.1≠b):Inv X pins σ H' s':=by
 obtain⟨h',g',d',t',o'⟩:=s'
 have e:o'=s.os:=ho
 subst e
 exact I.call (g':=g') (t':=t') (d':=d') u hok hg hch
end
abbrev XK:=Value->Option Addr->Hp->Prop
abbrev St:=List (Option V)
abbrev VK:=V->Hp->Prop
abbrev TE:=St->Hp->VK->Prop
abbrev TT:=St->Hp->(Bool->Hp->Prop)->Prop
abbrev TA:=St->Hp->(List V->Hp->Prop)->Prop
structure Ends where
 nx:St->Hp->Prop
 rt:VK
 bk:St->Hp->Prop:=λ_ _=>False
 ct:St->Hp->Prop:=λ_ _=>False
abbrev TS:=Ends->St->Hp->Prop
def EP(X:Cx)(pins:List (Addr×Obj))(σ:St)(Q:VK)(u:Value)(s':Shared):Prop:=∃v H',Inv X pins σ H' s'/\zr v u/\Q v H'
def TP(X:Cx)(pins:List (Addr×Obj))(σ:St)(Q:Bool->Hp->Prop)(b:Bool)(s':Shared):Prop:=∃H',Inv X pins σ H' s'/\Q b H'
def AP(X:Cx)(pins:List (Addr×Obj))(σ:St)(Q:List V->Hp->Prop)(us:List Value)(s':Shared):Prop:=∃vs H',Inv X pins σ H' s'/\Vals vs us/\Q vs H'
def SP(X:Cx)(pins:List (Addr×Obj))(D:Ends)(f:Flow)(s':Shared):Prop :=
 match f with
 |.next=>∃σ' H',Inv X pins σ' H' s'/\D.nx σ' H'
 |.brk=>∃σ' H',Inv X pins σ' H' s'/\D.bk σ' H'
 |.cont=>∃σ' H',Inv X pins σ' H' s'/\D.ct σ' H'
 |.ret u=>∃v σ' H',Inv X pins σ' H' s'/\zr v u/\D.rt v H'
def PE(X:Cx)(e:Expr)(t:TE):Prop :=
 ∀(pins:List (Addr×Obj)) (s:Shared) (σ:St) (H:Hp) (Q:VK),Inv X pins σ H s->t σ H Q->wpAny (model X.prog X.w) X.A (eval e X.env) (EP X pins σ Q) X.xe s
def PT(X:Cx)(e:Expr)(t:TT):Prop :=
 ∀(pins:List (Addr×Obj)) (s:Shared) (σ:St) (H:Hp) (Q:Bool->Hp->Prop),Inv X pins σ H s->t σ H Q->wpAny (model X.prog X.w) X.A (isTrue e X.env (eval e X.env)) (TP X pins σ Q) X.xe s
def PW(X:Cx)(e:Expr)(t:TT):Prop :=
 ∀(whole:Sem Value)(pins:List (Addr×Obj)) (s:Shared) (σ:St) (H:Hp) (Q:Bool->Hp->Prop),Inv X pins σ H s->t σ H Q->wpAny (model X.prog X.w) X.A (isTrue e X.env whole) (TP X pins σ Q) X.xe s
theorem PW.pt{X:Cx}{e:Expr}{t:TT}(h:PW X e t):PT X e t:=h _
def PA(X:Cx)(es:List Expr)(t:TA):Prop :=
 ∀(pos:Pos)(pins:List (Addr×Obj)) (s:Shared) (σ:St) (H:Hp) (Q:List V->Hp->Prop),Inv X pins σ H s->t σ H Q->wpAny (model X.prog X.w) X.A (spliced (backTo pos (starEach es X.env))) (AP X pins σ Q) X.xe s
def PS(X:Cx)(st:Stmt)(t:TS):Prop :=
 ∀(pins:List (Addr×Obj)) (s:Shared) (σ:St) (H:Hp) (D:Ends),Inv X pins σ H s->t D σ H->wpAny (model X.prog X.w) X.A (exec st X.env) (SP X pins D) X.xe s
def PSs(X:Cx)(st:List Stmt)(t:TS):Prop :=
 ∀(pins:List (Addr×Obj)) (s:Shared) (σ:St) (H:Hp) (D:Ends),Inv X pins σ H s->t D σ H->wpAny (model X.prog X.w) X.A (execs st X.env) (SP X pins D) X.xe s
theorem thn{α:Type}{t:Sem α}{Q Q':α->Shared->Prop}{M:Model}{A:Around}{E:Value->Shared->Prop}{s:Shared}(h:wpAny M A t Q E s)(hQ:∀a s,Q a s->Q' a s):wpAny M A t Q' E s:=wpAny_mono h hQ λ_ _ x=>x
end L2
namespace L2
open PySem PySem.Spec PyProof.Rows
section
variable{X:Cx}
theorem bin{a b:Expr}{ta tb:TE}(ha:PE X a ta)(hb:PE X b tb){pins:List (Addr×Obj)}{s:Shared}{σ:St}{H:Hp}{R:V->V->Hp->Prop}(I:Inv X pins σ H s)(h:ta σ H λx H1=>tb σ H1 λy H2=>R x y H2)
  {α:Type} {Q:α->Shared->Prop} {f:Value->Value->Sem α}
  (hf:∀v u s2 x y H2,Inv X pins σ H2 s2->zr x v->zr y u->R x y H2->wpAny (model X.prog X.w) X.A (f v u) Q X.xe s2) :
  wpAny (model X.prog X.w) X.A (eval a X.env) (λv s₁=>wpAny (model X.prog X.w) X.A (eval b X.env) (λu s₂=>wpAny (model X.prog X.w) X.A (f v u) Q X.xe s₂) X.xe s₁) X.xe s:=by
 refine thn (ha pins s σ H _ I h) λv s1 ⟨x,H1,I1,r1,q1⟩=>?_
 refine thn (hb pins s1 σ H1 _ I1 q1) λu s2 ⟨y,H2,I2,r2,q2⟩=>?_
 exact hf v u s2 x y H2 I2 r1 r2 q2
def za(i:Nat):TE:=fun σ H Q=>∃v,σ[i]? = some (some v)/\Q v H
def tC(v:V):TE:=λ_ H Q=>Q v H
theorem VM{i:Nat}{x:Str}{pos:Pos}(hN:X.N[i]? = some x)(hv:Vis X.env.scope x)(hd:(x == ("__debug__":Str))=false:=by decide)(hcd:(x == ("__classdict__":Str))=false:=by decide):PE X (.Name x pos) (za i):=by
 intro pins s σ H Q I h
 obtain⟨v,e,h⟩:=h
 obtain⟨m,hn,hl⟩:=I.loc
 obtain⟨u,r,l⟩:=hl i x v hN e hv
 have fin:EP X pins σ Q u s:=⟨v,H,I,r,h⟩
 rcases l with ⟨hk,hm⟩|⟨hk,c,hc,hcell⟩
 .exact wpAny_Name (wpAny_loadName_local I.ok.kind hk hn hm fin) hd
 .rcases hk with hk|hk
  .exact wpAny_Name (wpAny_loadName_cell I.ok.kind hk hc hcell fin) hd
  .exact wpAny_Name (wpAny_loadName_free I.ok.kind hk hc hcell fin hcd) hd
theorem zq{i j pos}:PE X (.Constant (.int i) j pos) (tC (.int i)):=λ_ _ _ H _ I h=>wpAny_Constant_int ⟨.int i,H,I.tok _,⟨_,rfl⟩,h⟩
theorem jq{b j pos}:PE X (.Constant (.bool b) j pos) (tC (.bl b)):=λ_ _ _ H _ I h=>Constant_bool ⟨.bl b,H,I,rfl,h⟩
theorem VO{j pos}:PE X (.Constant .none j pos) (tC .non):=λ_ _ _ H _ I h=>Constant_none ⟨.non,H,I,rfl,h⟩
def Gl(X:Cx)(x:Str):Prop:=X.env.kindOf x=some .globalImplicit
theorem Xm{E:Value->Shared->Prop}{pins:List (Addr×Obj)}{s:Shared}{σ:St}{H:Hp}{x:Str}{u:Value}{pos:Pos}{Q:Value->Shared->Prop}(I:Inv X pins σ H s)(hg:Gl X x)(hm:X.mg x=some u)(h:Q u s)
  (hd:(x == ("__debug__":Str))=false:=by decide):wpAny (model X.prog X.w) X.A (eval (.Name x pos) X.env) Q E s :=
 Calls.Name_function_global I.ok.kind hg (Calls.loadGlobal_global (by rw[I.ok.glob];exact I.mod.glob.keeps I.bk) hm h) hd
theorem jB{E:Value->Shared->Prop}{pins:List (Addr×Obj)}{s:Shared}{σ:St}{H:Hp}{x:Str}{u:Value}{pos:Pos}{Q:Value->Shared->Prop}(I:Inv X pins σ H s)(hg:Gl X x)(hm:X.mg x=none)(hv:bootBuiltins x=some u)(h:Q u s)
  (hn:x≠"__name__":=by decide) (hd:(x == ("__debug__":Str))=false:=by decide):wpAny (model X.prog X.w) X.A (eval (.Name x pos) X.env) Q E s:=by
 obtain⟨mb,h1,h2⟩:=I.mod.blt
 exact Calls.Name_function_global I.ok.kind hg (Calls.loadGlobal_builtin (by rw[I.ok.glob];exact I.mod.glob.keeps I.bk) hm (by rw[I.ok.blt];exact h1.keeps I.bk) ((h2 x hn).trans hv) h) hd
theorem xa{x:Str}{v:V}{u:Value}{pos:Pos}(hg:Gl X x)(hm:X.mg x=some u)(r:zr v u)(hd:(x == ("__debug__":Str))=false:=by decide):PE X (.Name x pos) (tC v) :=
 λ_ _ _ H _ I h=>Xm I hg hm ⟨v,H,I,r,h⟩ hd
variable{a b:Expr}{ta tb:TE}{pos:Pos}
def PC(X:Cx)(op:CmpOp)(a b:Expr)(t:TE):Prop :=
 ∀(pins:List (Addr×Obj)) (s:Shared) (σ:St) (H:Hp) (Q:VK),Inv X pins σ H s->t σ H Q ->
  wpAny (model X.prog X.w) X.A (eval a X.env) (λv s₁=>wpAny (model X.prog X.w) X.A (eval b X.env) (λu s₂=>wpAny (model X.prog X.w) X.A (compareOp op v u) (EP X pins σ Q) X.xe s₂) X.xe s₁) X.xe s
theorem zdp(b:Expr){op:CmpOp}(h:op≠.In)(h2:op≠.NotIn):behindInMarks op b=false:=by
 have e1:(op == CmpOp.In)=false:=by cases op<;>first|rfl|exact absurd rfl h
 have e2:(op == CmpOp.NotIn)=false:=by cases op<;>first|rfl|exact absurd rfl h2
 cases b<;>simp[behindInMarks,e1,e2]
def Wk(ta:TE):TE:=fun σ H Q=>ta σ H λx H1=>Q (.bl (decide (x=.non))) H1
def j0(ta:TE):TE:=fun σ H Q=>ta σ H λx H1=>Q (.bl (!decide (x=.non))) H1
theorem zr.none_iff{x:V}{v:Value}(r:zr x v):(v == Value.none)=decide (x=.non):=by
 cases x with
 |non=>cases r;rfl
 |bl _=>cases r;rfl
 |int _=>obtain⟨t,rfl⟩:=r;rfl
 |str _=>obtain⟨t,rfl⟩:=r;rfl
 |byt _=>obtain⟨t,rfl⟩:=r;rfl
 |flt _=>obtain⟨t,rfl⟩:=r;rfl
 |ref _=>cases r;rfl
 |ty _=>cases r;rfl
theorem zcK{j pos'}(ha:PE X a ta):PC X .Is a (.Constant .none j pos') (Wk ta):=by
 intro pins s σ H Q I h
 refine thn (ha pins s σ H _ I h) λv s1 ⟨x,H1,I1,r1,q1⟩=>?_
 exact Constant_none (is_none_gen ⟨.bl _,H1,I1,by rw[r1.none_iff];rfl,q1⟩)
theorem zcI{j pos'}(ha:PE X a ta):PC X .IsNot a (.Constant .none j pos') (j0 ta):=by
 intro pins s σ H Q I h
 refine thn (ha pins s σ H _ I h) λv s1 ⟨x,H1,I1,r1,q1⟩=>?_
 exact Constant_none (isnot_none_gen ⟨.bl _,H1,I1,by rw[r1.none_iff];rfl,q1⟩)
def tB(t:TE):TT:=fun σ H Q=>t σ H λx H1=>∃c,x=.bl c/\Q c H1
theorem vh{op:CmpOp}{t:TE}(h:PC X op a b t)(h1:behindInMarks op b=false:=by first|exact zdp _ (by decide) (by decide)|rfl):PT X (.Compare a [op] [b] pos) (tB t):=by
 intro pins s σ H Q I hw
 refine wpAny_isTrue_Compare1 (thn (h pins s σ H _ I hw) λv s1 h1=>thn h1 λu s2 h2=>thn h2 λc s3 ⟨x,H1,I1,r1,q1⟩=>?_) h1
 obtain⟨d,rfl,q⟩:=q1
 cases r1
 exact wpAny_truthy_bool ⟨H1,I1,q⟩
theorem wg{e:Expr}{t:TE}(h:PE X e t)(he:∀whole,isTrue e X.env whole=(do let v <- whole;standAt e.pos;holding [v] (truthy v)):=by intro _;rfl):PT X e (tB t):=by
 intro pins s σ H Q I hw
 refine isTrue_plain (thn (h pins s σ H _ I hw) λv s1 ⟨x,H1,I1,r1,q1⟩=>?_) (he _)
 obtain⟨d,rfl,q⟩:=q1
 cases r1
 exact wpAny_truthy_bool ⟨H1,I1,q⟩
variable{tA tB':TT}{rest:List Expr}
def vf(t u:TT):TT:=fun σ H Q=>t σ H λc H1=>if c=true then u σ H1 Q else Q false H1
def tOr(t u:TT):TT:=fun σ H Q=>t σ H λc H1=>if c=true then Q true H1 else u σ H1 Q
def xP(t:TT):TT:=fun σ H Q=>t σ H λc H1=>Q (!c) H1
theorem kc(ha:PT X a tA):PW X (.BoolOp .And [a] pos) tA:=by
 intro wh pins s σ H Q I h
 refine isTrue_and (thn (ha pins s σ H Q I h) λc s1 e=>?_)
 cases c with
 |true=>exact isTrue_and_nil e
 |false=>exact e
theorem zcC(ha:PT X a tA):PW X (.BoolOp .Or [a] pos) tA:=by
 intro wh pins s σ H Q I h
 refine isTrue_or (thn (ha pins s σ H Q I h) λc s1 e=>?_)
 cases c with
 |false=>exact isTrue_or_nil e
 |true=>exact e
theorem ke(ha:PT X a tA)(hb:PW X (.BoolOp .And (b::rest) pos) tB'):PW X (.BoolOp .And (a::b::rest) pos) (vf tA tB'):=by
 intro wh pins s σ H Q I h
 refine isTrue_and (thn (ha pins s σ H _ I h) λc s1 ⟨H1,I1,q1⟩=>?_)
 cases c with
 |true=>exact hb wh pins s1 σ H1 Q I1 q1
 |false=>exact⟨H1,I1,q1⟩
theorem zcD(ha:PT X a tA)(hb:PW X (.BoolOp .Or (b::rest) pos) tB'):PW X (.BoolOp .Or (a::b::rest) pos) (tOr tA tB'):=by
 intro wh pins s σ H Q I h
 refine isTrue_or (thn (ha pins s σ H _ I h) λc s1 ⟨H1,I1,q1⟩=>?_)
 cases c with
 |true=>exact⟨H1,I1,q1⟩
 |false=>exact hb wh pins s1 σ H1 Q I1 q1
theorem vR(ha:PT X a tA):PT X (.UnaryOp .Not a pos) (xP tA):=by
 intro pins s σ H Q I h
 exact isTrue_not (ha pins s σ H (λc H1=>Q (!c) H1) I h)
def j7(ta tb:TE):TE:=fun σ H Q=>ta σ H λx H1=>∃c,x=.bl c/\if c=true then tb σ H1 Q else Q (.bl false) H1
theorem YR{op}{t:TE}(h:PE X a t):PE X (.BoolOp op [a] pos) t:=λpins s σ H Q I hw=>BoolOp_one (h pins s σ H Q I hw)
theorem YV(ha:PE X a ta)(hb:PE X (.BoolOp .And (b::rest) pos) tb):PE X (.BoolOp .And (a::b::rest) pos) (j7 ta tb):=by
 intro pins s σ H Q I h
 refine BoolOp_and (thn (ha pins s σ H _ I h) λv s1 ⟨x,H1,I1,r1,q1⟩=>?_)
 obtain⟨c,rfl,q1⟩:=q1
 cases r1
 refine wpAny_truthy_bool ?_
 cases c with
 |true=>exact hb pins s1 σ H1 Q I1 q1
 |false=>exact⟨.bl false,H1,I1,rfl,q1⟩
def tIf(t:TT)(ta tb:TE):TE:=fun σ H Q=>t σ H λc H1=>if c=true then ta σ H1 Q else tb σ H1 Q
theorem kr{c:Expr}(hc:PT X c tA)(ha:PE X a ta)(hb:PE X b tb):PE X (.IfExp c a b pos) (tIf tA ta tb):=by
 intro pins s σ H Q I h
 refine wpAny_IfExp (thn (hc pins s σ H _ I h) λd s1 ⟨H1,I1,q1⟩=>?_)
 cases d with
 |true=>exact ha pins s1 σ H1 Q I1 q1
 |false=>exact hb pins s1 σ H1 Q I1 q1
end
end L2
namespace L2
open PySem PySem.Spec PyProof.Rows
def SqL(K:PySem.W.Frag)(H:Hp)(a:Addr)(xs:List V):Prop :=
 Rd H a (.lst xs) ∨
  ∃(o:Obj)(its:Array Value)(n:Nat),K.lookup a=some o/\o.cls=.type "list"/\o.dict=none/\o.data=.seq its n/\its.size<=sizeLine/\Vals xs its.toList
def SqT(K:PySem.W.Frag)(H:Hp)(a:Addr)(xs:List V):Prop :=
 Rd H a (.tup xs) ∨
  ∃(o:Obj)(its:Array Value)(n:Nat),K.lookup a=some o/\o.cls=.type "tuple"/\o.data=.seq its n/\its.size<=sizeLine/\Vals xs its.toList
def zgf:Value->Option V
 |.none=>some .non
 |.bool b=>some (.bl b)
 |.int i _=>some (.int i)
 |.str x _=>some (.str x)
 |.bytes b _=>some (.byt b)
 |.float b _=>some (.flt b)
 |.ref a=>some (.ref a)
 |.type n=>some (.ty n)
 |_=>none
theorem zr.abs{x:V}{u:Value}(r:zr x u):zgf u=some x:=by
 cases x with
 |non=>cases r;rfl
 |bl _=>cases r;rfl
 |int _=>obtain⟨t,rfl⟩:=r;rfl
 |str _=>obtain⟨t,rfl⟩:=r;rfl
 |byt _=>obtain⟨t,rfl⟩:=r;rfl
 |flt _=>obtain⟨t,rfl⟩:=r;rfl
 |ref _=>cases r;rfl
 |ty _=>cases r;rfl
theorem zr.inj{x y:V}{u:Value}(r:zr x u)(q:zr y u):x=y:=Option.some.inj (r.abs.symm.trans q.abs)
theorem Vals.inj:∀{xs ys:List V}{us:List Value},Vals xs us->Vals ys us->xs=ys
 |_,_,_,.nil,.nil=>rfl
 |_,_,_,.cons r t,.cons r' t'=>by rw[r.inj r',Vals.inj t t']
section
variable{X:Cx}{pins:List (Addr×Obj)}{σ:St}{H:Hp}{s:Shared}{a:Addr}{xs ys:List V}
theorem SqL.of{K:PySem.W.Frag}(h:H a=some (.lst xs)):SqL K H a xs:=.inl (.inl h)
theorem SqT.of{K:PySem.W.Frag}(h:H a=some (.tup xs)):SqT K H a xs:=.inl (.inl h)
theorem Inv.list(I:Inv X pins σ H s)(h:SqL X.K H a xs):∃its:List Value,Vals xs its/\PlainL s.heap a its.toArray/\xs.length<=sizeLine:=by
 rcases h with h|⟨o,its,n,hk,hc,hd,hs,hz,r⟩
 .obtain⟨z,its,n,r,e⟩:=h.ok I.hok
  exact⟨its,r,⟨_,n,e,rfl,rfl,rfl⟩,z⟩
 .refine⟨its.toList,r,⟨o,n,I.kIn a o hk,hc,hd,by simpa using hs⟩,?_⟩
  have e:=r.length
  simp only[Array.length_toList] at e
  omega
theorem Inv.tuple(I:Inv X pins σ H s)(h:SqT X.K H a xs):∃its:List Value,Vals xs its/\IsTup s.heap a its.toArray/\xs.length<=sizeLine:=by
 rcases h with h|⟨o,its,n,hk,hc,hs,hz,r⟩
 .obtain⟨z,its,r,p⟩:=h.ok I.hok
  exact⟨its,r,p,z⟩
 .refine⟨its.toList,r,⟨o,I.kIn a o hk,hc,n,by simpa using hs⟩,?_⟩
  have e:=r.length
  simp only[Array.length_toList] at e
  omega
theorem Inv.list_inj(I:Inv X pins σ H s)(h:SqL X.K H a xs)(h':SqL X.K H a ys):xs=ys:=by
 obtain⟨its,r,⟨o,n,e,_,_,d⟩,_⟩:=I.list h
 obtain⟨its',r',⟨o',n',e',_,_,d'⟩,_⟩:=I.list h'
 rw[e] at e';cases e'
 rw[d] at d'
 injection d' with d1 _
 have:its=its':=by simpa using congrArg Array.toList d1
 subst this
 exact r.inj r'
end
abbrev Cx.wish(X:Cx)(E:Value->Shared->Prop):Cx:={ X with xe:=E }
abbrev Cx.nox(X:Cx):Cx:=X.wish λ_ _=>False
theorem Cx.Ok.wish{X:Cx}(ok:X.Ok)(E:Value->Shared->Prop):(X.wish E).Ok :=
 ⟨ok.mod,ok.kind,ok.glob,ok.blt,ok.above,ok.inj,ok.has,ok.cab,ok.hd,ok.frames,ok.stk,ok.exf,ok.bs,ok.bsz,ok.noex,ok.exfs,ok.funs,ok.frf⟩
theorem Cx.Ok.unwish{X:Cx}{E:Value->Shared->Prop}(ok:(X.wish E).Ok):X.Ok :=
 ⟨ok.mod,ok.kind,ok.glob,ok.blt,ok.above,ok.inj,ok.has,ok.cab,ok.hd,ok.frames,ok.stk,ok.exf,ok.bs,ok.bsz,ok.noex,ok.exfs,ok.funs,ok.frf⟩
section
variable{X:Cx}{pins:List (Addr×Obj)}{σ:St}{H:Hp}{s:Shared}{E:Value->Shared->Prop}
theorem Inv.wish(I:Inv X pins σ H s)(E:Value->Shared->Prop):Inv (X.wish E) pins σ H s:=⟨I.ok.wish E,I.os,I.bare,I.base,I.loc,I.cell,I.free,I.freeC,I.pin,I.hok,I.len⟩
theorem Inv.unwish(I:Inv (X.wish E) pins σ H s):Inv X pins σ H s:=⟨I.ok.unwish,I.os,I.bare,I.base,I.loc,I.cell,I.free,I.freeC,I.pin,I.hok,I.len⟩
theorem SP.unwish{D:Ends}{f:Flow}{s':Shared}(h:SP (X.wish E) pins D f s'):SP X pins D f s':=by
 cases f with
 |next=>obtain⟨σ',H',I,q⟩:=h;exact⟨σ',H',I.unwish,q⟩
 |brk=>obtain⟨σ',H',I,q⟩:=h;exact⟨σ',H',I.unwish,q⟩
 |cont=>obtain⟨σ',H',I,q⟩:=h;exact⟨σ',H',I.unwish,q⟩
 |ret u=>obtain⟨v,σ',H',I,r,q⟩:=h;exact⟨v,σ',H',I.unwish,r,q⟩
theorem PSs.nox{st:List Stmt}{t:TS}(h:PSs X.nox st t):PSs X st t:=λpins s σ H D I hw=>
 wpAny_mono (h pins s σ H D (I.wish _) hw) (λ_ _ q=>q.unwish) λ_ _ z=>False.elim z
end
section
variable{X:Cx}{st:Stmt}{rest:List Stmt}{t u:TS}{e:Expr}{te:TE}{pos:Pos}
def z7:TS:=λD σ H=>D.nx σ H
def zg(t u:TS):TS:=λD σ H=>t { D with nx:=u D } σ H
theorem yx:PSs X [] z7:=λ_ _ σ H _ I h=>wpAny_execs_nil ⟨σ,H,I,h⟩
theorem zk(h1:PS X st t)(h2:PSs X rest u):PSs X (st::rest) (zg t u):=by
 intro pins s σ H D I h
 refine wpAny_execs_cons (thn (h1 pins s σ H { D with nx:=u D } I h) λf s1 q=>?_)
 cases f with
 |next=>
  obtain⟨σ',H',I',q⟩:=q
  exact h2 pins s1 σ' H' D I' q
 |ret v=>exact q
 |brk=>exact q
 |cont=>exact q
theorem zo(h1:PS X st t):PSs X [st] t:=by
 intro pins s σ H D I h
 refine wpAny_execs_cons (thn (h1 pins s σ H D I h) λf s1 q=>?_)
 cases f with
 |next=>exact wpAny_execs_nil q
 |ret v=>exact q
 |brk=>exact q
 |cont=>exact q
theorem Inv.quiet{pins:List (Addr×Obj)}{σ:St}{H:Hp}{s:Shared}(I:Inv X pins σ H s):interactive X.env=false:=by simp[interactive,I.ok.kind]
def yr(te:TE):TS:=λD σ H=>te σ H λ_ H1=>D.nx σ H1
theorem yG(he:PE X e te)(hs:swapsWith e none pos.line X.env=pure false:=by rfl):PS X (.Expr e pos) (yr te):=by
 intro pins s σ H D I h
 exact wpAny_Expr_any (thn (he pins s σ H _ I h) λv s1 ⟨x,H1,I1,r1,q1⟩=>⟨σ,H1,I1,q1⟩) I.quiet hs
def zE(te:TE):TS:=λD σ H=>te σ H D.rt
theorem zL(he:PE X e te):PS X (.Return (some e) pos) (zE te):=by
 intro pins s σ H D I h
 exact wpAny_Return_some (thn (he pins s σ H _ I h) λv s1 ⟨x,H1,I1,r1,q1⟩=>⟨x,σ,H1,I1,r1,q1⟩)
def zY(c:TT)(t u:TS):TS:=λD σ H=>c σ H λb H1=>if b=true then t D σ H1 else u D σ H1
theorem yq{c:Expr}{a b:List Stmt}{tc:TT}(hc:PT X c tc)(ha:PSs X a t)(hb:PSs X b u):PS X (.If c a b pos) (zY tc t u):=by
 intro pins s σ H D I h
 refine wpAny_If (thn (hc pins s σ H _ I h) λd s1 ⟨H1,I1,q1⟩=>?_)
 cases d with
 |true=>exact ha pins s1 σ H1 D I1 q1
 |false=>exact hb pins s1 σ H1 D I1 q1
end
abbrev TG:=V->St->Hp->(St->Hp->Prop)->Prop
abbrev TGs:=List V->St->Hp->(St->Hp->Prop)->Prop
def PG(X:Cx)(target:Expr)(t:TG):Prop :=
 ∀(pins:List (Addr×Obj)) (s:Shared) (σ:St) (H:Hp) (v:V) (u:Value) (Q:St->Hp->Prop),Inv X pins σ H s->zr v u->t v σ H Q ->
  wpAny (model X.prog X.w) X.A (assign target X.env u) (λ_ s'=>∃σ' H',Inv X pins σ' H' s'/\Q σ' H') X.xe s
def PGs(X:Cx)(ts:List Expr)(t:TGs):Prop :=
 ∀(pins:List (Addr×Obj)) (s:Shared) (σ:St) (H:Hp) (vs:List V) (us:List Value) (Q:St->Hp->Prop),Inv X pins σ H s->Vals vs us->t vs σ H Q ->
  wpAny (model X.prog X.w) X.A (assignInOrder ((assignEach ts X.env).map (·.2)) us) (λ_ s'=>∃σ' H',Inv X pins σ' H' s'/\Q σ' H') X.xe s
abbrev TSet:=V->V->V->Hp->(Hp->Prop)->Prop
def PSet(X:Cx)(t:TSet):Prop :=
 ∀(pins:List (Addr×Obj)) (s:Shared) (σ:St) (H:Hp) (o i v:V) (ov iv u:Value) (Q:Hp->Prop),Inv X pins σ H s->zr o ov->zr i iv->zr v u->t o i v H Q ->
  wpAny (model X.prog X.w) X.A (setItem ov iv u) (λ_ s'=>∃H',Inv X pins σ H' s'/\Q H') X.xe s
abbrev TIp:=V->V->Hp->VK->Prop
def PIp(X:Cx)(op:Operator)(t:TIp):Prop :=
 ∀(pins:List (Addr×Obj)) (s:Shared) (σ:St) (H:Hp) (x y:V) (v u:Value) (Q:VK),Inv X pins σ H s->zr x v->zr y u->t x y H Q ->
  wpAny (model X.prog X.w) X.A (inplaceOp op v u) (EP X pins σ Q) X.xe s
section
variable{X:Cx}{pos:Pos}
def zl(i:Nat):TG:=λv σ H Q=>Q (σ.set i (some v)) H
theorem ym{i:Nat}{x:Str}(hN:X.N.Nodup)(hi:X.N[i]? = some x)(hx:Loc X.env.scope x)(hf:X.fn x=true∨X.env.scope.names.lookup x=some .local:=by first|exact .inl rfl|exact .inr rfl|assumption):PG X (.Name x pos) (zl i):=by
 intro pins s σ H v u Q I r h
 exact wpAny_assign_Name (ZK I hN hi hx r (λs' I'=>⟨_,H,I',h⟩) hf)
def XE:TGs:=λvs σ H Q=>vs=[]/\Q σ H
def jI(t:TG)(u:TGs):TGs:=λvs σ H Q=>∃v r,vs=v::r/\t v σ H fun σ' H'=>u r σ' H' Q
theorem VJ:PGs X [] XE:=by
 intro pins s σ H vs us Q I r h
 obtain⟨e,h⟩:=h
 subst e
 cases r
 exact assignInOrder_nil ⟨σ,H,I,h⟩
theorem kq{e:Expr}{es:List Expr}{t:TG}{u:TGs}(h1:PG X e t)(h2:PGs X es u)
  (hs:(assignEach (e::es) X.env).map (·.2)=assign e X.env::(assignEach es X.env).map (·.2):=by rfl):PGs X (e::es) (jI t u):=by
 intro pins s σ H vs us Q I r h
 obtain⟨v,vr,e1,h⟩:=h
 subst e1
 cases r with
 |cons r rr=>
  rw[hs]
  refine assignInOrder_cons (thn (h1 pins s σ H _ _ _ I r h) λ_ s1 ⟨σ1,H1,I1,q1⟩=>?_)
  exact h2 pins s1 σ1 H1 _ _ Q I1 rr q1
def XD(K:PySem.W.Frag)(n:Nat)(t:TGs):TG:=λv σ H Q=>∃a xs,v=.ref a/\SqT K H a xs/\xs.length=n/\t xs σ H Q
theorem VL{es:List Expr}{k:Nat}{t:TGs}{n:Nat}(hc:X.calm=true)(h:PGs X es t)
  (hn:(assignEach es X.env).length=n:=by rfl) (hst:(assignEach es X.env).findIdx? (·.1)=none:=by rfl):PG X (.Tuple es k pos) (XD X.K n t):=by
 intro pins s σ H v u Q I r hw
 obtain⟨a,xs,e1,hq,hl,hw⟩:=hw
 subst e1
 cases r
 obtain⟨its,rv,ht,hz⟩:=I.tuple hq
 refine assign_Tuple_tuple (I.ok.hd hc) ht (by simp[hn,<- hl,rv.length]) hst λh' hx=>?_
 have I1:Inv X pins σ H { s with heap:=h' }:=I.kept (t':=s.toks) λb o e=>hx b o (Nat.ne_of_lt (Heap.lt_size e)) e
 exact h pins _ σ H xs _ Q I1 (by simpa using rv) hw
def wL(to ti:TE)(t:TSet):TG:=λv σ H Q=>to σ H λo H1=>ti σ H1 λi H2=>t o i v H2 λH3=>Q σ H3
theorem wT{o i:Expr}{to ti:TE}{t:TSet}(ho:PE X o to)(hi:PE X i ti)(hs:PSet X t)
  (ha:∀v,assign (.Subscript o i pos) X.env v=(do
   let ov <- holding [v] (eval o X.env)
   let iv <- holding [v,ov] (eval i X.env)
   standAt pos
   holding [v,ov,iv] (setItem ov iv v)
   release [v,ov,iv] []):=by intro _;rfl):PG X (.Subscript o i pos) (wL to ti t):=by
 intro pins s σ H v u Q I r h
 rw[ha]
 refine wpAny_bind (wpAny_holding (thn (ho pins s σ H _ I h) λov s1 ⟨x,H1,I1,r1,q1⟩=>?_))
 refine wpAny_bind (wpAny_holding (thn (hi pins s1 σ H1 _ I1 q1) λiv s2 ⟨y,H2,I2,r2,q2⟩=>?_))
 refine wpAny_bind (wpAny_standAt (wpAny_bind (wpAny_holding (thn (hs pins s2 σ H2 x y v ov iv u _ I2 r1 r2 r q2) λ_ s3 ⟨H3,I3,q3⟩=>?_))))
 exact wpAny_release ⟨σ,H3,I3,q3⟩
def zn(te:TE)(g:TG):TS:=λD σ H=>te σ H λx H1=>g x σ H1 D.nx
theorem wS{tg e:Expr}{te:TE}{g:TG}(he:PE X e te)(hg:PG X tg g)(hs:swapsWithSole [tg] e pos.line X.env=pure false:=by rfl)(hw:swappedStores [tg] e X.env=pure none:=by rfl)
  (h1:(assignEach [tg] X.env).map (·.2)=[assign tg X.env]:=by rfl):PS X (.Assign [tg] e pos) (zn te g):=by
 intro pins s σ H D I h
 refine wpAny_Assign_stores (thn (he pins s σ H _ I h) λv s1 ⟨x,H1,I1,r1,q1⟩=>?_) hs hw
 rw[h1]
 exact thn (hg pins s1 σ H1 x v _ I1 r1 q1) λ_ s2 q=>q
theorem zz{i:Nat}{x:Str}{e:Expr}{te:TE}{pos':Pos}(hN:X.N.Nodup)(hi:X.N[i]? = some x)(hx:Loc X.env.scope x)(he:PE X e te)(hs:swapsWith e (some (.Name x pos')) pos.line X.env=pure false:=by rfl)(hf:X.fn x=true∨X.env.scope.names.lookup x=some .local:=by first|exact .inl rfl|exact .inr rfl|assumption) :
  PS X (.Assign [.Name x pos'] e pos) (zn te (zl i)):=by
 intro pins s σ H D I h
 refine wpAny_Assign_Name (thn (he pins s σ H _ I h) λv s1 ⟨y,H1,I1,r1,q1⟩=>?_) hs
 exact ZK I1 hN hi hx r1 (λs2 I2=>⟨_,H1,I2,q1⟩) hf
def xQ(i:Nat)(te:TE)(ti:TIp):TS:=λD σ H=>∃x,σ[i]? = some (some x)/\te σ H λy H1=>ti x y H1 λz H2=>D.nx (σ.set i (some z)) H2
theorem wj{i:Nat}{x:Str}{e:Expr}{te:TE}{op:Operator}{ti:TIp}{pos':Pos}(hN:X.N.Nodup)(hi:X.N[i]? = some x)(hx:Loc X.env.scope x)(he:PE X e te)(ho:PIp X op ti)(hf:X.fn x=true∨X.env.scope.names.lookup x=some .local:=by first|exact .inl rfl|exact .inr rfl|assumption) :
  PS X (.AugAssign (.Name x pos') op e pos) (xQ i te ti):=by
 intro pins s σ H D I h
 obtain⟨v,e1,h⟩:=h
 obtain⟨m,hn,hl⟩:=I.loc
 have vis:Vis X.env.scope x:=by rcases hx with k|k;exact .inl k;exact .inr (.inl k)
 obtain⟨u,r,l⟩:=hl i x v hi e1 vis
 refine wpAny_AugAssign_Name ?_
 have go:wpAny (model X.prog X.w) X.A (eval e X.env) (λw s₂=>wpAny (model X.prog X.w) X.A (inplaceOp op u w) (λr s₃=>wpAny (model X.prog X.w) X.A (storeName X.env x r) (λ_=>SP X pins D .next) X.xe s₃) X.xe s₂) X.xe s:=by
  refine thn (he pins s σ H _ I h) λw s1 ⟨y,H1,I1,r1,q1⟩=>?_
  refine thn (ho pins s1 σ H1 v y u w _ I1 r r1 q1) λz s2 ⟨zv,H2,I2,r2,q2⟩=>?_
  exact ZK I2 hN hi hx r2 (λs3 I3=>⟨_,H2,I3,q2⟩) hf
 rcases l with ⟨hk,hm⟩|⟨hk,c,hc,hcell⟩
 .exact wpAny_loadName_local I.ok.kind hk hn hm go
 .rcases hk with hk|hk
  .exact wpAny_loadName_cell I.ok.kind hk hc hcell go
  .rcases hx with k|k
   .have:X.env.scope.names.lookup x=some .free:=hk
    rw[k] at this;cases this
   .have:X.env.scope.names.lookup x=some .free:=hk
    rw[k] at this;cases this
def ZF(to ti te:TE)(tget:V->V->Hp->VK->Prop)(tip:TIp)(tset:TSet):TS:=λD σ H=>to σ H λo H1=>ti σ H1 λi H2=>tget o i H2 λx H3=>te σ H3 λy H4=>tip x y H4 λz H5=>tset o i z H5 λH6=>D.nx σ H6
def PGet(X:Cx)(t:V->V->Hp->VK->Prop):Prop :=
 ∀(pins:List (Addr×Obj)) (s:Shared) (σ:St) (H:Hp) (o i:V) (ov iv:Value) (Q:VK),Inv X pins σ H s->zr o ov->zr i iv->t o i H Q ->
  wpAny (model X.prog X.w) X.A (getItem ov iv) (EP X pins σ Q) X.xe s
theorem zcE{o i e:Expr}{to ti te:TE}{tget:V->V->Hp->VK->Prop}{tip:TIp}{tset:TSet}{op:Operator}{tpos:Pos}(ho:PE X o to)(hi:PE X i ti)(hg:PGet X tget)(he:PE X e te)(hp:PIp X op tip)(hs:PSet X tset)
  (ha:∀ov iv new,augStore i ov iv new=(do holding [new,ov,iv] (setItem ov iv new);release [new,ov,iv] [];pure .next):=by intros;rfl):PS X (.AugAssign (.Subscript o i tpos) op e pos) (ZF to ti te tget tip tset):=by
 intro pins s σ H D I h
 refine wpAny_AugAssign_SubscriptAny (thn (ho pins s σ H _ I h) λov s1 ⟨x1,H1,I1,r1,q1⟩=>?_) ha
 refine thn (hi pins s1 σ H1 _ I1 q1) λiv s2 ⟨x2,H2,I2,r2,q2⟩=>?_
 refine thn (hg pins s2 σ H2 x1 x2 ov iv _ I2 r1 r2 q2) λold s3 ⟨x3,H3,I3,r3,q3⟩=>?_
 refine thn (he pins s3 σ H3 _ I3 q3) λv s4 ⟨x4,H4,I4,r4,q4⟩=>?_
 refine thn (hp pins s4 σ H4 x3 x4 old v _ I4 r3 r4 q4) λnew s5 ⟨x5,H5,I5,r5,q5⟩=>?_
 exact thn (hs pins s5 σ H5 x1 x2 x5 ov iv new _ I5 r1 r2 r5 q5) λ_ s6 ⟨H6,I6,q6⟩=>⟨σ,H6,I6,q6⟩
def ipI(f:Int->Int->Int):TIp:=λx y H Q=>∃i j,x=.int i/\y=.int j/\Q (.int (f i j)) H
theorem uK:PIp X .Add (ipI λi j=>i+j):=by
 intro pins s σ H x y v u Q I r1 r2 h
 obtain⟨i,j,e1,e2,q⟩:=h
 subst e1;subst e2
 obtain⟨t,rfl⟩:=r1
 obtain⟨t',rfl⟩:=r2
 exact iadd_int ⟨.int _,H,I.tok _,⟨_,rfl⟩,q⟩
theorem zeo:PIp X .Sub (ipI λi j=>i-j):=by
 intro pins s σ H x y v u Q I r1 r2 h
 obtain⟨i,j,e1,e2,q⟩:=h
 subst e1;subst e2
 obtain⟨t,rfl⟩:=r1
 obtain⟨t',rfl⟩:=r2
 exact isub_int ⟨.int _,H,I.tok _,⟨_,rfl⟩,q⟩
end
section
variable{X:Cx}{pos:Pos}
def wa(c:TT)(tb:TS):TS:=λD σ H=>∃W:Nat->St->Hp->Prop,(∃m,W m σ H)/\∀m σ H,W m σ H ->
 c σ H λb H1=>if b=true then ∃N:St->Hp->Prop,(∀σ' H',N σ' H'->∃m',m'<m/\W m' σ' H')/\tb { D with nx:=N,ct:=N,bk:=D.nx } σ H1 else D.nx σ H1
theorem vS{c:Expr}{body:List Stmt}{tc:TT}{tb:TS}(hp:PassesOwn (model X.prog X.w) X.A X.env X.xe)(hc:PT X c tc)(hb:PSs X body tb):PS X (.While c body [] pos) (wa tc tb):=by
 intro pins s σ H D I h
 obtain⟨W,⟨m0,w0⟩,turn⟩:=h
 refine wpAny_While (codeAny_whileLoop (λn s'=>∃σ' H',Inv X pins σ' H' s'/\W n σ' H') ?_ m0 ⟨σ,H,I,w0⟩)
 rintro n s1 ⟨σ1,H1,I1,w1⟩
 refine wpAny_passesOwn hp (thn (hc pins s1 σ1 H1 _ I1 (turn n σ1 H1 w1)) λb s2 ⟨H2,I2,q2⟩=>?_)
 cases b with
 |true=>
  obtain⟨N,hN,q2⟩:=q2
  rw[if_pos rfl]
  refine wpAny_passesOwn hp (thn (hb pins s2 σ1 H2 _ I2 q2) λf s3 q3=>?_)
  cases f with
  |next=>
   obtain⟨σ3,H3,I3,n3⟩:=q3
   obtain⟨m',hm,w3⟩:=hN σ3 H3 n3
   exact⟨m',hm,σ3,H3,I3,w3⟩
  |cont=>
   obtain⟨σ3,H3,I3,n3⟩:=q3
   obtain⟨m',hm,w3⟩:=hN σ3 H3 n3
   exact⟨m',hm,σ3,H3,I3,w3⟩
  |brk=>exact q3
  |ret v=>exact q3
 |false=>
  rw[if_neg Bool.false_ne_true]
  exact wpAny_execs_nil ⟨σ1,H2,I2,q2⟩
end
structure It where
 go:Nat->Hp->Prop
 yld:Nat->Hp->V->Hp->Prop
 stop:Nat->Hp->Prop
def wz(X:Cx)(pins:List (Addr×Obj))(H:Hp)(b:Addr):Prop :=
 H b=none/\b≠X.env.locals/\b∉X.fs/\(b∈X.ex∨X.s_0.heap.objs.size<=b)/\(∀x c,X.env.cells.lookup x=some c->c≠b)/\∀p∈X.pn++pins,p.1≠b
theorem Inv.fpOk{X:Cx}{pins:List (Addr×Obj)}{σ:St}{H H':Hp}{s:Shared}{b:Addr}(I:Inv X pins σ H s)(hb:s.heap.objs.size<=b)(hn:H' b=none):wz X pins H' b:=by
 refine⟨hn,Nat.ne_of_gt (Nat.lt_of_lt_of_le I.lt hb),I.nofs hb,.inr (Nat.le_trans I.sz hb),λx c e z=>?_,λp hp z=>?_⟩
 .obtain⟨v,q⟩:=I.cell x c e
  exact absurd (Nat.lt_of_lt_of_le q.lt (by rw[z];exact hb)) (Nat.lt_irrefl _)
 .exact absurd (Nat.lt_of_lt_of_le (Heap.lt_size (I.pin p hp).1) (by rw[z];exact hb)) (Nat.lt_irrefl _)
structure Turn(P:Program)(w:World)(K:PySem.W.Frag)(tg:Expr)(J:It)(fp:List Addr)(it:Addr)(tn:Nat->Heap->Prop):Prop where
 mem:it∈fp
 obj:∀i h,tn i h->∀b∈fp,∃o,h.get? b=some o/\∀v,o.data≠.cell v
 keep:∀i h h',tn i h->(∀b∈fp,∀o,h.get? b=some o->h'.get? b=some o)->tn i h'
 item:∀(X:Cx),X.prog=P->X.w=w->X.K=K->X.calm=true->∀(i:Nat)(pins:List (Addr×Obj)) (s:Shared) (σ:St) (H:Hp) (E:Value->Shared->Prop),Inv X pins σ H s->(∀b∈fp,wz X pins H b)->tn i s.heap->J.go i H ->
  wpAny (model P w) X.A (pyNext (.ref it)) (λr s1=>∃u,r=some u /\
   wpAny (model P w) X.A (letOwnedTupleGo tg (.ref it) u) (λ_ s2=>∃x H',Inv X pins σ H' s2/\zr x u/\J.yld i H x H'/\tn (i+1) s2.heap/\∀b∈fp,H' b=none) E s1) E s
 done:∀(X:Cx),X.prog=P->X.w=w->X.K=K->X.calm=true->∀(i:Nat)(pins:List (Addr×Obj)) (s:Shared) (σ:St) (H:Hp) (E:Value->Shared->Prop),Inv X pins σ H s->(∀b∈fp,wz X pins H b)->tn i s.heap->J.stop i H ->
  wpAny (model P w) X.A (pyNext (.ref it)) (λr s1=>r=none/\Inv X pins σ H s1) E s
 self:∀(A:Around)(i:Nat)(s:Shared)(Q:Value->Shared->Prop)(E:Value->Shared->Prop),tn i s.heap->Q (.ref it) s->wpAny (model P w) A (pyIter (.ref it)) Q E s
abbrev TI:=St->Hp->(It->Hp->Prop)->Prop
def PIE(X:Cx)(pins:List (Addr×Obj))(σ:St)(tg:Expr)(R:It->Hp->Prop)(itv:Value)(s2:Shared):Prop :=
 ∃(it:Addr)(fp:List Addr)(tn:Nat->Heap->Prop)(J:It)(H':Hp),itv=.ref it/\Inv X pins σ H' s2/\Turn X.prog X.w X.K tg J fp it tn/\tn 0 s2.heap/\(∀b∈fp,wz X pins H' b)/\R J H'
def PI(X:Cx)(tg iter:Expr)(wi:TI):Prop :=
 ∀(pins:List (Addr×Obj)) (s:Shared) (σ:St) (H:Hp) (R:It->Hp->Prop),Inv X pins σ H s->wi σ H R ->
  wpAny (model X.prog X.w) X.A (eval iter X.env) (λv s1=>wpAny (model X.prog X.w) X.A (pyIter v) (PIE X pins σ tg R) X.xe s1) X.xe s
theorem jH{M:Model}{A:Around}{E:Value->Shared->Prop}{s:Shared}{tg:Expr}{it:Addr}{u:Value}{o:Obj}{n:String}{vs:Array Value}{Q:Unit->Shared->Prop}(ho:s.heap.get? it=some o)(hc:o.cls=.type n)(hd:o.data=.fields vs)
  (hn:["enumerate","zip","dict_itemiterator","dict_reverseitemiterator","odict_iterator","itertools.zip_longest","itertools.pairwise"].contains n=false) (hQ:Q () s):wpAny M A (letOwnedTupleGo tg (.ref it) u) Q E s:=by
 unfold letOwnedTupleGo
 cases tg<;>first
  |exact wpAny_pure hQ
  |(cases u<;>first
    |exact wpAny_pure hQ
    |(refine wpAny_bind (wpAny_load ho ?_)
      rw[hc,hd]
      show wpAny M A (if (["enumerate","zip","dict_itemiterator","dict_reverseitemiterator","odict_iterator","itertools.zip_longest","itertools.pairwise"].contains n && vs[0]? == some (rawInt _))=true then _ else _) Q E s
      rw[if_neg (by intro h;rw[hn,Bool.false_and] at h;cases h)]
      exact wpAny_pure hQ))
def Itl(K:PySem.W.Frag)(a:Addr):It :=
 ⟨λi H=>∃xs x,SqL K H a xs/\xs[i]? = some x,λi H x H'=>H'=H/\∀xs,SqL K H a xs->xs[i]? = some x,λi H=>∃xs,SqL K H a xs/\xs.length<=i⟩
def Itr(lo:Int)(n:Nat):It:=⟨λi _=>i<n,λi H x H'=>H'=H/\x=.int (lo+i),λi _=>n<=i⟩
theorem zak{P:Program}{w:World}{K:PySem.W.Frag}{tg:Expr}(a it:Addr):Turn P w K tg (Itl K a) [it] it (λi h=>h.IsListIter it a i) where
 mem:=by simp
 obj:=λi h st b hb=>by
  have e:b=it:=by simpa using hb
  subst e
  obtain⟨o,e,c,d⟩:=st
  exact⟨o,e,λv z=>by rw[d] at z;cases z⟩
 keep:=λi h h' st k=>st.at λo e=>k it (by simp) o e
 item:=by
  intro X hP hw hK hc i pins s σ H E I hf st hg
  subst hP hw hK
  obtain⟨xs,x,hq,hx⟩:=hg
  obtain⟨its,rv,p,hz⟩:=I.list hq
  obtain⟨u,hu,ru⟩:=rv.get hx
  obtain⟨f0,f1,f2,f3,f4,f5⟩:=hf it (by simp)
  refine wpAny_pyNext_list_item st p.isList (x:=u) (by simpa using hu) λh' st' sb=>?_
  have I1:Inv X pins σ H { s with heap:=h' }:=I.turned (t':=s.toks) (λb o hb e=>(sb.2 b hb).trans e) f0 f1 f3 f4 f5
  obtain⟨o,e,c,d⟩:=id st'
  exact⟨u,rfl,jH (s:={ s with heap:=h' }) e c d (by decide) ⟨x,H,I1,ru,⟨rfl,λys hy=>by rw[I.list_inj hy hq];exact hx⟩,st',λb hb=>(hf b hb).1⟩⟩
 done:=by
  intro X hP hw hK hc i pins s σ H E I hf st hg
  subst hP hw hK
  obtain⟨xs,hq,hx⟩:=hg
  obtain⟨its,rv,p,hz⟩:=I.list hq
  obtain⟨f0,f1,f2,f3,f4,f5⟩:=hf it (by simp)
  have hl:=rv.length
  exact wpAny_pyNext_list_end (I.ok.hd hc) st p.isList (by simp;omega) λh' eb=>⟨rfl,I.turned (t':=s.toks) (λb o hb e=>eb b o hb e) f0 f1 f3 f4 f5⟩
 self:=λ_ _ _ _ _ st h=>wpAny_pyIter_listiter st h
theorem zaj{P:Program}{w:World}{K:PySem.W.Frag}{tg:Expr}(it:Addr)(lo:Int)(n:Nat):Turn P w K tg (Itr lo n) [it] it (λi h=>IsRangeIter h it (lo+(i:Nat)*1) ((n:Int)-(i:Nat)) 1) where
 mem:=by simp
 obj:=λi h st b hb=>by
  have e:b=it:=by simpa using hb
  subst e
  exact⟨_,st,λv z=>by
   have z':Data.fields _=Data.cell v:=z
   cases z'⟩
 keep:=λi h h' st k=>k it (by simp) _ st
 item:=by
  intro X hP hw hK hc i pins s σ H E I hf st hg
  subst hP hw hK
  obtain⟨f0,f1,f2,f3,f4,f5⟩:=hf it (by simp)
  have W:=Walks.range (prog:=X.prog) (w:=X.w) (I.ok.hd hc) it lo 1 n
  refine W.item i s _ _ hg st λv h' tk hv st' kk=>?_
  obtain⟨t,rfl⟩:=hv
  have I1:Inv X pins σ H { s with heap:=h',toks:=tk }:=I.turned (λb o hb e=>kk b o (by simpa using hb) e) f0 f1 f3 f4 f5
  refine⟨_,rfl,jH (s:={ s with heap:=h',toks:=tk }) (n:="range_iterator") st' rfl rfl (by decide) ⟨.int (lo+i),H,I1,⟨t,?_⟩,⟨rfl,rfl⟩,st',λb hb=>(hf b hb).1⟩⟩
  rw[Int.mul_one]
 done:=by
  intro X hP hw hK hc i pins s σ H E I hf st hg
  subst hP hw hK
  obtain⟨f0,f1,f2,f3,f4,f5⟩:=hf it (by simp)
  exact wpAny_pyNext_range_end (I.ok.hd hc) st (by have:n<=i:=hg;omega) λh' eb=>⟨rfl,I.turned (t':=s.toks) (λb o hb e=>eb b o hb e) f0 f1 f3 f4 f5⟩
 self:=λ_ _ _ _ _ st h=>wpAny_pyIter_rangeiter st h
end L2
namespace L2
open PySem PySem.Spec PyProof.Rows
section
variable{X:Cx}{tg:Expr}
def yT(K:PySem.W.Frag)(tl:TE):TI:=fun σ H R=>tl σ H λx H1=>∃a,x=.ref a/\(∃xs,SqL K H1 a xs)/\R (Itl K a) H1
theorem yZ{l:Expr}{tl:TE}(hl:PE X l tl):PI X tg l (yT X.K tl):=by
 intro pins s σ H R I h
 refine thn (hl pins s σ H _ I h) λv s1 ⟨x,H1,I1,r1,q1⟩=>?_
 obtain⟨a,e,⟨xs,hq⟩,q⟩:=q1
 subst e
 cases r1
 obtain⟨its,rv,p,hz⟩:=I1.list hq
 refine wpAny_pyIter_list p.isList ?_
 refine⟨s1.heap.objs.size,[s1.heap.objs.size],_,_,H1,rfl,I1.kept (t':=s1.toks) λb o e=>Heap.get?_push_of_some _ e,zak a _,⟨_,Heap.get?_push_size _ rfl,rfl,rfl⟩,λb hb=>?_,q⟩
 have e:b=s1.heap.objs.size:=by simpa using hb
 subst e
 exact I1.fpOk (Nat.le_refl _) (I1.hok.fresh (Nat.le_refl _))
theorem zbJ{pins:List (Addr×Obj)}{σ:St}{H:Hp}{s:Shared}{R:It->Hp->Prop}{E:Value->Shared->Prop}{lo hi:Int}{t u v:Tok}{tk:Nat}(I:Inv X pins σ H s)(h1:-(2 ^ 62)<=lo)(h2:lo<2 ^ 62)(h3:-(2 ^ 62)<=hi)(h4:hi<2 ^ 62)
  (q:R (Itr lo (hi-lo).toNat) H):wpAny (model X.prog X.w) X.A (pyIter (.ref s.heap.objs.size)) (PIE X pins σ tg R) E { s with heap:=s.heap.push { cls:=.type "range",data:=.fields #[.int lo t,.int hi u,.int 1 v] },toks:=tk }:=by
 refine wpAny_pyIter_range (IsRange.new ..) (small_one h1 h2 h3 h4) ?_
 have I1:Inv X pins σ H { s with heap:=s.heap.push { cls:=.type "range",data:=.fields #[.int lo t,.int hi u,.int 1 v] },toks:=tk }:=I.kept λb o e=>Heap.get?_push_of_some _ e
 refine⟨(s.heap.push { cls:=.type "range",data:=.fields #[.int lo t,.int hi u,.int 1 v] }).objs.size,[(s.heap.push { cls:=.type "range",data:=.fields #[.int lo t,.int hi u,.int 1 v] }).objs.size],_,_,H,rfl,
  I1.kept (t':=tk) λb o e=>Heap.get?_push_of_some _ e,zaj _ lo (hi-lo).toNat,?_,λb hb=>?_,q⟩
 .have e1:lo+((0:Nat):Int)*1=lo:=by simp
  have e2:(((hi-lo).toNat:Nat):Int)-((0:Nat):Int)=Builtin.Range.rangeSize lo hi 1:=by rw[rangeSize_one];split<;>omega
  show IsRangeIter _ _ (lo+((0:Nat):Int)*1) ((((hi-lo).toNat:Nat):Int)-((0:Nat):Int)) 1
  rw[e1,e2]
  exact Heap.get?_push_size _ rfl
 .have e:b=(s.heap.push { cls:=.type "range",data:=.fields #[.int lo t,.int hi u,.int 1 v] }).objs.size:=by simpa using hb
  subst e
  exact I1.fpOk (Nat.le_refl _) (I1.hok.fresh (Nat.le_refl _))
def jG(ta:TA):TI:=fun σ H R=>ta σ H λvs H1=>∃j:Int,vs=[.int j]/\-(2 ^ 62)<=j/\j<2 ^ 62/\R (Itr 0 j.toNat) H1
theorem ko{a:Expr}{ta:TA}{p pos:Pos}(hg:Gl X "range")(hm:X.mg "range"=none)(ha:PA X [a] ta)(hs:starEach [a] X.env=[(false,eval a X.env)]:=by rfl):PI X tg (.Call (.Name "range" p) [a] [] pos) (jG ta):=by
 intro pins s σ H R I h
 refine Call_ (jB I hg hm boot_range (PyProof.Rows.callWith_type1 (thn (ha pos pins s σ H _ I h) λus s1 ⟨vs,H1,I1,r1,q1⟩=>?_) hs rfl))
 obtain⟨j,e,q1,q2,q⟩:=q1
 subst e
 cases r1 with
 |cons r rr=>
  cases rr
  obtain⟨t,rfl⟩:=r
  exact call_range_1 (zbJ I1 (by omega) (by omega) q1 q2 (by simpa using q))
def y9(wi:TI)(g:TG)(tb:TS):TS:=λD σ H=>wi σ H λJ H1=>∃W:Nat->Nat->St->Hp->Prop,(∃m,W 0 m σ H1)/\∀i m σ H,W i m σ H ->
 (J.stop i H/\D.nx σ H)∨(J.go i H/\∃N:St->Hp->Prop,(∀σ' H',N σ' H'->∃m',m'<m/\W (i+1) m' σ' H')/\∀x H',J.yld i H x H'->g x σ H' fun σ2 H2=>tb { D with nx:=N,ct:=N,bk:=D.nx } σ2 H2)
def jo(fp:List Addr)(h:Heap):List (Addr×Obj):=fp.filterMap λb=>(h.get? b).map λo=>(b,o)
theorem Xh{fp:List Addr}{h:Heap}{b:Addr}{o:Obj}(hb:b∈fp)(e:h.get? b=some o):(b,o)∈jo fp h:=List.mem_filterMap.mpr ⟨b,hb,by rw[e];rfl⟩
theorem zdm{fp:List Addr}{h:Heap}{p:Addr×Obj}(hp:p∈jo fp h):p.1∈fp/\h.get? p.1=some p.2:=by
 obtain⟨b,hb,e⟩:=List.mem_filterMap.mp hp
 cases q:h.get? b with
 |none=>rw[q] at e;cases e
 |some o=>
  rw[q] at e
  have e':(b,o)=p:=Option.some.inj e
  subst e'
  exact⟨hb,q⟩
theorem Inv.pinned{pins:List (Addr×Obj)}{σ:St}{H:Hp}{s:Shared}{fp:List Addr}(I:Inv X pins σ H s)(hf:∀b∈fp,wz X pins H b)(ho:∀b∈fp,∃o,s.heap.get? b=some o/\∀v,o.data≠.cell v):Inv X (pins++jo fp s.heap) σ H s :=
 I.pins_of λp hp=>(List.mem_append.mp hp).elim (λz=>I.pin p (List.mem_append_right _ z)) λz=>by
  obtain⟨hb,e⟩:=zdm z
  obtain⟨f0,f1,f2,_⟩:=hf p.1 hb
  obtain⟨o,e',d⟩:=ho p.1 hb
  rw[e] at e';cases e'
  exact⟨e,f0,f1,f2,d⟩
theorem Inv.unpinned{pins pl:List (Addr×Obj)}{σ:St}{H:Hp}{s:Shared}(I:Inv X (pins++pl) σ H s):Inv X pins σ H s:=I.pins_of λp hp=>I.pin p (List.mem_append_right _ (List.mem_append_left _ hp))
theorem xg{iter:Expr}{body:List Stmt}{wi:TI}{g:TG}{tb:TS}{pos:Pos}(hp:PassesOwn (model X.prog X.w) X.A X.env X.xe)(hc:X.calm=true)(hi:PI X tg iter wi)(hg:PG X tg g)(hb:PSs X body tb)
  (hs:∀x,foldedSetIterable iter X.env x=pure x:=by intro _;rfl):PS X (.For tg iter body [] pos) (y9 wi g tb):=by
 intro pins s σ H D I h
 refine wpAny_For (thn (hi pins s σ H _ I h) λv s1 h1=>thn h1 λitv s2 h2=>?_) hs
 obtain⟨it,fp,tn,J,H2,e,I2,T,st2,f2,W,⟨m0,w0⟩,turn⟩:=h2
 subst e
 have stat:∀{H':Hp},(∀b∈fp,H' b=none)->∀b∈fp,wz X pins H' b:=λhn b hb=>⟨hn b hb,(f2 b hb).2⟩
 refine codeAny_forLoop_any (λn s'=>∃i σ' H',Inv X pins σ' H' s'/\tn i s'.heap/\(∀b∈fp,H' b=none)/\W i n σ' H') ?_ m0 ⟨0,σ,H2,I2,st2,λb hb=>(f2 b hb).1,w0⟩
 rintro n s3 ⟨i,σ3,H3,I3,st3,fr3,w3⟩
 rcases turn i n σ3 H3 w3 with ⟨stop,qn⟩|⟨go,N,hN,step⟩
 .refine wpAny_passesOwn hp (thn (T.done X rfl rfl rfl hc i pins s3 σ3 H3 X.xe I3 (stat fr3) st3 stop) λr s4 ⟨hr,I4⟩=>?_)
  subst hr
  exact wpAny_execs_nil ⟨σ3,H3,I4,qn⟩
 .refine wpAny_passesOwn hp (thn (T.item X rfl rfl rfl hc i pins s3 σ3 H3 X.xe I3 (stat fr3) st3 go) λr s4 ⟨u,hr,h4⟩=>?_)
  subst hr
  refine wpAny_passesOwn hp (thn h4 λ_ s5 ⟨x,H5,I5,r5,y5,st5,fr5⟩=>?_)
  have I5':=I5.pinned (stat fr5) (T.obj _ _ st5)
  refine wpAny_passesOwn hp (thn (hg _ s5 σ3 H5 x u _ I5' r5 (step x H5 y5)) λ_ s6 ⟨σ6,H6,I6,q6⟩=>?_)
  refine wpAny_passesOwn hp (thn (hb _ s6 σ6 H6 _ I6 q6) λf s7 q7=>?_)
  have again:∀{σ7:St}{H7:Hp},Inv X (pins++jo fp s5.heap) σ7 H7 s7->N σ7 H7->∃m,m<n/\∃i σ' H',Inv X pins σ' H' s7/\tn i s7.heap/\(∀b∈fp,H' b=none)/\W i m σ' H':=λ{σ7 H7} I7 n7=>by
   obtain⟨m',hm,w7⟩:=hN σ7 H7 n7
   refine⟨m',hm,i+1,σ7,H7,I7.unpinned,T.keep _ _ _ st5 λb hb o e=>(I7.pin (b,o) (List.mem_append_right _ (List.mem_append_right _ (Xh hb e)))).1,λb hb=>?_,w7⟩
   obtain⟨o,e,d⟩:=T.obj _ _ st5 b hb
   exact(I7.pin (b,o) (List.mem_append_right _ (List.mem_append_right _ (Xh hb e)))).2.1
  cases f with
  |next=>obtain⟨σ7,H7,I7,n7⟩:=q7;exact again I7 n7
  |cont=>obtain⟨σ7,H7,I7,n7⟩:=q7;exact again I7 n7
  |brk=>obtain⟨σ7,H7,I7,q7⟩:=q7;exact⟨σ7,H7,I7.unpinned,q7⟩
  |ret v=>obtain⟨x7,σ7,H7,I7,r7,q7⟩:=q7;exact⟨x7,σ7,H7,I7.unpinned,r7,q7⟩
end
theorem v4{K:PySem.W.Frag}{a:Addr}{xs:List V}{g:TG}{tb:TS}{D:Ends}{σ:St}{H:Hp}(Pv:Nat->St->Hp->Prop)(h0:Pv 0 σ H)(hl:∀i σ H,i<=xs.length->Pv i σ H->SqL K H a xs)
  (hs:∀i x σ H,xs[i]? = some x->Pv i σ H->g x σ H fun σ2 H2=>tb { D with nx:=Pv (i+1),ct:=Pv (i+1),bk:=D.nx } σ2 H2) (hd:∀σ H,Pv xs.length σ H->D.nx σ H) :
  ∃W:Nat->Nat->St->Hp->Prop,(∃m,W 0 m σ H)/\∀i m σ H,W i m σ H ->
   ((Itl K a).stop i H/\D.nx σ H)∨((Itl K a).go i H/\∃N:St->Hp->Prop,(∀σ' H',N σ' H'->∃m',m'<m/\W (i+1) m' σ' H')/\∀x H',(Itl K a).yld i H x H'->g x σ H' fun σ2 H2=>tb { D with nx:=N,ct:=N,bk:=D.nx } σ2 H2):=by
 refine⟨λi m σ H=>m=xs.length-i/\i<=xs.length/\Pv i σ H,⟨xs.length,by simp,Nat.zero_le _,h0⟩,?_⟩
 rintro i m σ H ⟨rfl,hi,p⟩
 have q:=hl i σ H hi p
 by_cases hlt:i<xs.length
 .refine .inr ⟨⟨xs,xs[i],q,by simp[hlt]⟩,Pv (i+1),fun σ' H' p'=>⟨xs.length-(i+1),by omega,rfl,hlt,p'⟩,λx H' y=>?_⟩
  obtain⟨e,y⟩:=y
  subst e
  exact hs i x σ _ (y xs q) p
 .have e:i=xs.length:=by omega
  subst e
  exact .inl ⟨⟨xs,q,Nat.le_refl _⟩,hd σ H p⟩
theorem J9{lo:Int}{n:Nat}{g:TG}{tb:TS}{D:Ends}{σ:St}{H:Hp}(Pv:Nat->St->Hp->Prop)(h0:Pv 0 σ H)
  (hs:∀i σ H,i<n->Pv i σ H->g (.int (lo+i)) σ H fun σ2 H2=>tb { D with nx:=Pv (i+1),ct:=Pv (i+1),bk:=D.nx } σ2 H2) (hd:∀σ H,Pv n σ H->D.nx σ H) :
  ∃W:Nat->Nat->St->Hp->Prop,(∃m,W 0 m σ H)/\∀i m σ H,W i m σ H ->
   ((Itr lo n).stop i H/\D.nx σ H)∨((Itr lo n).go i H/\∃N:St->Hp->Prop,(∀σ' H',N σ' H'->∃m',m'<m/\W (i+1) m' σ' H')/\∀x H',(Itr lo n).yld i H x H'->g x σ H' fun σ2 H2=>tb { D with nx:=N,ct:=N,bk:=D.nx } σ2 H2):=by
 refine⟨λi m σ H=>m=n-i/\i<=n/\Pv i σ H,⟨n,by simp,Nat.zero_le _,h0⟩,?_⟩
 rintro i m σ H ⟨rfl,hi,p⟩
 by_cases hlt:i<n
 .refine .inr ⟨hlt,Pv (i+1),fun σ' H' p'=>⟨n-(i+1),by omega,rfl,hlt,p'⟩,λx H' y=>?_⟩
  obtain⟨e,y⟩:=y
  subst e y
  exact hs i σ _ hlt p
 .have e:i=n:=by omega
  subst e
  exact .inl ⟨Nat.le_refl _,hd σ H p⟩
theorem Zr{c:TT}{tb:TS}{D:Ends}{σ:St}{H:Hp}(Pv:St->Hp->Prop)(μ:St->Hp->Nat)(h0:Pv σ H)
  (hs:∀σ H,Pv σ H->c σ H λb H1=>if b=true then tb { D with nx:=fun σ' H'=>Pv σ' H'/\μ σ' H' < μ σ H,ct:=fun σ' H'=>Pv σ' H'/\μ σ' H' < μ σ H,bk:=D.nx } σ H1 else D.nx σ H1)
  (mono:∀σ H Q Q',(∀b H1,Q b H1->Q' b H1)->c σ H Q->c σ H Q'):wa c tb D σ H:=by
 refine⟨λm σ H=>m=μ σ H/\Pv σ H,⟨_,rfl,h0⟩,?_⟩
 rintro m σ H ⟨rfl,p⟩
 refine mono σ H _ _ (λb H1 q=>?_) (hs σ H p)
 cases b with
 |true=>exact⟨_,fun σ' H' ⟨p',l⟩=>⟨_,l,rfl,p'⟩,q⟩
 |false=>exact q
end L2
namespace L2
open PySem PySem.Spec PyProof.Rows
abbrev R2:=V->V->Hp->VK->Prop
def OpR(X:Cx)(f:Value->Value->Sem Value)(r:R2):Prop :=
 ∀(pins:List (Addr×Obj)) (s:Shared) (σ:St) (H:Hp) (x y:V) (v u:Value) (Q:VK),Inv X pins σ H s->zr x v->zr y u->r x y H Q ->
  wpAny (model X.prog X.w) X.A (f v u) (EP X pins σ Q) X.xe s
def UnR(X:Cx)(f:Value->Sem Value)(r:V->Hp->VK->Prop):Prop :=
 ∀(pins:List (Addr×Obj)) (s:Shared) (σ:St) (H:Hp) (x:V) (v:Value) (Q:VK),Inv X pins σ H s->zr x v->r x H Q ->
  wpAny (model X.prog X.w) X.A (f v) (EP X pins σ Q) X.xe s
def wA(X:Cx)(f:Value)(r:List V->Hp->VK->Prop):Prop :=
 ∀(pins:List (Addr×Obj)) (s:Shared) (σ:St) (H:Hp) (xs:List V) (us:List Value) (Q:VK),Inv X pins σ H s->Vals xs us->r xs H Q ->
  wpAny (model X.prog X.w) X.A (call f us) (EP X pins σ Q) X.xe s
def tOp(r:R2)(ta tb:TE):TE:=fun σ H Q=>ta σ H λx H1=>tb σ H1 λy H2=>r x y H2 Q
def tUn(r:V->Hp->VK->Prop)(ta:TE):TE:=fun σ H Q=>ta σ H λx H1=>r x H1 Q
def rI(C:Int->Int->Prop)(g:Int->Int->V):R2:=λx y H Q=>∃i j,x=.int i/\y=.int j/\C i j/\Q (g i j) H
def rI0(g:Int->Int->V):R2:=λx y H Q=>∃i j,x=.int i/\y=.int j/\Q (g i j) H
def rU(g:Int->V):V->Hp->VK->Prop:=λx H Q=>∃i,x=.int i/\Q (g i) H
section
variable{X:Cx}{a b c:Expr}{ta tb tc:TE}{pos:Pos}
theorem XY(ha:PE X a ta)(hb:PE X b tb){pins:List (Addr×Obj)}{s:Shared}{σ:St}{H:Hp}{R:V->V->Hp->Prop}(I:Inv X pins σ H s)
  (h:ta σ H λx H1=>tb σ H1 λy H2=>R x y H2) {Q:Value->Shared->Prop} {f:Value->Value->Sem Value}
  (hf:∀v u s2 x y H2,Inv X pins σ H2 s2->zr x v->zr y u->R x y H2->wpAny (model X.prog X.w) X.A (f v u) Q X.xe s2) :
  wpAny (model X.prog X.w) X.A (eval a X.env) (λv s₁=>wpAny (model X.prog X.w) X.A (eval b X.env) (λu s₂=>wpAny (model X.prog X.w) X.A (f v u) Q X.xe s₂) X.xe s₁) X.xe s:=by
 refine thn (ha pins s σ H _ I h) λv s1 ⟨x,H1,I1,r1,q1⟩=>?_
 refine thn (hb pins s1 σ H1 _ I1 q1) λu s2 ⟨y,H2,I2,r2,q2⟩=>?_
 exact hf v u s2 x y H2 I2 r1 r2 q2
theorem z8{op:Operator}{r:R2}(ho:OpR X (binaryOp op) r)(ha:PE X a ta)(hb:PE X b tb):PE X (.BinOp a op b pos) (tOp r ta tb):=by
 intro pins s σ H Q I h
 exact wpAny_BinOp (XY ha hb I h λv u s2 x y H2 I2 rx ry q=>ho pins s2 σ H2 x y v u Q I2 rx ry q)
theorem VN{op:UnaryOp}{r:V->Hp->VK->Prop}(ho:UnR X (unaryOp op) r)(ha:PE X a ta):PE X (.UnaryOp op a pos) (tUn r ta):=by
 intro pins s σ H Q I h
 exact UnaryOp_ (thn (ha pins s σ H _ I h) λv s1 ⟨x,H1,I1,r1,q1⟩=>ho pins s1 σ H1 x v Q I1 r1 q1)
theorem opI{f:Value->Value->Sem Value}{C:Int->Int->Prop}{g:Int->Int->Int}
  (rule:∀(i j:Int)(t u:Tok)(s:Shared)(Q:Value->Shared->Prop)(E:Value->Shared->Prop),C i j->Q (.int (g i j) s.toks) { s with toks:=s.toks+1 }->wpAny (model X.prog X.w) X.A (f (.int i t) (.int j u)) Q E s) :
  OpR X f (rI C λi j=>.int (g i j)):=by
 intro pins s σ H x y v u Q I rx ry h
 obtain⟨i,j,rfl,rfl,hc,q⟩:=h
 obtain⟨t,rfl⟩:=rx
 obtain⟨t',rfl⟩:=ry
 exact rule i j t t' s _ _ hc ⟨.int (g i j),H,I.tok _,⟨_,rfl⟩,q⟩
theorem VY{f:Value->Value->Sem Value}{g:Int->Int->Int}
  (rule:∀(i j:Int)(t u:Tok)(s:Shared)(Q:Value->Shared->Prop)(E:Value->Shared->Prop),Q (.int (g i j) s.toks) { s with toks:=s.toks+1 }->wpAny (model X.prog X.w) X.A (f (.int i t) (.int j u)) Q E s) :
  OpR X f (rI0 λi j=>.int (g i j)):=by
 intro pins s σ H x y v u Q I rx ry h
 obtain⟨i,j,rfl,rfl,q⟩:=h
 obtain⟨t,rfl⟩:=rx
 obtain⟨t',rfl⟩:=ry
 exact rule i j t t' s _ _ ⟨.int (g i j),H,I.tok _,⟨_,rfl⟩,q⟩
theorem Y2{f:Value->Value->Sem Value}{g:Int->Int->Bool}
  (rule:∀(i j:Int)(t u:Tok)(s:Shared)(Q:Value->Shared->Prop)(E:Value->Shared->Prop),Q (.bool (g i j)) s->wpAny (model X.prog X.w) X.A (f (.int i t) (.int j u)) Q E s) :
  OpR X f (rI0 λi j=>.bl (g i j)):=by
 intro pins s σ H x y v u Q I rx ry h
 obtain⟨i,j,rfl,rfl,q⟩:=h
 obtain⟨t,rfl⟩:=rx
 obtain⟨t',rfl⟩:=ry
 exact rule i j t t' s _ _ ⟨.bl (g i j),H,I,rfl,q⟩
def CMul(i j:Int):Prop:=(-(2 ^ 64)<i/\i<2 ^ 64)∨(-(2 ^ 64)<j/\j<2 ^ 64)
theorem CMul.ok{i j:Int}(h:CMul i j):IntMulOk i j:=by
 rcases h with ⟨h1,h2⟩|⟨h1,h2⟩
 .exact .of_left (intBits_le_64 h1 h2)
 .exact .of_right (intBits_le_64 h1 h2)
theorem xE:OpR X (binaryOp .Add) (rI0 λi j=>.int (i+j)):=VY λ_ _ _ _ _ _ _ q=>add_int q
theorem kt:OpR X (binaryOp .Sub) (rI0 λi j=>.int (i-j)):=VY λ_ _ _ _ _ _ _ q=>sub_int q
theorem YZ:OpR X (binaryOp .Mult) (rI CMul λi j=>.int (i*j)):=opI λ_ _ _ _ _ _ _ hc q=>mul_int q hc.ok
theorem VW:OpR X (binaryOp .Mod) (rI (λ_ j=>0<j) λi j=>.int (i % j)):=opI λi j _ _ _ _ _ hc q=>by
 have h1:(0:Int)<j:=hc
 exact mod_int' (by omega) (by rw[Int.fmod_eq_emod_of_nonneg i (by omega)];exact q)
theorem unI{f:Value->Sem Value}{g:Int->Int}
  (rule:∀(i:Int)(t:Tok)(s:Shared)(Q:Value->Shared->Prop)(E:Value->Shared->Prop),Q (.int (g i) s.toks) { s with toks:=s.toks+1 }->wpAny (model X.prog X.w) X.A (f (.int i t)) Q E s) :
  UnR X f (rU λi=>.int (g i)):=by
 intro pins s σ H x v Q I rx h
 obtain⟨i,rfl,q⟩:=h
 obtain⟨t,rfl⟩:=rx
 exact rule i t s _ _ ⟨.int (g i),H,I.tok _,⟨_,rfl⟩,q⟩
theorem Wh:UnR X (unaryOp .USub) (rU λi=>.int (-i)):=unI λ_ _ _ _ _ q=>neg_int q
end
def scal:V->V->Bool
 |.non,.non=>true|.non,.int _=>true|.int _,.non=>true|.non,.bl _=>true|.bl _,.non=>true|.non,.str _=>true|.str _,.non=>true
 |.int _,.int _=>true|.bl _,.bl _=>true|.str _,.str _=>true|.byt _,.byt _=>true
 |.int _,.str _=>true|.str _,.int _=>true|.bl _,.str _=>true|.str _,.bl _=>true
 |_,_=>false
def rEq:R2:=λx y H Q=>scal x y=true/\Q (.bl (decide (x=y))) H
def rNe:R2:=λx y H Q=>scal x y=true/\Q (.bl (!decide (x=y))) H
theorem Qp{i j:Int}:decide (V.int i=V.int j)=(i == j):=by
 rw[Bool.eq_iff_iff]
 simp
theorem Qr{i j:Bool}:decide (V.bl i=V.bl j)=(i == j):=by
 rw[Bool.eq_iff_iff]
 simp
theorem Qo{i j:Str}:decide (V.str i=V.str j)=(i == j):=by
 rw[Bool.eq_iff_iff]
 simp
theorem Qq{i j:Array UInt8}:decide (V.byt i=V.byt j)=(i.toList == j.toList):=by
 rw[Bool.eq_iff_iff]
 cases i
 cases j
 simp
section
variable{X:Cx}{a b c:Expr}{ta tb tc:TE}{pos:Pos}
theorem yo{pins:List (Addr×Obj)}{σ:St}{H:Hp}{s:Shared}{Q:VK}{k k':Bool}(I:Inv X pins σ H s)(q:Q (.bl k) H)(e:k=k'):EP X pins σ Q (.bool k') s:=by
 subst e
 exact⟨.bl k,H,I,rfl,q⟩
theorem vT:OpR X (compareOp .Eq) rEq:=by
 intro pins s σ H x y v u Q I rx ry h
 obtain⟨hs,q⟩:=h
 cases x with
 |non=>
  cases rx
  cases y with
  |non=>cases ry;exact PySem.EqNone.eq_none_none (yo I q (by simp))
  |bl j=>cases ry;exact PySem.EqNone.eq_none_bool (yo I q (by simp))
  |int j=>obtain⟨t',rfl⟩:=ry;exact PySem.EqNone.eq_none_int (yo I q (by simp))
  |str j=>obtain⟨t',rfl⟩:=ry;exact PySem.EqNone.eq_none_str (yo I q (by simp))
  |_=>exact absurd (show false=true from hs) Bool.false_ne_true
 |bl i=>
  cases rx
  cases y with
  |non=>cases ry;exact PySem.EqNone.eq_bool_none (yo I q (by simp))
  |bl j=>cases ry;exact eq_bool (yo I q Qr)
  |str j=>obtain⟨t',rfl⟩:=ry;exact PySem.EqMixed.eq_bool_str (yo I q (by simp))
  |_=>exact absurd (show false=true from hs) Bool.false_ne_true
 |int i=>
  obtain⟨t,rfl⟩:=rx
  cases y with
  |non=>cases ry;exact PySem.EqNone.eq_int_none (yo I q (by simp))
  |int j=>obtain⟨t',rfl⟩:=ry;exact eq_int (yo I q Qp)
  |str j=>obtain⟨t',rfl⟩:=ry;exact PySem.EqMixed.eq_int_str (yo I q (by simp))
  |_=>exact absurd (show false=true from hs) Bool.false_ne_true
 |str i=>
  obtain⟨t,rfl⟩:=rx
  cases y with
  |non=>cases ry;exact PySem.EqNone.eq_str_none (yo I q (by simp))
  |bl j=>cases ry;exact PySem.EqMixed.eq_str_bool (yo I q (by simp))
  |int j=>obtain⟨t',rfl⟩:=ry;exact PySem.EqMixed.eq_str_int (yo I q (by simp))
  |str j=>obtain⟨t',rfl⟩:=ry;exact eq_str (yo I q Qo)
  |_=>exact absurd (show false=true from hs) Bool.false_ne_true
 |byt i=>
  obtain⟨t,rfl⟩:=rx
  cases y with
  |byt j=>obtain⟨t',rfl⟩:=ry;exact PySem.W.eq_bytes (yo I q Qq)
  |_=>exact absurd (show false=true from hs) Bool.false_ne_true
 |_=>cases y<;>exact absurd (show false=true from hs) Bool.false_ne_true
theorem uw:OpR X (compareOp .NotEq) rNe:=by
 intro pins s σ H x y v u Q I rx ry h
 obtain⟨hs,q⟩:=h
 cases x with
 |non=>
  cases rx
  cases y with
  |non=>cases ry;exact PySem.EqNone.ne_none_none (yo I q (by simp))
  |bl j=>cases ry;exact PySem.EqNone.ne_none_bool (yo I q (by simp))
  |int j=>obtain⟨t',rfl⟩:=ry;exact PySem.EqNone.ne_none_int (yo I q (by simp))
  |str j=>obtain⟨t',rfl⟩:=ry;exact PySem.EqNone.ne_none_str (yo I q (by simp))
  |_=>exact absurd (show false=true from hs) Bool.false_ne_true
 |bl i=>
  cases rx
  cases y with
  |non=>cases ry;exact PySem.EqNone.ne_bool_none (yo I q (by simp))
  |bl j=>cases ry;exact ne_bool (yo I q (congrArg not Qr))
  |str j=>obtain⟨t',rfl⟩:=ry;exact PySem.EqMixed.ne_bool_str (yo I q (by simp))
  |_=>exact absurd (show false=true from hs) Bool.false_ne_true
 |int i=>
  obtain⟨t,rfl⟩:=rx
  cases y with
  |non=>cases ry;exact PySem.EqNone.ne_int_none (yo I q (by simp))
  |int j=>obtain⟨t',rfl⟩:=ry;exact ne_int (yo I q (congrArg not Qp))
  |str j=>obtain⟨t',rfl⟩:=ry;exact PySem.EqMixed.ne_int_str (yo I q (by simp))
  |_=>exact absurd (show false=true from hs) Bool.false_ne_true
 |str i=>
  obtain⟨t,rfl⟩:=rx
  cases y with
  |non=>cases ry;exact PySem.EqNone.ne_str_none (yo I q (by simp))
  |bl j=>cases ry;exact PySem.EqMixed.ne_str_bool (yo I q (by simp))
  |int j=>obtain⟨t',rfl⟩:=ry;exact PySem.EqMixed.ne_str_int (yo I q (by simp))
  |str j=>obtain⟨t',rfl⟩:=ry;exact ne_str (yo I q (congrArg not Qo))
  |_=>exact absurd (show false=true from hs) Bool.false_ne_true
 |byt i=>
  obtain⟨t,rfl⟩:=rx
  cases y with
  |byt j=>obtain⟨t',rfl⟩:=ry;exact PySem.W.ne_bytes (yo I q (congrArg not Qq))
  |_=>exact absurd (show false=true from hs) Bool.false_ne_true
 |_=>cases y<;>exact absurd (show false=true from hs) Bool.false_ne_true
theorem vn:OpR X (compareOp .Lt) (rI0 λi j=>.bl (decide (i<j))):=Y2 λ_ _ _ _ _ _ _ q=>lt_int q
theorem VX:OpR X (compareOp .Gt) (rI0 λi j=>.bl (decide (j<i))):=Y2 λ_ _ _ _ _ _ _ q=>gt_int q
theorem Y0:OpR X (compareOp .GtE) (rI0 λi j=>.bl (decide (j<=i))):=Y2 λ_ _ _ _ _ _ _ q=>ge_int q
theorem nomark(b:Expr){op:CmpOp}(h:op≠.In:=by decide)(h2:op≠.NotIn:=by decide):behindInMarks op b=false:=by
 have e1:(op == CmpOp.In)=false:=by cases op<;>first|rfl|exact absurd rfl h
 have e2:(op == CmpOp.NotIn)=false:=by cases op<;>first|rfl|exact absurd rfl h2
 cases b<;>simp[behindInMarks,e1,e2]
theorem uv{op:CmpOp}{r:R2}(ho:OpR X (compareOp op) r)(ha:PE X a ta)(hb:PE X b tb)(hm:behindInMarks op b=false):PE X (.Compare a [op] [b] pos) (tOp r ta tb):=by
 intro pins s σ H Q I h
 exact wpAny_Compare1 (XY ha hb I h λv u s2 x y H2 I2 rx ry q=>ho pins s2 σ H2 x y v u Q I2 rx ry q) hm
def ya(t:TE):TT:=fun σ H Q=>t σ H λx H'=>∃k,x=.bl k/\Q k H'
theorem yu{op:CmpOp}{r:R2}(ho:OpR X (compareOp op) r)(ha:PE X a ta)(hb:PE X b tb)(hm:behindInMarks op b=false):PT X (.Compare a [op] [b] pos) (ya (tOp r ta tb)):=by
 intro pins s σ H Q I h
 refine wpAny_isTrue_Compare1 (thn (ha pins s σ H _ I h) λv s1 ⟨x,H1,I1,r1,q1⟩=>thn (hb pins s1 σ H1 _ I1 q1) λu s2 ⟨y,H2,I2,r2,q2⟩=>
  thn (ho pins s2 σ H2 x y v u _ I2 r1 r2 q2) λc s3 ⟨z,H3,I3,r3,k,e,q3⟩=>?_) hm
 subst e
 cases r3
 exact wpAny_truthy_bool ⟨H3,I3,q3⟩
theorem line63:(sizeLine:Nat)<2 ^ 63:=by rw[sizeLine_eq];decide
theorem vals1{x:V}{us:List Value}(r:Vals [x] us):∃u,us=[u]/\zr x u:=by
 cases r with
 |cons r1 r2=>cases r2;exact⟨_,rfl,r1⟩
end
end L2
namespace L2
open PySem PySem.Spec PyProof.Rows
structure v9(h:Heap)(x dx C:Addr)(mA:Str->Option Value):Prop where
 obj:h.get? x=some (PySem.W.instObj C dx)
 ns:h.Ns1 dx mA
 ne:dx≠x
theorem zdO{h:Heap}{dx:Addr}{mA:Str->Option Value}(n:h.Ns1 dx mA):∃od,h.get? dx=some od/\∀name,PySem.W.lookIn name od=some (mA name):=by
 obtain⟨o,es,ep,ho,hd,hk,_,hm⟩:=n
 refine⟨o,ho,λname=>?_⟩
 have e:=hm name
 unfold nsFind findBy at e
 rw[<- Array.find?_toList] at e
 unfold PySem.W.lookIn
 rw[hd]
 dsimp only
 split
 .rename_i y q
  rw[q] at e
  exact congrArg some e
 .rename_i q
  rw[q] at e
  have a:es.toList.any (·.refKey)=false:=by
   rw[List.any_eq_false]
   intro y hy
   obtain⟨z,t,hkey⟩:=hk y (Array.mem_toList_iff.mp hy)
   simp[DictEntry.refKey,hkey]
  have a':¬es.toList.any (·.refKey)=true:=by rw[a];exact Bool.false_ne_true
  rw[if_neg a']
  exact congrArg some e
theorem v9.look{h:Heap}{x dx C:Addr}{mA:Str->Option Value}(I:v9 h x dx C mA):∃od,PySem.W.InstAt h x (PySem.W.instObj C dx) C (some od)/\∀name,PySem.W.lookIn name od=some (mA name) :=
 let ⟨od,ho,hl⟩:=zdO I.ns
 ⟨od,⟨I.obj,rfl,rfl,ho⟩,hl⟩
section
variable{prog:Program}{w:World}{A:Around}{E:Value->Shared->Prop}{s:Shared}{K:PySem.W.Frag}{x dx C f:Addr}{mA:Str->Option Value}{name:Str}{v:Value}
theorem zeC{expr:Bool}{Q:Value->Shared->Prop}(X:K.In s.heap)(I:v9 s.heap x dx C mA)(hg:PySem.W.plainGet K C name=true)(hh:PySem.W.hasDictIn K C=true)
  (ha:PySem.W.findIn K (.ref C) name=some none) (hv:mA name=some v) (hv':PySem.W.handedIn v=true) (h:Q v { s with toks:=s.toks+1 }) :
  wpAny (model prog w) A (getAttr (.ref x) name expr) Q E s:=by
 obtain⟨od,J,hl⟩:=I.look
 exact PySem.W.get_value X J (PySem.W.plainGet_of hg).1 (PySem.W.findObj_own hh ha rfl (by rw[hl,hv])) hv' h
theorem zeB{pl:Sem Bool}{Q:Value×List Value->Shared->Prop}(X:K.In s.heap)(I:v9 s.heap x dx C mA)(hg:PySem.W.plainGet K C name=true)
  (hf:PySem.W.findIn K (.ref C) name=some (some (.ref f))) (ht:PySem.W.isFn K (.ref f)=true) (hv:mA name=none) (h:Q (.ref f,[.ref x]) s) :
  wpAny (model prog w) A (getMethod (.ref x) name pl) Q E s:=by
 obtain⟨od,J,hl⟩:=I.look
 exact PySem.W.method_fn X J (PySem.W.plainGet_of hg).1 (PySem.W.plainGet_of hg).2 hf (beq_iff_eq.mp ht) (by show(PySem.W.lookIn name od).map (·.isSome)=some false;rw[hl,hv];rfl) h
theorem zbC{ns:List Str}{Q:Unit->Shared->Prop}(X:K.In s.heap)(I:v9 s.heap x dx C mA)
  (hs:PySem.W.findIn K (.ref C) "__setattr__"=some (some (.builtin "object.__setattr__"))) (hp:PySem.W.plainOver K C=true) (ht:PySem.W.takerIn K C name=some none) (hh:PySem.W.hasDictIn K C=true)
  (hw:PySem.Within mA ns) (hsz:ns.length<=sizeLine)
  (h:∀h',v9 h' x dx C (λy=>if y=name then some v else mA y)->Heap.SameBut dx s.heap h'->Q () { s with heap:=h',toks:=s.toks+2 }) :
  wpAny (model prog w) A (setAttr (.ref x) name v) Q E s:=by
 obtain⟨od,J,hl⟩:=I.look
 refine PySem.W.set_plain X J hs (PySem.W.osa_open (s:={ s with toks:=s.toks+1 }) (r:=none) X J hp ht λb=>?_)
 obtain⟨cd,hc,hd'⟩:=PySem.W.any_some hh
 have hx:s.heap.get? x=some ⟨.ref C,some dx,.plain,#[]⟩:=I.obj
 refine wpAny_bind (wpAny_pure (wpAny_bind (wpAny_bind (wpAny_loadPart hx (wpAny_bind (PySem.W.Looks.here (s:={ s with toks:=s.toks+1 }) (PySem.W.looks_clsIn X hc) ?_))))))
 rw[hd']
 refine wpAny_pure (a:=some dx) (wpAny_bind (wpAny_pure (wpAny_bind ?_)))
 refine wpAny_nsSet1 (s:={ s with toks:=s.toks+1 }) I.ns λh' hn2 hs2=>?_
 obtain⟨oD,esD,epD,hoD,hdD,hcD⟩:=hn2.count (PySem.Within.cons name v hw)
 refine wpAny_bind (wpAny_lookBehind hoD (by rw[hdD];exact pastItsLine_dict (Nat.le_trans hcD (by rw[List.length_cons];omega))) ?_)
 exact wpAny_pure (h _ ⟨(hs2.2 _ (Ne.symm I.ne)).trans I.obj,hn2,I.ne⟩ hs2)
theorem zdI{R:Result->Shared->Prop}{vs:List Value}{kw:List (Str×Value)}(X:K.In s.heap)(hm:PySem.W.makesIn K C=true)
  (hi:PySem.W.findIn K (.ref C) "__init__"=some (some (.ref f))) (hf:PySem.W.typeIn K (.ref f)=some (.type "function"))
  (h:codeAny (model prog w) (A.under (.builtin "type.__call__" ⟨.ref C::vs,kw⟩)) (.call (.ref f) ⟨.ref (s.heap.objs.size+1)::vs,kw⟩) (PySem.W.InitBack (s.heap.objs.size+1) R)
   { s with heap:=(s.heap.push PySem.W.emptyDict).push (PySem.W.instObj C s.heap.objs.size) }) :
  codeAny (model prog w) A (.call (.ref C) ⟨vs,kw⟩) R s:=by
 obtain⟨hh,g,d,t,os⟩:=s
 exact PySem.W.make_core (PySem.W.makes_of X hm) (PySem.W.looks_findIn X hi) (λself=>PySem.W.bind_fn X self hf) (.inl rfl) h
end
def zp(f:Str)(v:V):List (Str×V)->List (Str×V)
 |[]=>[(f,v)]
 |(g,x)::r=>if g=f then (g,v)::r else (g,x)::zp f v r
theorem Ju(f g:Str)(v:V):∀fs:List (Str×V),(zp f v fs).lookup g=if g=f then some v else fs.lookup g
 |[]=>by
  show List.lookup g [(f,v)]=_
  by_cases h:g=f
  .have hb:(g == f)=true:=beq_iff_eq.mpr h
   simp only[List.lookup,hb,if_pos h]
  .have hb:(g == f)=false:=beq_eq_false_iff_ne.mpr h
   simp only[List.lookup,hb,if_neg h]
 |(k,x)::r=>by
  have ih:=Ju f g v r
  rw[show zp f v ((k,x)::r)=(if k=f then (k,v)::r else (k,x)::zp f v r) from rfl]
  by_cases hk:k=f
  .rw[if_pos hk]
   by_cases h:g=k
   .have hb:(g == k)=true:=beq_iff_eq.mpr h
    simp only[List.lookup,hb,if_pos (h.trans hk)]
   .have hb:(g == k)=false:=beq_eq_false_iff_ne.mpr h
    simp only[List.lookup,hb,if_neg (λe:g=f=>h (e.trans hk.symm))]
  .rw[if_neg hk]
   by_cases h:g=k
   .have hb:(g == k)=true:=beq_iff_eq.mpr h
    simp only[List.lookup,hb,if_neg (λe:g=f=>hk (h.symm.trans e))]
   .have hb:(g == k)=false:=beq_eq_false_iff_ne.mpr h
    simp only[List.lookup,hb]
    exact ih
theorem Xp(f:Str)(v:V):∀fs:List (Str×V),f∈(zp f v fs).map (·.1)/\∀g,g∈fs.map (·.1)->g∈(zp f v fs).map (·.1)
 |[]=>⟨by simp[zp],λg h=>by simp at h⟩
 |(k,x)::r=>by
  obtain⟨i1,i2⟩:=Xp f v r
  rw[show zp f v ((k,x)::r)=(if k=f then (k,v)::r else (k,x)::zp f v r) from rfl]
  by_cases hk:k=f
  .rw[if_pos hk]
   subst hk
   exact⟨by simp,λg h=>by simpa using h⟩
  .rw[if_neg hk]
   refine⟨?_,λg h=>?_⟩
   .rw[List.map_cons]
    exact List.mem_cons_of_mem _ i1
   .rw[List.map_cons] at h ⊢
    rcases List.mem_cons.mp h with e|e
    .exact List.mem_cons.mpr (.inl e)
    .exact List.mem_cons_of_mem _ (i2 g e)
theorem Jz(f:Str)(v:V):∀fs:List (Str×V),(zp f v fs).length<=fs.length+1
 |[]=>by simp[zp]
 |(k,x)::r=>by
  have ih:=Jz f v r
  rw[show zp f v ((k,x)::r)=(if k=f then (k,v)::r else (k,x)::zp f v r) from rfl]
  by_cases hk:k=f
  .rw[if_pos hk,List.length_cons,List.length_cons];omega
  .rw[if_neg hk,List.length_cons,List.length_cons];omega
theorem yV.some_of{v:V}{o:Option Value}(r:yV (some v) o):∃u,o=some u/\zr v u:=by
 cases o with
 |none=>exact(show False from r).elim
 |some u=>exact⟨u,rfl,r⟩
theorem yV.none_of{o:Option Value}(r:yV none o):o=none:=by
 cases o with
 |none=>rfl
 |some u=>exact(show False from r).elim
theorem zex{v:V}{u:Value}(r:zr v u):PySem.W.handedIn u=true:=by
 cases v with
 |non=>cases (show u=Value.none from r);rfl
 |bl b=>cases (show u=Value.bool b from r);rfl
 |int i=>obtain⟨t,e⟩:=(show ∃t,u=Value.int i t from r);cases e;rfl
 |str x=>obtain⟨t,e⟩:=(show ∃t,u=Value.str x t from r);cases e;rfl
 |byt b=>obtain⟨t,e⟩:=(show ∃t,u=Value.bytes b t from r);cases e;rfl
 |flt b=>obtain⟨t,e⟩:=(show ∃t,u=Value.float b t from r);cases e;rfl
 |ref a=>cases (show u=Value.ref a from r);rfl
 |ty n=>cases (show u=Value.type n from r);rfl
section
variable{P:Program}{w:World}{H H':Hp}{h h':Heap}{a C dx:Addr}{fs fs':List (Str×V)}
theorem Xx(hok:HOk P w H h)(e:H a=some (.ins C dx fs)):∃mA,v9 h a dx C mA/\(∀f,yV (fs.lookup f) (mA f))/\PySem.Within mA (fs.map (·.1))/\fs.length<=1000/\H dx=some (.own a):=by
 obtain⟨d,z,ne,ob,mA,n,r,q⟩:=(show yy P w H h a (.ins C dx fs) from hok a _ e)
 exact⟨mA,⟨ob,n,ne⟩,r,q,z,d⟩
end
structure Cls(K:PySem.W.Frag)(C:Addr):Prop where
 pg:PySem.W.plainGet K C Str.empty=true
 hd:PySem.W.hasDictIn K C=true
 po:PySem.W.plainOver K C=true
 sa:PySem.W.findIn K (.ref C) "__setattr__"=some (some (.builtin "object.__setattr__"))
theorem Cls.get{K:PySem.W.Frag}{C:Addr}(c:Cls K C)(f:Str):PySem.W.plainGet K C f=true:=c.pg
def yw(K:PySem.W.Frag)(C:Addr)(f:Str):Prop:=PySem.W.findIn K (.ref C) f=some none
theorem yw.taker{K:PySem.W.Frag}{C:Addr}{f:Str}(n:yw K C f):PySem.W.takerIn K C f=some none:=by
 unfold PySem.W.takerIn
 rw[show PySem.W.findIn K (.ref C) f=some none from n]
 rfl
structure Meth(K:PySem.W.Frag)(C:Addr)(m:Str)(f:Addr):Prop where
 at_:PySem.W.findIn K (.ref C) m=some (some (.ref f))
 fn:PySem.W.isFn K (.ref f)=true
 kp:PySem.W.keepIn K (.ref f)=true
section
variable{X:Cx}{pins:List (Addr×Obj)}{σ:St}{H:Hp}{s:Shared}{a C dx:Addr}{fs:List (Str×V)}{f:Str}{v:V}{A:Around}{E:Value->Shared->Prop}
theorem zeA{b:Bool}{Q:Value->Shared->Prop}(I:Inv X pins σ H s)(e:H a=some (.ins C dx fs))(c:Cls X.K C)(n:yw X.K C f)(l:fs.lookup f=some v)
  (h:∀u s',Inv X pins σ H s'->zr v u->Q u s'):wpAny (model X.prog X.w) A (getAttr (.ref a) f b) Q E s:=by
 obtain⟨mA,O,r,_,_,_⟩:=Xx I.hok e
 obtain⟨u,hu,ru⟩:=yV.some_of (v:=v) (o:=mA f) (by rw[<- l];exact r f)
 exact zeC I.kIn O (c.get f) c.hd n hu (zex ru) (h u _ (I.tok _) ru)
theorem XC{m:Str}{g:Addr}{pl:Sem Bool}{Q:Value×List Value->Shared->Prop}(I:Inv X pins σ H s)(e:H a=some (.ins C dx fs))(c:Cls X.K C)(k:Meth X.K C m g)(l:fs.lookup m=none)
  (h:Q (.ref g,[.ref a]) s):wpAny (model X.prog X.w) A (getMethod (.ref a) m pl) Q E s:=by
 obtain⟨mA,O,r,_,_,_⟩:=Xx I.hok e
 have hn:mA m=none:=yV.none_of (by rw[<- l];exact r m)
 exact zeB I.kIn O (c.get m) k.at_ k.fn hn h
theorem zbB{y:V}{u:Value}{Q:Unit->Shared->Prop}(I:Inv X pins σ H s)(e:H a=some (.ins C dx fs))(c:Cls X.K C)(n:yw X.K C f)(hl:fs.length<1000)(ry:zr y u)
  (h:∀s',Inv X pins σ (upd H a (.ins C dx (zp f y fs))) s'->Q () s'):wpAny (model X.prog X.w) A (setAttr (.ref a) f u) Q E s:=by
 obtain⟨mA,O,r,wi,_,ho⟩:=Xx I.hok e
 have hz:(fs.map (·.1)).length<=sizeLine:=by rw[List.length_map,sizeLine_eq];omega
 refine zbC I.kIn O c.sa c.po n.taker c.hd wi hz λh' O' sb=>h _ ?_
 have hd:∃o,h'.get? dx=some o:=let ⟨o,_,_,e',_⟩:=O'.ns;⟨o,e'⟩
 refine I.write (x:=a) (e:=dx) (by rw[e];exact True.intro) (.inr ho) (λb q hb z=>(sb.2 b hb).trans z) hd ?_
 refine⟨by rw[zh O.ne];exact ho,?_,O.ne,O'.obj,_,O'.ns,λg=>?_,λg hg=>?_⟩
 .have:=Jz f y fs;omega
 .show yV ((zp f y fs).lookup g) (if g=f then some u else mA g)
  rw[Ju]
  by_cases q:g=f
  .rw[if_pos q,if_pos q];exact ry
  .rw[if_neg q,if_neg q];exact r g
 .by_cases q:g=f
  .rw[q];exact(Xp f y fs).1
  .refine(Xp f y fs).2 g (wi g λz=>hg ?_)
   show(if g=f then some u else mA g)=none
   rw[if_neg q];exact z
theorem Inv.made(I:Inv X pins σ H s):Inv X pins σ (upd (upd H s.heap.objs.size (.own (s.heap.objs.size+1))) (s.heap.objs.size+1) (.ins C s.heap.objs.size []))
  { s with heap:=(s.heap.push PySem.W.emptyDict).push (PySem.W.instObj C s.heap.objs.size) }:=by
 have e1:(s.heap.push PySem.W.emptyDict).get? s.heap.objs.size=some PySem.W.emptyDict:=Heap.get?_push_size s.heap rfl
 have e2:((s.heap.push PySem.W.emptyDict).push (PySem.W.instObj C s.heap.objs.size)).get? (s.heap.objs.size+1)=some (PySem.W.instObj C s.heap.objs.size):=by
  have:=Heap.get?_push_size (s.heap.push PySem.W.emptyDict) (o:=PySem.W.instObj C s.heap.objs.size) rfl
  rwa [Heap.size_push] at this
 have e3:(s.heap.push PySem.W.emptyDict).Ns s.heap.objs.size (λ_=>none):=⟨PySem.W.emptyDict,#[],_,e1,rfl,(λe he=>absurd he (by simp)),λ_=>rfl⟩
 have I1:=I.laid (a:=s.heap.objs.size) (o:=.own (s.heap.objs.size+1)) (h':=s.heap.push PySem.W.emptyDict) (t':=s.toks) (λb u q=>Heap.get?_push_of_some _ q) (Nat.le_refl _) ⟨_,e1⟩
 refine I1.laid (a:=s.heap.objs.size+1) (o:=.ins C s.heap.objs.size []) (t':=s.toks) (λb u q=>Heap.get?_push_of_some _ q) (Nat.le_of_eq (Heap.size_push _ _)) ?_
 have ne:s.heap.objs.size≠s.heap.objs.size+1:=Nat.ne_of_lt (Nat.lt_succ_self _)
 refine⟨by rw[zh ne,zj],Nat.zero_le _,ne,e2,λ_=>none,(Heap.Ns1.of_empty e3).at λo q=>Heap.get?_push_of_some _ q,λ_=>True.intro,λy hy=>absurd rfl hy⟩
theorem zfY{prog:Program}{w:World}{env:Env}{e:Expr}{f:Str}{pos:Pos}{s:Shared}{Q:Value->Shared->Prop}(hb:attributeBase e f env (eval e env)=eval e env)
  (h:wpAny (model prog w) A (eval e env) (λo s₁=>wpAny (model prog w) A (getAttr o f true) Q E s₁) E s):wpAny (model prog w) A (eval (.Attribute e f pos) env) Q E s :=
 Attribute_any_ h (by rw[arm_eval_Attribute,hb])
end
def zt(K:PySem.W.Frag)(ta:TE)(f:Str):TE:=fun σ H Q=>ta σ H λx H1=>∃a C dx fs v,x=.ref a/\H1 a=some (.ins C dx fs)/\Cls K C/\yw K C f/\fs.lookup f=some v/\Q v H1
def yY(K:PySem.W.Frag)(ta tv:TE)(f:Str):TS:=λD σ H=>tv σ H λy H1=>ta σ H1 λx H2=>∃a C dx fs,x=.ref a/\H2 a=some (.ins C dx fs)/\Cls K C/\yw K C f/\fs.length<1000 /\
 D.nx σ (upd H2 a (.ins C dx (zp f y fs)))
section
variable{X:Cx}{o e value:Expr}{f:Str}{pos pos' tpos:Pos}{ta tv:TE}
theorem zH(he:PE X e ta)(hb:attributeBase e f X.env (eval e X.env)=eval e X.env):PE X (.Attribute e f pos) (zt X.K ta f):=by
 intro pins s σ H Q I h
 refine zfY hb (thn (he pins s σ H _ I h) λu s1 ⟨x,H1,I1,rx,a,C,dx,fs,v,ex,ea,c,n,l,q⟩=>?_)
 subst ex
 obtain rfl:u=Value.ref a:=rx
 exact zeA I1 ea c n l λu' s2 I2 ru=>⟨v,H1,I2,ru,q⟩
theorem xi(ha:PE X o ta)(hv:PE X value tv)(hs:swapsWith value (some (.Attribute o f pos')) pos.line X.env=pure false):PS X (.Assign [.Attribute o f pos'] value pos) (yY X.K ta tv f):=by
 intro pins s σ H D I h
 refine plainObj_wpAny_Assign_Attribute (thn (hv pins s σ H _ I h) λu s1 ⟨y,H1,I1,ry,q⟩=>thn (ha pins s1 σ H1 _ I1 q) λov s2 ⟨x,H2,I2,rx,a,C,dx,fs,ex,ea,c,n,l,q2⟩=>?_) hs
 subst ex
 obtain rfl:ov=Value.ref a:=rx
 exact zbB I2 ea c n l ry λs3 I3=>⟨σ,_,I3,q2⟩
theorem zgh{pl:Sem Bool}{m:Str}{apos:Pos}{args:List Expr}{pins:List (Addr×Obj)}{s:Shared}{σ:St}{H:Hp}{Q:Value->Shared->Prop}{te:TE}(he:PE X e te)(I:Inv X pins σ H s)
  (h:te σ H λx H1=>∃a C dx fs g,x=.ref a/\H1 a=some (.ins C dx fs)/\Cls X.K C/\Meth X.K C m g/\fs.lookup m=none /\
   ∀s1,Inv X pins σ H1 s1->wpAny (model X.prog X.w) X.A (callWith pos (.ref g) [.ref a] (backTo pos (starEach args X.env)) (backToKw pos (keywordEach [] X.env))) Q X.xe s1)
  (ht:eval (.Call (.Attribute e m apos) args [] pos) X.env=(do
   let ov <- eval e X.env
   standAt apos.atName
   let (f,first) <- holding [ov] (getMethod ov m pl)
   callWith pos f first (backTo pos (starEach args X.env)) (backToKw pos (keywordEach [] X.env)))) :
  wpAny (model X.prog X.w) X.A (eval (.Call (.Attribute e m apos) args [] pos) X.env) Q X.xe s:=by
 refine PySem.W.methodCall_KW (pl:=pl) (thn (he pins s σ H _ I h) λu s1 ⟨x,H1,I1,rx,a,C,dx,fs,g,ex,ea,c,k,l,q⟩=>?_) ht
 subst ex
 obtain rfl:u=Value.ref a:=rx
 exact XC I1 ea c k l (q s1 I1)
end
section
variable{X:Cx}{pins:List (Addr×Obj)}{σ:St}{H:Hp}{s:Shared}{A:Around}{E:Value->Shared->Prop}{Q:Value->Shared->Prop}{c:Value}{b:Bool}
inductive wy(K:PySem.W.Frag)(H:Hp):V->Value->Prop where
 |non:wy K H .non (.type "NoneType")
 |bl (x:Bool):wy K H (.bl x) (.type "bool")
 |int (i:Int):wy K H (.int i) (.type "int")
 |str (x:Str):wy K H (.str x) (.type "str")
 |flt (x:UInt64):wy K H (.flt x) (.type "float")
 |lst {a:Addr} {xs:List V} (e:H a=some (.lst xs)):wy K H (.ref a) (.type "list")
 |frz {a:Addr} {o:Obj} {xs:List V} (e:H a=some (.frz o (.lst xs))):wy K H (.ref a) (.type "list")
 |tup {a:Addr} {xs:List V} (e:H a=some (.tup xs)):wy K H (.ref a) (.type "tuple")
 |dK {a:Addr} {kvs:List (Key×V)} (e:H a=some (.dK kvs)):wy K H (.ref a) (.type "dict")
 |dT {a:Addr} {kvs:List (List Key×V)} (e:H a=some (.dT kvs)):wy K H (.ref a) (.type "dict")
 |ins {a C dx:Addr} {fs:List (Str×V)} (e:H a=some (.ins C dx fs)) (cl:Cls K C) (ha:PySem.W.findIn K (.ref C) "__class__"=some (some (.builtin "object.__class__")))
   (hn:PySem.W.specialIn K (.builtin "object.__class__") "__get__"=some (some (.builtin "getset_descriptor.__get__"))) (htk:PySem.W.takesIn K (.builtin "object.__class__")=some true)
   (hm:PySem.W.mroIn K C (.type "object")=some true):wy K H (.ref a) (.ref C)
end
end L2
namespace L2
open PySem PySem.Spec PyProof.Rows
structure Room(k:Nat)(A:Around):Prop where
 hd:A.handled=none
 dp:A.depth+3*k+5<recursionLimit
 un:A.units+16*k+200<cLine
theorem Room.mono{j k:Nat}{A:Around}(r:Room k A)(h:j<=k):Room j A:=⟨r.hd,by have:=r.dp;omega,by have:=r.un;omega⟩
theorem Room.deeper{k:Nat}{A:Around}(r:Room (k+1) A)(env:Env):Room k (A.deeper env) :=
 ⟨r.hd,by have:=r.dp;show A.depth+1+3*k+5<_;omega,by have:=r.un;show A.units+3+16*k+200<_;omega⟩
theorem zdJ{A:Around}{C:Addr}{us:List Value}{kw:List (Str×Value)}:(A.under (.builtin "type.__call__" ⟨.ref C::us,kw⟩)).depth=A.depth+1:=by
 first|rfl|simp[Around.under,Code.weight,Code.isCreation,Code.isGuard,Code.isCaller,Code.frames,Code.isFrame,guardIds]
theorem zdH{A:Around}{C:Addr}{us:List Value}{kw:List (Str×Value)}:(A.under (.builtin "type.__call__" ⟨.ref C::us,kw⟩)).units=A.units+1:=by
 first|rfl|simp[Around.under,Code.cUnits,Code.frames,Code.isFrame]
theorem Room.make{k:Nat}{A:Around}(r:Room (k+1) A)(C:Addr)(us:List Value)(kw:List (Str×Value)):Room k (A.under (.builtin "type.__call__" ⟨.ref C::us,kw⟩)) :=
 ⟨r.hd,by have:=r.dp;rw[zdJ];omega,by have:=r.un;rw[zdH];omega⟩
theorem Room.depth{k:Nat}{A:Around}(r:Room k A):A.depth<recursionLimit:=by have:=r.dp;omega
theorem Room.units{k:Nat}{A:Around}(r:Room k A):A.units+64<cLine:=by have:=r.un;omega
def zd:TA:=λ_ H Q=>Q [] H
def zb(ta:TE)(tr:TA):TA:=fun σ H Q=>ta σ H λx H1=>tr σ H1 λxs H2=>Q (x::xs) H2
section
variable{X:Cx}{e:Expr}{es:List Expr}{te:TE}{t:TA}{pos:Pos}
theorem ze:PA X [] zd:=λ_ _ _ _ H Q I h=>Calls.spliced_nil ⟨[],H,I,.nil,h⟩
theorem zc(ha:PE X e te)(hr:PA X es t)(hs:starEach (e::es) X.env=(false,eval e X.env)::starEach es X.env:=by rfl):PA X (e::es) (zb te t):=by
 intro pos pins s σ H Q I h
 rw[hs]
 show wpAny _ _ (spliced ((false,eval e X.env)::backTo pos (starEach es X.env))) _ _ s
 refine Calls.spliced_cons (thn (ha pins s σ H _ I h) λu s1 ⟨x,H1,I1,r1,q1⟩=>?_)
 exact thn (hr pos pins s1 σ H1 _ I1 q1) λus s2 ⟨xs,H2,I2,r2,q2⟩=>⟨x::xs,H2,I2,.cons r1 r2,q2⟩
def zU(t:TA):TE:=fun σ H Q=>t σ H λxs H1=>xs.length<=sizeLine/\∀p,H1 p=none->Q (.ref p) (upd H1 p (.lst xs))
theorem yh(h:PA X es t):PE X (.List es pos) (zU t):=by
 intro pins s σ H Q I hq
 refine wpAny_List_spliced (thn (h pos pins s σ H _ I hq) λus s1 ⟨xs,H1,I1,r,z,q⟩=>⟨by rw[<- r.length];exact z,?_⟩)
 have hf:H1 s1.heap.objs.size=none:=I1.hok.fresh (Nat.le_refl _)
 refine⟨.ref s1.heap.objs.size,upd H1 s1.heap.objs.size (.lst xs),I1.laid (t':=s1.toks) (λb u e=>Heap.get?_push_of_some _ e) (Nat.le_refl _) ?_,rfl,q _ hf⟩
 exact⟨z,us,0,r,Heap.get?_push_size _ rfl⟩
end
abbrev Sp:=List V->Hp->VK->XK->Prop
abbrev CXT:=List Env->Hp->Shared->XK->Value->Shared->Prop
structure Env0(P:Program)(w:World)(K:PySem.W.Frag)(mg:Str->Option Value)(base:Heap)(A:Around)(outer:List Env)(s:Shared)(H:Hp):Prop where
 frames:A.frames=some outer
 mod:Mod K mg base
 bs:∀b o,base.get? b=some o->s.heap.get? b=some o/\H b=none
 bsz:base.objs.size<=s.heap.objs.size
 funs:s.heap.FunFrames base outer
 frf:∀b∈frs outer,H b=none
 hok:HOk P w H s.heap
 bare:AllBare s.gens
def CE(outer:List Env)(P:Program)(w:World)(H:Hp)(s:Shared)(Q:VK)(u:Value)(s':Shared):Prop :=
 ∃v H',s'.os=s.os/\AllBare s'.gens/\Un (frs outer) [] H H' s.heap s'.heap/\HOk P w H' s'.heap/\zr v u/\Q v H'
def CR(CX:CXT)(outer:List Env)(P:Program)(w:World)(H:Hp)(s:Shared)(Q:VK)(E:XK)(r:Result)(s':Shared):Prop :=
 match r with
 |.ok (.ret u)=>CE outer P w H s Q u s'
 |.ok _=>False
 |.error e=>CX outer H s E e s'
structure zB(P:Program)(w:World)(K:PySem.W.Frag)(mg:Str->Option Value)(base:Heap)(CX:CXT)(k:Nat)(f:Addr)(fd:FuncData)(ps:List Str)(sp:Sp):Prop where
 len:∀vs H Q E,sp vs H Q E->vs.length=ps.length
 run:∀(A:Around)(outer:List Env)(s:Shared)(H:Hp)(args:Args)(us:List Value)(vs:List V)(Q:VK)(E:XK),Room k A->Env0 P w K mg base A outer s H->BindsTo s fd args (ps.zip us)->Vals vs us->sp vs H Q E ->
  codeAny (model P w) A (.call (.ref f) args) (CR CX outer P w H s Q E) s
theorem zB.mono{P:Program}{w:World}{K:PySem.W.Frag}{mg:Str->Option Value}{base:Heap}{CX:CXT}{j k:Nat}{f:Addr}{fd:FuncData}{ps:List Str}{sp:Sp}(F:zB P w K mg base CX j f fd ps sp)(h:j<=k) :
  zB P w K mg base CX k f fd ps sp:=⟨F.len,λA outer s H args us vs Q E hr=>F.run A outer s H args us vs Q E (hr.mono h)⟩
theorem zB.imp{P:Program}{w:World}{K:PySem.W.Frag}{mg:Str->Option Value}{base:Heap}{CX:CXT}{k:Nat}{f:Addr}{fd:FuncData}{ps:List Str}{sp sp':Sp}(F:zB P w K mg base CX k f fd ps sp)
  (h:∀vs H Q E,sp' vs H Q E->sp vs H Q E):zB P w K mg base CX k f fd ps sp' :=
 ⟨λvs H Q E q=>F.len vs H Q E (h _ _ _ _ q),λA outer s H args us vs Q E hr he hb hv hs=>F.run A outer s H args us vs Q E hr he hb hv (h _ _ _ _ hs)⟩
theorem Env0.make{P:Program}{w:World}{K:PySem.W.Frag}{mg:Str->Option Value}{base:Heap}{A:Around}{outer:List Env}{s:Shared}{H:Hp}(e:Env0 P w K mg base A outer s H)(C:Addr)(us:List Value)(kw:List (Str×Value)) :
  Env0 P w K mg base (A.under (.builtin "type.__call__" ⟨.ref C::us,kw⟩)) outer s H:=⟨by first|exact e.frames|(simpa [Around.under,Code.envs,Code.isFrame,pushEnvs] using e.frames),e.mod,e.bs,e.bsz,e.funs,e.frf,e.hok,e.bare⟩
section
variable{X:Cx}{pins:List (Addr×Obj)}{σ:St}{H:Hp}{s s':Shared}
theorem Inv.env0(I:Inv X pins σ H s):Env0 X.prog X.w X.K X.mg X.base X.A X.stack s H :=
 ⟨I.ok.frames,I.ok.mod,I.bs,Nat.le_trans I.ok.bsz I.sz,I.stack,I.stkFree,I.hok,I.bare⟩
theorem Inv.after{Q:VK}{u:Value}(I:Inv X pins σ H s)(h:CE X.stack X.prog X.w H s Q u s'):EP X pins σ Q u s':=by
 obtain⟨v,H',os,bare,un,hok,r,q⟩:=h
 obtain⟨hh,g,d,t,os'⟩:=s'
 obtain rfl:os'=s.os:=os
 exact⟨v,H',I.call (h':=hh) (g':=g) (d':=d) (t':=t) (ch:=[]) un hok bare (λb z=>absurd z (by simp)),r,q⟩
end
def zy(sp:Sp)(dvs:List V)(E:XK)(t:TA):TE:=fun σ H Q=>t σ H λvs H1=>sp (vs++dvs) H1 Q E
def yA(C:Addr)(m:Str)(sp:Sp)(dvs:List V)(E:XK)(ta:TE)(t:TA):TE:=fun σ H Q=>ta σ H λx H1=>∃a dx fs,x=.ref a/\H1 a=some (.ins C dx fs)/\fs.lookup m=none /\
 t σ H1 λvs H2=>sp (x::(vs++dvs)) H2 Q E
def j4(C:Addr)(sp:Sp)(dvs:List V)(E:XK)(t:TA):TE:=fun σ H Q=>t σ H λvs H1=>∀x dx,H1 x=none->H1 dx=none->dx≠x ->
 sp (.ref x::(vs++dvs)) (upd (upd H1 dx (.own x)) x (.ins C dx [])) (λv H2=>v=.non/\Q (.ref x) H2) E
def Binds(K:PySem.W.Frag)(fd:FuncData)(ps:List Str)(ds:List Value):Prop :=
 ∀(s:Shared)(us:List Value),K.In s.heap->(us++ds).length=ps.length->BindsTo s fd ⟨us,[]⟩ (ps.zip (us++ds))
theorem Binds.all{K:PySem.W.Frag}{fd:FuncData}{ps:List Str}(h:∀us:List Value,us.length=ps.length->bindArgs fd ⟨us,[]⟩=pure (ps.zip us)):Binds K fd ps []:=λs us _ hl=>by
 rw[List.append_nil] at hl ⊢
 exact .of_eq (h us hl)
def Passes(CX:CXT)(X:Cx)(E:XK):Prop:=∀(pins:List (Addr×Obj)) (σ:St) (H:Hp) (s:Shared) (e:Value) (s':Shared),Inv X pins σ H s->CX X.stack H s E e s'->X.xe e s'
section
variable{X:Cx}{CX:CXT}{k:Nat}{f C:Addr}{fd:FuncData}{ps:List Str}{sp:Sp}{dvs:List V}{ds:List Value}{E:XK}{x m:Str}{p pos apos:Pos}{e o:Expr}{es:List Expr}{ta:TE}{t:TA}
theorem qX{pins:List (Addr×Obj)}{σ:St}{H:Hp}{s:Shared}{Q:VK}{us:List Value}{vs:List V}(F:zB X.prog X.w X.K X.mg X.base CX k f fd ps sp)(hr:Room k X.A)(hb:Binds X.K fd ps ds)(hd:Vals dvs ds)(hx:Passes CX X E)
  (I:Inv X pins σ H s) (r:Vals vs us) (h:sp (vs++dvs) H Q E):wpAny (model X.prog X.w) X.A (call (.ref f) us) (EP X pins σ Q) X.xe s:=by
 have r2:Vals (vs++dvs) (us++ds):=r.append hd
 have hl:(us++ds).length=ps.length:=by rw[<- r2.length];exact F.len _ _ _ _ h
 refine wpAny_call (codeAny_mono (F.run X.A X.stack s H ⟨us,[]⟩ (us++ds) (vs++dvs) Q E hr I.env0 (hb s us I.kIn hl) r2 h) λr s' hq=>?_)
 cases r with
 |error e=>exact hx pins σ H s e s' I hq
 |ok fl=>
  cases fl with
  |ret u=>exact I.after hq
  |next=>exact False.elim hq
  |brk=>exact False.elim hq
  |cont=>exact False.elim hq
theorem zC(F:zB X.prog X.w X.K X.mg X.base CX k f fd ps sp)(hr:Room k X.A)(hg:Gl X x)(hm:X.mg x=some (.ref f))(hk:PySem.W.keepIn X.K (.ref f)=true)(hb:Binds X.K fd ps ds)(hd:Vals dvs ds)(hx:Passes CX X E)
  (ha:PA X (e::es) t) (hdb:(x == ("__debug__":Str))=false:=by decide) (he:starEach (e::es) X.env=(false,eval e X.env)::starEach es X.env:=by rfl) (hpl:(backTo pos (starEach es X.env)).any (·.1)=false:=by rfl) :
  PE X (.Call (.Name x p) (e::es) [] pos) (zy sp dvs E t):=by
 intro pins s σ H Q I h
 refine wpAny_Call_Name_kw (Xm I hg hm ?_ hdb)
 refine PySem.W.callWith_K (h₀:=X.base) I.ok.mod.kin hk (thn (ha pos pins s σ H _ I h) λus s1 ⟨vs,H1,I1,r,q⟩=>⟨I1.kIn,?_⟩) he hpl
 exact qX F hr hb hd hx I1 r q
theorem wk{pl:Sem Bool}(he:PE X o ta)(c:Cls X.K C)(hm:Meth X.K C m f)(F:zB X.prog X.w X.K X.mg X.base CX k f fd ps sp)(hr:Room k X.A)(hb:Binds X.K fd ps ds)(hd:Vals dvs ds)(hx:Passes CX X E)(ha:PA X (e::es) t)
  (hst:starEach (e::es) X.env=(false,eval e X.env)::starEach es X.env:=by rfl) (hpl:(backTo pos (starEach es X.env)).any (·.1)=false:=by rfl)
  (ht:eval (.Call (.Attribute o m apos) (e::es) [] pos) X.env=(do
   let ov <- eval o X.env
   standAt apos.atName
   let (f,first) <- holding [ov] (getMethod ov m pl)
   callWith pos f first (backTo pos (starEach (e::es) X.env)) (backToKw pos (keywordEach [] X.env))):=by rfl) :
  PE X (.Call (.Attribute o m apos) (e::es) [] pos) (yA C m sp dvs E ta t):=by
 intro pins s σ H Q I h
 refine PySem.W.methodCall_KW (pl:=pl) (thn (he pins s σ H _ I h) λu s1 ⟨x,H1,I1,rx,a,dx,fs,ex,ea,l,q⟩=>?_) ht
 subst ex
 obtain rfl:u=Value.ref a:=rx
 refine XC I1 ea c hm l ?_
 refine PySem.W.callWith_K (first:=[.ref a]) (h₀:=X.base) I.ok.mod.kin hm.kp (thn (ha pos pins s1 σ H1 _ I1 q) λus s2 ⟨vs,H2,I2,r,q2⟩=>⟨I2.kIn,?_⟩) hst hpl
 exact qX (us:=.ref a::us) (vs:=.ref a::vs) F hr hb hd hx I2 (.cons rfl r) q2
theorem uu{pl:Sem Bool}(he:PE X o ta)(c:Cls X.K C)(hm:Meth X.K C m f)(F:zB X.prog X.w X.K X.mg X.base CX k f fd ps sp)(hr:Room k X.A)(hb:Binds X.K fd ps ds)(hd:Vals dvs ds)(hx:Passes CX X E)
  (ht:eval (.Call (.Attribute o m apos) [] [] pos) X.env=(do
   let ov <- eval o X.env
   standAt apos.atName
   let (f,first) <- holding [ov] (getMethod ov m pl)
   callWith pos f first (backTo pos (starEach [] X.env)) (backToKw pos (keywordEach [] X.env))):=by rfl) :
  PE X (.Call (.Attribute o m apos) [] [] pos) (yA C m sp dvs E ta zd):=by
 intro pins s σ H Q I h
 refine PySem.W.methodCall_KW (pl:=pl) (thn (he pins s σ H _ I h) λu s1 ⟨x,H1,I1,rx,a,dx,fs,ex,ea,l,q⟩=>?_) ht
 subst ex
 obtain rfl:u=Value.ref a:=rx
 refine XC I1 ea c hm l ?_
 exact PySem.W.callWith_K0 (first:=[.ref a]) I1.kIn hm.kp (qX (us:=[.ref a]) (vs:=[.ref a]) F hr hb hd hx I1 (.cons rfl .nil) q)
structure Mk(K:PySem.W.Frag)(C f:Addr):Prop where
 makes:PySem.W.makesIn K C=true
 init:PySem.W.findIn K (.ref C) "__init__"=some (some (.ref f))
 fn:PySem.W.isFn K (.ref f)=true
 kp:PySem.W.keepIn K (.ref C)=true
theorem zbE{pins:List (Addr×Obj)}{σ:St}{H:Hp}{s:Shared}{Q:VK}{us:List Value}{vs:List V}(M:Mk X.K C f)(F:zB X.prog X.w X.K X.mg X.base CX k f fd ps sp)(hr:Room (k+1) X.A)(hb:Binds X.K fd ps ds)(hd:Vals dvs ds)
  (hx:Passes CX X E) (I:Inv X pins σ H s) (r:Vals vs us)
  (h:∀x dx,H x=none->H dx=none->dx≠x->sp (.ref x::(vs++dvs)) (upd (upd H dx (.own x)) x (.ins C dx [])) (λv H2=>v=.non/\Q (.ref x) H2) E) :
  wpAny (model X.prog X.w) X.A (call (.ref C) us) (EP X pins σ Q) X.xe s:=by
 have hq:=h (s.heap.objs.size+1) s.heap.objs.size (I.hok.fresh (Nat.le_succ _)) (I.hok.fresh (Nat.le_refl _)) (Nat.ne_of_lt (Nat.lt_succ_self _))
 have I2:=Inv.made (C:=C) I
 have r2:Vals (V.ref (s.heap.objs.size+1)::(vs++dvs)) (Value.ref (s.heap.objs.size+1)::(us++ds)):=.cons rfl (r.append hd)
 have hl:(Value.ref (s.heap.objs.size+1)::us++ds).length=ps.length:=by
  have e:=r2.length
  rw[F.len _ _ _ _ hq] at e
  exact e.symm
 refine wpAny_call (zdI (f:=f) I.kIn M.makes M.init (beq_iff_eq.mp M.fn) (codeAny_mono (F.run _ X.stack _ _ ⟨Value.ref (s.heap.objs.size+1)::us,[]⟩ (Value.ref (s.heap.objs.size+1)::(us++ds)) _ _ E (hr.make C us [])
  (I2.env0.make C us []) (hb _ (Value.ref (s.heap.objs.size+1)::us) I2.kIn hl) r2 hq) λr s' hq'=>?_))
 cases r with
 |error e=>exact hx pins σ _ _ e s' I2 hq'
 |ok fl=>
  cases fl with
  |ret u=>
   obtain⟨v,H',I3,rv,ev,q3⟩:=I2.after hq'
   subst ev
   exact⟨rv,⟨V.ref (s.heap.objs.size+1),H',I3,rfl,q3⟩⟩
  |next=>exact False.elim hq'
  |brk=>exact False.elim hq'
  |cont=>exact False.elim hq'
theorem YS(M:Mk X.K C f)(F:zB X.prog X.w X.K X.mg X.base CX k f fd ps sp)(hr:Room (k+1) X.A)(hg:Gl X x)(hm:X.mg x=some (.ref C))(hb:Binds X.K fd ps ds)(hd:Vals dvs ds)(hx:Passes CX X E)
  (ha:PA X (e::es) t) (hdb:(x == ("__debug__":Str))=false:=by decide) (he:starEach (e::es) X.env=(false,eval e X.env)::starEach es X.env:=by rfl) (hpl:(backTo pos (starEach es X.env)).any (·.1)=false:=by rfl) :
  PE X (.Call (.Name x p) (e::es) [] pos) (j4 C sp dvs E t):=by
 intro pins s σ H Q I h
 refine wpAny_Call_Name_kw (Xm I hg hm ?_ hdb)
 refine PySem.W.callWith_K (h₀:=X.base) I.ok.mod.kin M.kp (thn (ha pos pins s σ H _ I h) λus s1 ⟨vs,H1,I1,r,q⟩=>⟨I1.kIn,?_⟩) he hpl
 exact zbE M F hr hb hd hx I1 r q
end
section
variable{X:Cx}{CX:CXT}{k:Nat}{f C:Addr}{fd:FuncData}{ps ks:List Str}{sp:Sp}{E:XK}{x m:Str}{p pos apos kpos:Pos}{e o:Expr}{es:List Expr}{kws:List Keyword}{te ta:TE}{t tk:TA}{nm:Option Str}
structure KBinds(K:PySem.W.Frag)(fd:FuncData)(ps ks:List Str)(g:List Value->List Value->List Value)(gV:List V->List V->List V):Prop where
 to:∀(s:Shared)(us ws:List Value),K.In s.heap->(g us ws).length=ps.length->BindsTo s fd ⟨us,ks.zip ws⟩ (ps.zip (g us ws))
 rel:∀{vs:List V}{us:List Value}{zs:List V}{ws:List Value},Vals vs us->Vals zs ws->Vals (gV vs zs) (g us ws)
variable{g:List Value->List Value->List Value}{gV:List V->List V->List V}
end
structure zK(N P:List Str)(sc:Scope):Prop where
 kind:sc.kind=.function
 co:sc.isCoroutine=false
 gen:sc.isGenerator=false
 nd:N.Nodup
 pre:N.take P.length=P
 par:∀x∈P,sc.names.lookup x=some .local∨sc.names.lookup x=some .cell
 nofree:∀y∈sc.names,y.2≠.free
theorem QH{kindOf:Str->Option NameKind}{x:Str}:∀{binds:List (Str×Value)}{m:Str->Option Value},(∀v,(x,v)∉binds)->bindL kindOf binds m x=m x
 |[],_,_=>rfl
 |(n,v)::r,m,h=>by
  unfold bindL
  rw[QH λw hw=>h w (List.mem_cons_of_mem _ hw)]
  split
  .have:x≠n:=by rintro rfl;exact h v List.mem_cons_self
   simp[this]
  .rfl
theorem QJ{kindOf:Str->Option NameKind}{x:Str}:∀{binds:List (Str×Value)}{m:Str->Option Value},(∀v,(x,v)∉binds)->bindC kindOf binds m x=m x
 |[],_,_=>rfl
 |(n,v)::r,m,h=>by
  unfold bindC
  rw[QJ λw hw=>h w (List.mem_cons_of_mem _ hw)]
  split
  .rfl
  .have:x≠n:=by rintro rfl;exact h v List.mem_cons_self
   simp[this]
theorem QI{kindOf:Str->Option NameKind}{x:Str}{v:Value}:∀{P:List Str}{vs:List Value}{i:Nat}{m:Str->Option Value},P.Nodup->P[i]? = some x->vs[i]? = some v->kindOf x=some .local ->
  bindL kindOf (P.zip vs) m x=some v
 |[],_,_,_,_,h,_,_=>by simp at h
 |_::_,[],_,_,_,_,h,_=>by simp at h
 |p::P,w::vs,0,m,nd,h1,h2,hk=>by
  simp at h1 h2;subst h1;subst h2
  show bindL kindOf ((p,w)::P.zip vs) m p=_
  unfold bindL
  rw[QH λv hv=>(List.nodup_cons.mp nd).1 (List.of_mem_zip hv).1,if_pos hk]
  simp
 |p::P,w::vs,i+1,m,nd,h1,h2,hk=>by
  show bindL kindOf ((p,w)::P.zip vs) m x=_
  unfold bindL
  exact QI (i:=i) (List.nodup_cons.mp nd).2 (by simpa using h1) (by simpa using h2) hk
theorem QK{kindOf:Str->Option NameKind}{x:Str}{v:Value}:∀{P:List Str}{vs:List Value}{i:Nat}{m:Str->Option Value},P.Nodup->P[i]? = some x->vs[i]? = some v->kindOf x≠some .local ->
  bindC kindOf (P.zip vs) m x=some v
 |[],_,_,_,_,h,_,_=>by simp at h
 |_::_,[],_,_,_,_,h,_=>by simp at h
 |p::P,w::vs,0,m,nd,h1,h2,hk=>by
  simp at h1 h2;subst h1;subst h2
  show bindC kindOf ((p,w)::P.zip vs) m p=_
  unfold bindC
  rw[QJ λv hv=>(List.nodup_cons.mp nd).1 (List.of_mem_zip hv).1,if_neg hk]
  simp
 |p::P,w::vs,i+1,m,nd,h1,h2,hk=>by
  show bindC kindOf ((p,w)::P.zip vs) m x=_
  unfold bindC
  exact QK (i:=i) (List.nodup_cons.mp nd).2 (by simpa using h1) (by simpa using h2) hk
def start(N:List Str)(vs:List V):St:=vs.map some++List.replicate (N.length-vs.length) none
def uN(CX:CXT)(P:Program)(w:World)(K:PySem.W.Frag)(mg:Str->Option Value)(base:Heap)(N:List Str)(qual:Str)(scope:Scope)(f:Addr)(cd:Value)(A:Around)(outer:List Env)(s:Shared)(H:Hp)(E:XK):Cx where
 prog:=P
 w:=w
 K:=K
 mg:=mg
 base:=base
 A:=A.deeper (envOfC qual scope s.heap.objs.size f cd)
 N:=N
 s_0:=s
 H_0:=H
 env:=envOfC qual scope s.heap.objs.size f cd
 outer:=outer
 stack:=envOfC qual scope s.heap.objs.size f cd::outer
 ex:=[]
 calm:=true
 fn:=λ_=>true
 pn:=[]
 xe:=λe s'=>wpAny (model P w) (A.deeper (envOfC qual scope s.heap.objs.size f cd)) (leaving (envOfC qual scope s.heap.objs.size f cd) e) (λ_ s''=>CX outer H s E e s'') (λe' s''=>CX outer H s E e' s'') s'
theorem QB{sc:Scope}{n:Nat}{x:Str}(h:sc.names.lookup x=some .cell):∃c,(cellsFrom n sc.names []).lookup x=some c:=by
 have q:=PySem.W.cellsFrom_some sc.names n [] (.inl h)
 exact Option.isSome_iff_exists.mp q
theorem zer{CX:CXT}{P:Program}{w:World}{K:PySem.W.Frag}{mg:Str->Option Value}{base:Heap}{N ps:List Str}{qual:Str}{scope:Scope}{f:Addr}{cd:Value}{A:Around}{outer:List Env}{s s1:Shared}{H:Hp}{E:XK}{us:List Value}{vs:List V}
  (S:zK N ps scope) (hd:A.handled=none) (e0:Env0 P w K mg base A outer s H) (hl:vs.length=ps.length) (r:Vals vs us)
  (x:InCallC s s.heap.objs.size (bindL (envOfC qual scope s.heap.objs.size f cd).kindOf (ps.zip us) λ_=>none) (cellsFrom (s.heap.objs.size+1) scope.names []) (bindC (envOfC qual scope s.heap.objs.size f cd).kindOf (ps.zip us) λ_=>none) s1) :
  Inv (uN CX P w K mg base N qual scope f cd A outer s H E) [] (start N vs) H s1:=by
 have hpl:ps.length<=N.length:=by have:=congrArg List.length S.pre;rw[List.length_take] at this;omega
 obtain⟨h1,tk,rfl,hk⟩:=x.done
 have noA:∀b:Addr,b∉(uN CX P w K mg base N qual scope f cd A outer s H E).ex:=λb z=>absurd (show b∈([]:List Addr) from z) (by simp)
 refine⟨⟨e0.mod,S.kind,rfl,rfl,Nat.le_refl _,λy z c h1 h2=>?_,λy hy=>?_,λy c _ h=>?_,λ_=>hd,Around.frames_deeper e0.frames,.inr ⟨rfl,rfl⟩,λb z=>absurd z (noA b),e0.bs,e0.bsz,λb _ _=>noA b,λb z=>absurd z (noA b),e0.funs,e0.frf⟩,
  rfl,e0.bare,Un.kept hk,⟨_,x.toInCall.ns,λi y v h1 h2 h3=>?_⟩,λy c h=>⟨_,x.cell y c h⟩,e0.hok.fresh (Nat.le_refl _),λy c h=>?_,λp hp=>absurd (show p∈([]:List (Addr×Obj)) from hp) (by simp),e0.hok.kept hk,?_⟩
 .exact name_of_addr x.apart (PySem.mem_of_lookup h1) (PySem.mem_of_lookup h2)
 .have hy:scope.names.lookup y=some .cell∨scope.names.lookup y=some .free:=hy
  rcases hy with hy|hy
  .exact QB hy
  .exact absurd rfl (S.nofree _ (PySem.mem_of_lookup hy))
 .exact Nat.le_of_lt (x.above y c (PySem.mem_of_lookup h))
 .have hi:i<vs.length:=by
   unfold start at h2
   by_cases hi:i<vs.length
   .exact hi
   .rw[List.getElem?_append_right (by simpa using hi)] at h2
    rw[List.getElem?_replicate] at h2
    split at h2<;>cases h2
  have ha:vs[i]? = some v:=by
   unfold start at h2
   rw[List.getElem?_append_left (by simpa using hi),List.getElem?_map] at h2
   cases e:vs[i]? with
   |none=>rw[e] at h2;cases h2
   |some a=>rw[e] at h2;cases h2;rfl
  obtain⟨u,hu,rv⟩:=r.get ha
  have hp:ps[i]? = some y:=by
   rw[<- S.pre,List.getElem?_take_of_lt (by omega)];exact h1
  have ndP:ps.Nodup:=by rw[<- S.pre];exact S.nd.sublist (List.take_sublist _ _)
  refine⟨u,rv,?_⟩
  rcases S.par y (List.mem_of_getElem? hp) with k|k
  .exact .inl ⟨k,QI ndP hp hu k⟩
  .obtain⟨c,e⟩:=QB (n:=s.heap.objs.size+1) k
   refine .inr ⟨.inl k,c,e,?_⟩
   have q:=x.cell y c e
   rw[QK ndP hp hu (by show scope.names.lookup y≠_;rw[k];decide)] at q
   exact q
 .exact e0.hok.fresh (Nat.le_of_lt (x.above y c (PySem.mem_of_lookup h)))
 .unfold start
  show _=N.length
  rw[List.length_append,List.length_map,List.length_replicate]
  omega
theorem zeF{CX:CXT}{P:Program}{w:World}{K:PySem.W.Frag}{mg:Str->Option Value}{base:Heap}{k:Nat}{f:Addr}{name qual:Str}{params:Arguments}{body:List Stmt}{scope:Scope}{dV kV doc pm cdv ct oc:Value}{an od:Option Addr}
  {osl:Array (Option Value)} {N ps:List Str} {sp:Sp} (lk:K.lookup f=some ⟨oc,od,.func (PySem.W.fnOf name qual params body scope dV kV doc pm an cdv ct),osl⟩) (hcd:PySem.W.codeIn K cdv qual=true) (S:zK N ps scope)
  (len:∀vs H Q E,sp vs H Q E->vs.length=ps.length)
  (hbody:∀(A:Around)(outer:List Env)(s:Shared)(H:Hp)(vs:List V)(Q:VK)(E:XK),Room k (A.deeper (envOfC qual scope s.heap.objs.size f cdv))->sp vs H Q E ->
   ∃t,PSs (uN CX P w K mg base N qual scope f cdv A outer s H E) body t/\t { nx:=λ_ H'=>Q .non H',rt:=Q } (start N vs) H) :
  zB P w K mg base CX (k+1) f (PySem.W.fnOf name qual params body scope dV kV doc pm an cdv ct) ps sp:=by
 refine⟨len,λA outer s H args us vs Q E hr e0 hb r hsp=>?_⟩
 have hl:=len _ _ _ _ hsp
 have KX:K.In s.heap:=e0.mod.kin.keeps λb o e=>(e0.bs b o e).1
 have lim:s.heap.NoLimit:=e0.mod.nolimit.keeps λb o e=>(e0.bs b o e).1
 have hkind:∀y∈ps.zip us,scope.names.lookup y.1=some .local∨(scope.names.lookup y.1=some .cell/\((cellsFrom (s.heap.objs.size+1) scope.names []).lookup y.1).isSome=true):=λ⟨n,v⟩ hy=>by
  rcases S.par n (List.of_mem_zip hy).1 with q|q
  .exact .inl q
  .exact .inr ⟨q,PySem.W.cellsFrom_some _ _ _ (.inl q)⟩
 refine codeAny_call_function hr.depth (KX _ _ lk) rfl S.co S.gen rfl (PySem.W.codeRec_of KX hcd) (hb _ _ _ _ ?_)
 refine wpAny_newFunctionEnv_cells S.kind hkind λenv he s1 x=>?_
 subst he
 refine⟨lim.keeps x.toInCall.keep,codeAny_func ?_⟩
 obtain⟨t,ht,hq⟩:=hbody A outer s H vs Q E (hr.deeper _) hsp
 have I:Inv (uN CX P w K mg base N qual scope f cdv A outer s H E) [] (start N vs) H s1:=zer S hr.hd e0 hl r x
 refine wpAny_mono (ht [] s1 (start N vs) H _ I hq) (λfl s' hs=>?_) λe s' hs=>hs
 have fin:∀{σ':St}{H':Hp}{v:V}{u:Value},Inv (uN CX P w K mg base N qual scope f cdv A outer s H E) [] σ' H' s'->zr v u->Q v H'->CE outer P w H s Q u s' :=
  λ{σ' H' v u} J rv q=>⟨v,H',J.os,J.bare,J.base,J.hok,rv,q⟩
 cases fl with
 |ret u=>
  obtain⟨v,σ',H',J,rv,q⟩:=hs
  exact fin J rv q
 |next=>
  obtain⟨σ',H',J,q⟩:=hs
  exact fin (v:=V.non) (u:=Value.none) J rfl q
 |brk=>
  obtain⟨_,_,_,q⟩:=hs
  exact False.elim q
 |cont=>
  obtain⟨_,_,_,q⟩:=hs
  exact False.elim q
end L2
namespace L2
open PySem PySem.Spec PyProof.Rows
section
variable{X:Cx}{x:Str}{p pos:Pos}{e:Expr}{es:List Expr}{t:TA}{id T:String}{r:List V->Hp->VK->Prop}
def tCB(r:List V->Hp->VK->Prop)(t:TA):TE:=fun σ H Q=>t σ H λvs H1=>r vs H1 Q
theorem zV(hc:wA X (.builtin id) r)(hg:Gl X x)(hm:X.mg x=none)(hv:bootBuiltins x=some (.builtin id))(ha:PA X (e::es) t)(hn:x≠"__name__":=by decide)(hdb:(x == ("__debug__":Str))=false:=by decide)
  (he:starEach (e::es) X.env=(false,eval e X.env)::starEach es X.env:=by rfl) (hpl:(backTo pos (starEach es X.env)).any (·.1)=false:=by rfl):PE X (.Call (.Name x p) (e::es) [] pos) (tCB r t):=by
 intro pins s σ H Q I h
 refine wpAny_Call_Name_kw (jB I hg hm hv ?_ hn hdb)
 exact PyProof.Rows.callWith_builtin1 (thn (ha pos pins s σ H _ I h) λus s1 ⟨vs,H1,I1,r1,q1⟩=>hc pins s1 σ H1 vs us Q I1 r1 q1) he hpl
theorem wV(hc:wA X (.type T) r)(hg:Gl X x)(hm:X.mg x=none)(hv:bootBuiltins x=some (.type T))(ha:PA X (e::es) t)(hn:x≠"__name__":=by decide)(hdb:(x == ("__debug__":Str))=false:=by decide)
  (he:starEach (e::es) X.env=(false,eval e X.env)::starEach es X.env:=by rfl) (hpl:(backTo pos (starEach es X.env)).any (·.1)=false:=by rfl):PE X (.Call (.Name x p) (e::es) [] pos) (tCB r t):=by
 intro pins s σ H Q I h
 refine wpAny_Call_Name_kw (jB I hg hm hv ?_ hn hdb)
 exact PyProof.Rows.callWith_type1 (thn (ha pos pins s σ H _ I h) λus s1 ⟨vs,H1,I1,r1,q1⟩=>hc pins s1 σ H1 vs us Q I1 r1 q1) he hpl
end
end L2
namespace HT
open PySem PyProof.Rows
section
open PySem.SeqAt
open PySem.AutoSeq1 (wpAny_loadPart')
open PySem.MeetsSeq PySem.MeetsSeq2 PySem.MeetsSeq3
end
section
variable{prog:Program}{w:World}{A:Around}{E:Value->Shared->Prop}{s:Shared}
def sIx(n d:Nat):Option Int->Nat
 |none=>d
 |some v=>if v<0 then (v+(n:Int)).toNat else min v.toNat n
theorem sIx_none(n d:Nat):sIx n d none=d:=rfl
theorem sIx_nat(n d k:Nat):sIx n d (some (k:Int))=min k n:=by
 show(if (k:Int)<0 then ((k:Int)+(n:Int)).toNat else min (k:Int).toNat n)=min k n
 rw[if_neg (by omega),Int.toNat_natCast]
end
end HT
namespace L2
open PySem PySem.Spec PyProof.Rows
abbrev TO:=St->Hp->(Option Int->Hp->Prop)->Prop
def PO(X:Cx)(e:Option Expr)(t:TO):Prop :=
 ∀(pins:List (Addr×Obj)) (s:Shared) (σ:St) (H:Hp) (Q:Option Int->Hp->Prop),Inv X pins σ H s->t σ H Q ->
  wpAny (model X.prog X.w) X.A (evalPart e X.env) (λu s'=>∃o H',Inv X pins σ H' s'/\IsPart u o/\Q o H') X.xe s
def uf:TO:=λ_ H Q=>Q none H
def xf(t:TE):TO:=fun σ H Q=>t σ H λx H1=>∃i,x=.int i/\Q (some i) H1
section
variable{X:Cx}{e:Expr}{te:TE}{lo hi:Option Expr}{tl th:TO}{pos p2:Pos}
theorem km:PO X none uf:=by
 intro pins s σ H Q I h
 rw[evalPart_none]
 exact wpAny_pure ⟨none,H,I,.none,h⟩
theorem vi(h:PE X e te):PO X (some e) (xf te):=by
 intro pins s σ H Q I hw
 rw[evalPart_some]
 refine thn (h pins s σ H _ I hw) λu s1 ⟨x,H1,I1,r1,q1⟩=>?_
 obtain⟨i,rfl,q⟩:=q1
 obtain⟨t,rfl⟩:=r1
 exact⟨some i,H1,I1,.int i t,q⟩
def SlR(X:Cx)(r:V->Option Int->Option Int->Hp->VK->Prop):Prop :=
 ∀(pins:List (Addr×Obj)) (s:Shared) (σ:St) (H:Hp) (x:V) (v vl vu:Value) (lo hi:Option Int) (sl:Addr) (Q:VK),Inv X pins σ H s->zr x v->s.heap.IsSliceOf sl vl vu .none->IsPart vl lo->IsPart vu hi->r x lo hi H Q ->
  ∃T id,typeLookup (.type T) "__getitem__"=pure (some (.builtin id))/\s.TypeIs v T/\wpAny (model X.prog X.w) X.A (getItem v (.ref sl)) (EP X pins σ Q) X.xe s
def tSl(r:V->Option Int->Option Int->Hp->VK->Prop)(te:TE)(tl th:TO):TE:=fun σ H Q=>te σ H λx H1=>tl σ H1 λl H2=>th σ H2 λu H3=>r x l u H3 Q
theorem ur{r:V->Option Int->Option Int->Hp->VK->Prop}(hr:SlR X r)(he:PE X e te)(hl:PO X lo tl)(hu:PO X hi th):PE X (.Subscript e (.Slice lo hi none p2) pos) (tSl r te tl th):=by
 intro pins s σ H Q I h
 refine Subscript_ (thn (he pins s σ H _ I h) λv s1 ⟨x,H1,I1,r1,q1⟩=>?_)
 refine wpAny_Slice (thn (hl pins s1 σ H1 _ I1 q1) λvl s2 ⟨l,H2,I2,pl,q2⟩=>thn (hu pins s2 σ H2 _ I2 q2) λvu s3 ⟨u,H3,I3,pu,q3⟩=>?_)
 rw[evalPart_none]
 refine wpAny_pure ?_
 have I4:Inv X pins σ H3 { s3 with heap:=s3.heap.push { cls:=.type "slice",data:=.fields #[vl,vu,.none] } }:=I3.kept (t':=s3.toks) λb ob q=>Heap.get?_push_of_some _ q
 obtain⟨T,id,hT,ht,hg⟩:=hr pins { s3 with heap:=s3.heap.push { cls:=.type "slice",data:=.fields #[vl,vu,.none] } } σ H3 x v vl vu l u s3.heap.objs.size Q I4 r1 (Heap.IsSliceOf.new ..) pl pu q3
 show wpAny (model X.prog X.w) X.A (subscriptTail e (.Slice lo hi none p2) v (.ref s3.heap.objs.size)) (EP X pins σ Q) X.xe { s3 with heap:=s3.heap.push { cls:=.type "slice",data:=.fields #[vl,vu,.none] } }
 exact tail_any (ops:=[.ref s3.heap.objs.size,v]) ht hT hg (by with_unfolding_all rfl)
def x0(xs:List V)(lo hi:Option Int):List V:=(xs.drop (HT.sIx xs.length 0 lo)).take (HT.sIx xs.length xs.length hi-HT.sIx xs.length 0 lo)
theorem zfa(xs:List V)(lo hi:Option Int):(x0 xs lo hi).length<=xs.length:=by
 unfold x0
 rw[List.length_take,List.length_drop]
 omega
end
end L2
namespace L2
open PySem PySem.Spec PyProof.Rows
def ixN(n:Nat)(i:Int):Option Nat:=if 0<=i then (if i<n then some i.toNat else none) else if -(n:Int)<=i then some (i+n).toNat else none
def atI{α:Type}(xs:List α)(i:Int):Option α:=(ixN xs.length i).bind λj=>xs[j]?
theorem JR{n:Nat}{i:Int}{j:Nat}(h:ixN n i=some j):seqIndex? i n=some j/\j<n/\-(n:Int)<=i/\i<n:=by
 unfold ixN at h
 by_cases h0:0<=i
 .rw[if_pos h0] at h
  by_cases h1:i<n
  .rw[if_pos h1] at h
   have e:i.toNat=j:=Option.some.inj h
   exact⟨by rw[seqIndex_of h0 h1,e],by omega,by omega,h1⟩
  .rw[if_neg h1] at h;cases h
 .rw[if_neg h0] at h
  by_cases h1:-(n:Int)<=i
  .rw[if_pos h1] at h
   have e:(i+n).toNat=j:=Option.some.inj h
   exact⟨by rw[seqIndex_neg (by omega) h1,e],by omega,h1,by omega⟩
  .rw[if_neg h1] at h;cases h
theorem zf1{α:Type}{xs:List α}{i:Int}{v:α}(h:atI xs i=some v):∃j,seqIndex? i xs.length=some j/\xs[j]? = some v/\j<xs.length/\-(xs.length:Int)<=i/\i<xs.length:=by
 unfold atI at h
 cases e:ixN xs.length i with
 |none=>rw[e] at h;cases h
 |some j=>
  rw[e] at h
  obtain⟨h1,h2,h3,h4⟩:=JR e
  exact⟨j,h1,h,h2,h3,h4⟩
theorem uT{α:Type}{xs:List α}{j:Nat}{v:α}(h:xs[j]? = some v):atI xs (j:Int)=some v:=by
 have hj:j<xs.length:=(List.getElem?_eq_some_iff.mp h).1
 have e:ixN xs.length (j:Int)=some j:=by
  unfold ixN
  rw[if_pos (by omega),if_pos (by omega)];simp
 unfold atI;rw[e];exact h
def zgg(b:Expr):Prop:=∀o i,subscripted b false o i=operate [o,i] (getItem o i)
def IxR(X:Cx)(r:R2):Prop :=
 ∀(value slice:Expr)(pins:List (Addr×Obj)) (s:Shared) (σ:St) (H:Hp) (x y:V) (v u:Value) (Q:VK),Inv X pins σ H s->zr x v->zr y u->r x y H Q ->
  subscripted slice false v u=operate [v,u] (getItem v u)->wpAny (model X.prog X.w) X.A (subscriptTail value slice v u) (EP X pins σ Q) X.xe s
def MtR(X:Cx)(id:String)(r:V->List V->Hp->VK->Prop):Prop :=
 ∀(pins:List (Addr×Obj)) (s:Shared) (σ:St) (H:Hp) (x:V) (xs:List V) (v:Value) (us:List Value) (Q:VK),Inv X pins σ H s->zr x v->Vals xs us->r x xs H Q ->
  wpAny (model X.prog X.w) X.A (call (.builtin id) (v::us)) (EP X pins σ Q) X.xe s
section
variable{X:Cx}{a b:Expr}{ta tb:TE}{pos:Pos}
theorem zF{r:R2}(hr:IxR X r)(ha:PE X a ta)(hb:PE X b tb)(hs:zgg b):PE X (.Subscript a b pos) (tOp r ta tb):=by
 intro pins s σ H Q I h
 exact Subscript_ (XY ha hb I h λv u s2 x y H2 I2 rx ry q=>hr a b pins s2 σ H2 x y v u Q I2 rx ry q (hs _ _))
def zu(K:PySem.W.Frag):R2:=λx y H Q=>∃p xs i v,x=.ref p/\y=.int i/\SqL K H p xs/\atI xs i=some v/\Q v H
theorem zG:IxR X (zu X.K):=by
 intro value slice pins s σ H x y v u Q I rx ry h hs
 obtain⟨p,xs,i,z,rfl,rfl,hq,he,q⟩:=h
 cases rx
 obtain⟨t,rfl⟩:=ry
 obtain⟨its,r,pl,hz⟩:=I.list hq
 obtain⟨j,h1,h2,h3,h4,h5⟩:=zf1 he
 obtain⟨w,ew,rw'⟩:=r.get h2
 have hl:=r.length
 have hn:=line63
 have fin:EP X pins σ Q w s:=⟨z,H,I,rw',q⟩
 by_cases h0:0<=i
 .have hj:i.toNat=j:=by
   rw[seqIndex_of h0 h5] at h1
   exact Option.some.inj h1
  exact item_listR pl.isList h0 (by omega) (by rw[hj];simpa using ew) fin hs
 .have hj:(i+(its.toArray.size:Int)).toNat=j:=by
   rw[seqIndex_neg (by omega) h4] at h1
   rw[List.size_toArray,<- hl]
   exact Option.some.inj h1
  exact subscriptTail_builtinR (x:=w) pl.isList.typeIs slot_list_getitem.lookup
   (wpAny_getItem_list_neg (Q:=λr s'=>r=w/\EP X pins σ Q r s') pl.isList (by omega) (by rw[List.size_toArray]<;>omega) (by omega) (by rw[hj];simpa using ew) ⟨rfl,fin⟩) hs
theorem zdG(its:List Value)(n j:Nat)(u:Value):Obj.mapSeq (·.setIfInBounds j u) { cls:=.type "list",data:=.seq its.toArray n }={ cls:=.type "list",data:=.seq (its.set j u).toArray n }:=by
 simp[Obj.mapSeq]
theorem Inv.lst{pins:List (Addr×Obj)}{σ:St}{H:Hp}{s:Shared}{p:Addr}{xs:List V}(I:Inv X pins σ H s)(h:H p=some (.lst xs)) :
  ∃(its:List Value)(n:Nat),Vals xs its/\s.heap.get? p=some { cls:=.type "list",data:=.seq its.toArray n }/\xs.length<=sizeLine:=by
 obtain⟨z,its,n,r,e⟩:=I.hok p _ h
 exact⟨its,n,r,e,z⟩
theorem Inv.lstUpd{pins:List (Addr×Obj)}{σ:St}{H:Hp}{s:Shared}{p:Addr}{xs ys:List V}{its its':List Value}{n n':Nat}{f:Obj->Obj}(I:Inv X pins σ H s)(h:H p=some (.lst xs))
  (ho:s.heap.get? p=some { cls:=.type "list",data:=.seq its.toArray n }) (hf:f { cls:=.type "list",data:=.seq its.toArray n }={ cls:=.type "list",data:=.seq its'.toArray n' }) (r:Vals ys its') (hz:ys.length<=sizeLine) (t:Nat) :
  Inv X pins σ (upd H p (.lst ys)) { s with heap:=s.heap.update p f,toks:=t }:=by
 have e:(s.heap.update p f).get? p=some { cls:=.type "list",data:=.seq its'.toArray n' }:=by
  rw[Heap.get?_update_self f ho (by rw[hf]<;>rfl),hf]
 refine I.write (x:=p) (e:=p) (by rw[h];trivial) (.inl rfl) (λb u hb q=>(Heap.get?_update_other _ _ (Ne.symm hb)).trans q) ⟨_,e⟩ ?_
 exact⟨hz,its',n',r,e⟩
def xS:V->V->V->Hp->(Hp->Prop)->Prop:=λo i v H Q=>∃p xs k j,o=.ref p/\i=.int k/\H p=some (.lst xs)/\ixN xs.length k=some j/\Q (upd H p (.lst (xs.set j v)))
theorem wG:PSet X xS:=by
 intro pins s σ H o i v ov iv u Q I ro ri rv h
 obtain⟨p,xs,k,j,rfl,rfl,hp,hj,q⟩:=h
 cases ro
 obtain⟨t,rfl⟩:=ri
 obtain⟨its,n,r,ho,hz⟩:=I.lst hp
 obtain⟨h1,h2,h3,h4⟩:=JR hj
 have hl:=r.length
 have hn:=line63
 have I':Inv X pins σ (upd H p (.lst (xs.set j v))) { s with heap:=s.heap.update p (Obj.mapSeq (·.setIfInBounds j u)) } :=
  I.lstUpd hp ho (zdG its n j u) (r.set rv j) (by rw[List.length_set];exact hz) s.toks
 by_cases h0:0<=k
 .have hk:k.toNat=j:=by
   rw[seqIndex_of h0 h4] at h1
   exact Option.some.inj h1
  exact PySem.W.ki_setAt ho h0 (by omega) (by rw[List.size_toArray,<- hl];exact h4) (by rw[hk];exact⟨_,I',q⟩)
 .have hk:(k+(its.toArray.size:Int)).toNat=j:=by
   rw[seqIndex_neg (by omega) h3] at h1
   rw[List.size_toArray,<- hl]
   exact Option.some.inj h1
  exact PySem.W.ki_setBack ho (by omega) (by rw[List.size_toArray,<- hl];exact h3) (by omega) (by rw[hk];exact⟨_,I',q⟩)
theorem zbx(lo hi:Option Int)(n:Nat):(sliceBounds lo hi none n).1=((HT.sIx n 0 lo:Nat):Int)/\(sliceBounds lo hi none n).2.1=((HT.sIx n n hi:Nat):Int)/\(sliceBounds lo hi none n).2.2=1:=by
 refine⟨?_,?_,rfl⟩
 .cases lo with
  |none=>simp[sliceBounds,HT.sIx]
  |some i=>
   simp only[sliceBounds,HT.sIx,Option.getD_none,show(1:Int) > 0 by decide,if_true]
   by_cases h:i<0
   .simp only[h,if_true]<;>omega
   .simp only[h,if_false]<;>omega
 .cases hi with
  |none=>simp[sliceBounds,HT.sIx]
  |some i=>
   simp only[sliceBounds,HT.sIx,Option.getD_none,show(1:Int) > 0 by decide,if_true]
   by_cases h:i<0
   .simp only[h,if_true]<;>omega
   .simp only[h,if_false]<;>omega
theorem zby(its:List Value)(lo hi:Option Int):slicePick its.toArray lo hi none=((its.drop (HT.sIx its.length 0 lo)).take (HT.sIx its.length its.length hi-HT.sIx its.length 0 lo)).toArray:=by
 obtain⟨h1,h2,h3⟩:=zbx lo hi its.toArray.size
 unfold slicePick
 rw[h1,h2,h3]
 simp only[sliceRange_one,pick_run,List.size_toArray]<;>rfl
def we(K:PySem.W.Frag):V->Option Int->Option Int->Hp->VK->Prop:=λx lo hi H Q=>∃a xs,x=.ref a/\SqL K H a xs/\∀p,H p=none->Q (.ref p) (upd H p (.lst (x0 xs lo hi)))
theorem uk:SlR X (we X.K):=by
 intro pins s σ H x v vl vu lo hi sl Q I rx hs pl pu h
 obtain⟨a,xs,rfl,hx,q⟩:=h
 cases rx
 obtain⟨its,r,ht,hz⟩:=I.list hx
 have hlen:=r.length
 refine⟨"list",_,slot_list_getitem.lookup,ht.isList.typeIs,?_⟩
 refine wpAny_getItem_list_slice ht.isList hs pl pu .none (by simp) ?_ (by rw[List.size_toArray]<;>omega)
 rw[zby,<- hlen]
 refine⟨.ref s.heap.objs.size,_,I.laid (t':=s.toks) (o:=.lst (x0 xs lo hi)) (λb ob q=>Heap.get?_push_of_some _ q) (Nat.le_refl _) ?_,rfl,q _ (I.hok.fresh (Nat.le_refl _))⟩
 exact⟨Nat.le_trans (zfa xs lo hi) hz,_,0,(r.drop (HT.sIx xs.length 0 lo)).take (HT.sIx xs.length xs.length hi-HT.sIx xs.length 0 lo),Heap.get?_push_size _ rfl⟩
def xk:V->Bool
 |.non=>true
 |.bl _=>true
 |.int _=>true
 |.str _=>true
 |_=>false
def eqV:V->V->Bool
 |.non,.non=>true
 |.bl a,.bl b=>a == b
 |.bl a,.int b=>(if a then 1 else 0) == b
 |.int a,.bl b=>a == (if b then 1 else 0)
 |.int a,.int b=>a == b
 |.str a,.str b=>a == b
 |_,_=>false
theorem zeL{A:Around}{s:Shared}{y x:V}{u v:Value}(ry:zr y u)(rx:zr x v)(fy:xk y=true)(fx:xk x=true):SeqAt.EqAt A s u v (eqV y x):=by
 cases y with
 |non=>
  cases ry
  cases x with
  |non=>cases rx;exact SeqAt.EqAt.same _
  |bl b=>cases rx;exact SeqAt.EqAt.none_bool b
  |int b=>obtain⟨t,rfl⟩:=rx;exact SeqAt.EqAt.none_int b t
  |str b=>obtain⟨t,rfl⟩:=rx;exact SeqAt.EqAt.none_str b t
  |_=>exact absurd (show false=true from fx) Bool.false_ne_true
 |bl a=>
  cases ry
  cases x with
  |non=>cases rx;exact SeqAt.EqAt.bool_none a
  |bl b=>cases rx;exact SeqAt.EqAt.bool_bool a b
  |int b=>obtain⟨t,rfl⟩:=rx;exact SeqAt.EqAt.bool_int a b t
  |str b=>obtain⟨t,rfl⟩:=rx;exact SeqAt.EqAt.bool_str a b t
  |_=>exact absurd (show false=true from fx) Bool.false_ne_true
 |int a=>
  obtain⟨t',rfl⟩:=ry
  cases x with
  |non=>cases rx;exact SeqAt.EqAt.int_none a t'
  |bl b=>cases rx;exact SeqAt.EqAt.int_bool a t' b
  |int b=>obtain⟨t,rfl⟩:=rx;exact SeqAt.EqAt.int_int a t' b t
  |str b=>obtain⟨t,rfl⟩:=rx;exact SeqAt.EqAt.int_str a t' b t
  |_=>exact absurd (show false=true from fx) Bool.false_ne_true
 |str a=>
  obtain⟨t',rfl⟩:=ry
  cases x with
  |non=>cases rx;exact SeqAt.EqAt.str_none a t'
  |bl b=>cases rx;exact SeqAt.EqAt.str_bool a t' b
  |int b=>obtain⟨t,rfl⟩:=rx;exact SeqAt.EqAt.str_int a t' b t
  |str b=>obtain⟨t,rfl⟩:=rx;exact SeqAt.EqAt.str_str a t' b t
  |_=>exact absurd (show false=true from fx) Bool.false_ne_true
 |_=>exact absurd (show false=true from fy) Bool.false_ne_true
def eqU(x:V)(u:Value):Bool:=match u with
 |.none=>eqV .non x
 |.bool b=>eqV (.bl b) x
 |.int i _=>eqV (.int i) x
 |.str z _=>eqV (.str z) x
 |_=>false
theorem kW{x y:V}{u:Value}(r:zr y u)(f:xk y=true):eqU x u=eqV y x:=by
 cases y with
 |non=>cases r;rfl
 |bl b=>cases r;rfl
 |int i=>obtain⟨t,rfl⟩:=r;rfl
 |str z=>obtain⟨t,rfl⟩:=r;rfl
 |_=>exact absurd (show false=true from f) Bool.false_ne_true
theorem X3{x:V}:∀{xs:List V}{us:List Value},Vals xs us->xs.all xk=true->us.any (eqU x)=xs.any λy=>eqV y x
 |_,_,.nil,_=>rfl
 |y::xs,u::us,.cons r t,f=>by
  rw[List.all_cons,Bool.and_eq_true] at f
  rw[List.any_cons,List.any_cons,kW r f.1,X3 t f.2]
theorem kH{A:Around}{s:Shared}{x:V}{v:Value}(rx:zr x v)(fx:xk x=true):∀{xs:List V}{us:List Value},Vals xs us->xs.all xk=true->∀u∈us,SeqAt.EqAt A s u v (eqU x u)
 |_,_,.nil,_=>λu hu=>by cases hu
 |y::xs,u::us,.cons r t,f=>λu' hu=>by
  rw[List.all_cons,Bool.and_eq_true] at f
  rcases List.mem_cons.mp hu with rfl|hu
  .rw[kW r f.1];exact zeL r rx f.1 fx
  .exact kH rx fx t f.2 u' hu
def inV(x:V)(xs:List V):Bool:=xs.any λy=>eqV y x
def rIn(K:PySem.W.Frag)(neg:Bool):R2:=λx y H Q=>∃p xs,y=.ref p/\(SqL K H p xs∨SqT K H p xs)/\xk x=true/\xs.all xk=true/\Q (.bl (if neg then !inV x xs else inV x xs)) H
theorem ku:OpR X (compareOp .In) (rIn X.K false):=by
 intro pins s σ H x y v u Q I rx ry h
 obtain⟨p,xs,rfl,hq,fx,fs,q⟩:=h
 cases ry
 rcases hq with hq|hq
 .obtain⟨its,r,pl,hz⟩:=I.list hq
  refine SeqAt.in_listAt (eqU x) pl.isList (λw hw=>kH rx fx r fs w (by simpa using hw)) ⟨.bl _,H,I,rfl,?_⟩
  rw[show its.toArray.any (eqU x)=its.any (eqU x) by simp,X3 r fs]
  exact q
 .obtain⟨its,r,pl,hz⟩:=I.tuple hq
  refine SeqAt.in_tupleAt (eqU x) pl (λw hw=>kH rx fx r fs w (by simpa using hw)) ⟨.bl _,H,I,rfl,?_⟩
  rw[show its.toArray.any (eqU x)=its.any (eqU x) by simp,X3 r fs]
  exact q
theorem yn:wA X (.builtin "len") (λxs H Q=>∃p ys,xs=[.ref p]/\(SqL X.K H p ys∨SqT X.K H p ys)/\Q (.int ys.length) H):=by
 intro pins s σ H xs us Q I r h
 obtain⟨p,ys,rfl,hq,q⟩:=h
 obtain⟨u,rfl,rx⟩:=vals1 r
 cases rx
 have hn:=line63
 rcases hq with hq|hq
 .obtain⟨its,r',pl,hz⟩:=I.list hq
  have hlen:=r'.length
  exact Calls.call_len_list pl.isList (by simp only[List.size_toArray]<;>omega) ⟨.int ys.length,H,I.tok _,⟨s.toks+1,by rw[List.size_toArray,hlen]⟩,q⟩
 .obtain⟨its,r',pl,hz⟩:=I.tuple hq
  have hlen:=r'.length
  exact len_tuple pl (by simp only[List.size_toArray]<;>omega) ⟨.int ys.length,H,I.tok _,⟨s.toks+1,by rw[List.size_toArray,hlen]⟩,q⟩
theorem Ze:wA X (.type "list") (λxs H Q=>∃p ys,xs=[.ref p]/\(SqL X.K H p ys∨SqT X.K H p ys)/\∀l,H l=none->Q (.ref l) (upd H l (.lst ys))):=by
 intro pins s σ H xs us Q I r h
 obtain⟨p,ys,rfl,hq,q⟩:=h
 obtain⟨u,rfl,rx⟩:=vals1 r
 cases rx
 have fin:∀(its:List Value),Vals ys its->ys.length<=sizeLine->∀(h':Heap)(c':Nat),(∀b o',s.heap.get? b=some o'->h'.get? b=some o') ->
   h'.get? s.heap.objs.size=some { cls:=.type "list",dict:=none,data:=.seq its.toArray c',slots:=#[] }->EP X pins σ Q (.ref s.heap.objs.size) { s with heap:=h' }:=λits r' hz h' c' kp e=>
  ⟨.ref s.heap.objs.size,_,I.laid (t':=s.toks) kp (Nat.le_refl _) (show yy X.prog X.w _ h' _ (.lst ys) from⟨hz,its,c',r',e⟩),rfl,q _ (I.hok.fresh (Nat.le_refl _))⟩
 rcases hq with hq|hq
 .obtain⟨its,r',pl,hz⟩:=I.list hq
  have hlen:=r'.length
  obtain⟨o,ho,hc,n,hd⟩:=pl.isList
  exact call_list_seq p (.inl rfl) ho hc hd (λh' c' kp e=>fin its r' hz h' c' kp e) (by simp only[List.size_toArray]<;>omega)
 .obtain⟨its,r',pl,hz⟩:=I.tuple hq
  have hlen:=r'.length
  obtain⟨o,ho,hc,n,hd⟩:=pl
  exact call_list_seq p (.inr rfl) ho hc hd (λh' c' kp e=>fin its r' hz h' c' kp e) (by simp only[List.size_toArray]<;>omega)
def tyV(K:PySem.W.Frag)(T:String)(x:V)(H:Hp):Prop:=match x with
 |.str _=>T="str"
 |.int _=>T="int"
 |.ref p=>(T="list"/\∃xs,SqL K H p xs)∨(T="tuple"/\∃o,K.lookup p=some o/\o.cls=.type "tuple"/\o.dict=none) ∨
   (T="dict"/\((∃kvs,H p=some (.dK kvs))∨∃kvs,H p=some (.dT kvs)))∨(T="set"/\∃S n,H p=some (.set S n))
 |_=>False
theorem zah{pins:List (Addr×Obj)}{σ:St}{H:Hp}{s:Shared}{T:String}{x:V}{v:Value}(I:Inv X pins σ H s)(r:zr x v)(ty:tyV X.K T x H) :
  s.TypeIs v T/\∀a,v=.ref a->∃ob,s.heap.get? a=some ob/\ob.dict=none:=by
 cases x with
 |str z=>
  obtain⟨t,rfl⟩:=r
  cases (show T="str" from ty)
  exact⟨typeIs_str s z t,λ_ e=>nomatch e⟩
 |int i=>
  obtain⟨t,rfl⟩:=r
  cases (show T="int" from ty)
  exact⟨typeIs_int s i t,λ_ e=>nomatch e⟩
 |ref p=>
  cases r
  rcases ty with ⟨rfl,xs,hq⟩|⟨rfl,o,hk,hc,hd⟩|⟨rfl,hk⟩|⟨rfl,S,n,hk⟩
  .obtain⟨its,_,pl,_⟩:=I.list hq
   refine⟨pl.isList.typeIs,λa e=>?_⟩
   cases e
   obtain⟨o,n,e,c,hd,_⟩:=pl
   exact⟨o,e,hd⟩
  .refine⟨⟨o,I.kIn p o hk,hc⟩,λa e=>?_⟩
   cases e
   exact⟨o,I.kIn _ o hk,hd⟩
  .have z:∃o,s.heap.get? p=some o/\o.ExactDict:=by
    rcases hk with ⟨kvs,hk⟩|⟨kvs,hk⟩
    .obtain⟨_,_,_,_,o,_,_,e,ex,_⟩:=I.hok p _ hk
     exact⟨o,e,ex⟩
    .obtain⟨_,_,_,_,o,_,_,e,ex,_⟩:=I.hok p _ hk
     exact⟨o,e,ex⟩
   obtain⟨o,e,ex⟩:=z
   refine⟨⟨o,e,ex.1⟩,λa e2=>?_⟩
   cases e2
   exact⟨o,e,ex.2.1⟩
  .obtain⟨o,_,_,_,e,ex,_⟩:=I.hok p _ hk
   refine⟨⟨o,e,ex.1⟩,λa e2=>?_⟩
   cases e2
   exact⟨o,e,ex.2.1⟩
 |_=>exact False.elim ty
def tBM(K:PySem.W.Frag)(T:String)(r:V->List V->Hp->VK->Prop)(to:TE)(t:TA):TE:=fun σ H Q=>to σ H λx H1=>tyV K T x H1/\t σ H1 λxs H2=>r x xs H2 Q
variable{o e:Expr}{es:List Expr}{to:TE}{t:TA}{name:Str}{apos cpos:Pos}{T id:String}{r:V->List V->Hp->VK->Prop}
theorem wm(pa:PlainAttrs T)(slot:Slot T name id)(hty:typeOf (.builtin id)=pure (.type "method_descriptor"))(hm:MtR X id r)(ho:PE X o to)(ha:PA X (e::es) t)
  (hbase:attributeBase o name X.env (eval o X.env)=eval o X.env:=by rfl)
  (hfew:((backTo cpos (starEach (e::es) X.env)).all (λx=>!x.1) && (backToKw cpos (keywordEach [] X.env)).all (λx=>x.1.isSome)
   && decide ((e::es).length+([]:List Keyword).length+(if ([]:List Keyword).isEmpty then 0 else 1)<30))=true:=by rfl)
  (hline:(apos.endLine == cpos.line)=true:=by rfl) (hs:starEach (e::es) X.env=(false,eval e X.env)::starEach es X.env:=by rfl) (hplain:(backTo cpos (starEach es X.env)).any (·.1)=false:=by rfl) :
  PE X (.Call (.Attribute o name apos) (e::es) [] cpos) (tBM X.K T r to t):=by
 intro pins s σ H Q I h
 refine wpAny_Call_method_late hbase hfew hline rfl (thn (ho pins s σ H _ I h) λv s1 ⟨x,H1,I1,r1,ty,q1⟩=>?_)
 obtain⟨h1,h2⟩:=zah I1 r1 ty
 refine⟨T,id,pa,slot,hty,h1,h2,?_⟩
 have hA:=ha cpos pins s1 σ H1 _ I1 q1
 rw[hs] at hA ⊢
 refine Calls.callWith_builtin (by show(false || (backTo cpos (starEach es X.env)).any (·.1))=false;rw[hplain]<;>rfl) (Calls.evalArgs_plain ?_)
 exact thn hA λus s2 ⟨vs,H2,I2,r2,q2⟩=>hm pins s2 σ H2 x vs v us Q I2 r1 r2 q2
end
end L2
namespace L2
open PySem PySem.Spec PyProof.Rows
def MtM(X:Cx)(id:String)(r:V->List V->Hp->VK->Prop):Prop :=
 ∀(pins:List (Addr×Obj)) (s:Shared) (σ:St) (H:Hp) (x:V) (xs:List V) (v:Value) (us:List Value) (Q:VK),Inv X pins σ H s->zr x v->Vals xs us->r x xs H Q ->
  wpAny (model X.prog X.w) X.A (call (.builtin id) (v::us)) (EP X pins σ Q) X.xe s
theorem Vals.one:∀{x:V}{us:List Value},Vals [x] us->∃u,us=[u]/\zr x u
 |_,_,.cons r .nil=>⟨_,rfl,r⟩
theorem Vals.two:∀{x y:V}{us:List Value},Vals [x,y] us->∃u v,us=[u,v]/\zr x u/\zr y v
 |_,_,_,.cons r (.cons q .nil)=>⟨_,_,rfl,r,q⟩
theorem Vals.rep{xs:List V}{us:List Value}(h:Vals xs us):∀k:Nat,Vals (List.replicate k xs).flatten (List.replicate k us).flatten
 |0=>.nil
 |k+1=>by
  rw[List.replicate_succ,List.replicate_succ,List.flatten_cons,List.flatten_cons]
  exact Vals.append h (Vals.rep h k)
theorem Qb(its:List Value):∀(k:Nat)(acc:List Value),
  List.foldl (λx1 x2=>x1++x2) acc.toArray (List.replicate k its.toArray)=(acc++(List.replicate k its).flatten).toArray
 |0,acc=>by simp
 |k+1,acc=>by
  have e:acc.toArray++its.toArray=(acc++its).toArray:=by simp
  have e2:(acc++its)++(List.replicate k its).flatten=acc++(List.replicate (k+1) its).flatten:=by
   rw[List.replicate_succ,List.flatten_cons,List.append_assoc]
  rw[<- e2,<- Qb its k (acc++its),<- e,List.replicate_succ,List.foldl_cons]
section
variable{X:Cx}{pins:List (Addr×Obj)}{σ:St}{H:Hp}{s:Shared}{l b:Addr}{xs ys zs:List V}
theorem Inv.lset{its its':List Value}{n:Nat}{f:Array Value->Array Value}{t':Nat}(I:Inv X pins σ H s)(hH:H l=some (.lst xs))
  (e:s.heap.get? l=some { cls:=.type "list",data:=.seq its.toArray n }) (hf:f its.toArray=its'.toArray) (hv:Vals ys its') (hz:ys.length<=sizeLine) :
  Inv X pins σ (upd H l (.lst ys)) { s with heap:=s.heap.update l (Obj.mapSeq f),toks:=t' }:=by
 have q:=PySem.IsL.update e f
 rw[hf] at q
 refine I.write (x:=l) (e:=l) (by rw[hH];exact trivial) (.inl rfl) (λb' u hb hu=>(Heap.get?_update_other s.heap (Obj.mapSeq f) (Ne.symm hb)).trans hu) ⟨_,q⟩ ?_
 exact⟨hz,its',_,hv,q⟩
theorem Inv.lnew{its:List Value}{t':Nat}(I:Inv X pins σ H s)(hv:Vals ys its)(hz:ys.length<=sizeLine) :
  Inv X pins σ (upd H s.heap.objs.size (.lst ys)) { s with heap:=s.heap.push { cls:=.type "list",data:=.seq its.toArray },toks:=t' } :=
 I.laid (λ_ _ q=>Heap.get?_push_of_some _ q) (Nat.le_refl _) ⟨hz,its,0,hv,Heap.get?_push_size _ rfl⟩
theorem Inv.fresh(I:Inv X pins σ H s):H s.heap.objs.size=none:=I.hok.fresh (Nat.le_refl _)
theorem Inv.lstM(I:Inv X pins σ H s)(hH:H l=some (.lst xs)):xs.length<=sizeLine/\∃(its:List Value)(n:Nat),Vals xs its/\xs.length=its.length/\s.heap.get? l=some { cls:=.type "list",data:=.seq its.toArray n }:=by
 obtain⟨z,its,n,r,e⟩:=I.hok l _ hH
 exact⟨z,its,n,r,r.length,e⟩
theorem Ji{n:Nat}(h:n<=sizeLine):Builtin.List.listTooLong n=false:=by
 unfold Builtin.List.listTooLong
 exact decide_eq_false (by omega)
end
section
variable{X:Cx}
def uo:V->List V->Hp->VK->Prop:=λx vs H Q=>∃l xs y,x=.ref l/\vs=[y]/\H l=some (.lst xs)/\xs.length<sizeLine/\Q .non (upd H l (.lst (xs++[y])))
theorem kG:MtM X "list.append" uo:=by
 intro pins s σ H x vs v us Q I rx rv h
 obtain⟨l,xs,y,rfl,rfl,hH,hz,q⟩:=h
 cases rx
 obtain⟨u,rfl,ru⟩:=rv.one
 obtain⟨z,its,n,r,hl,e⟩:=I.lstM hH
 refine call_meets F.slot_list_append ⟨_,e,rfl⟩ F.entry_list_append (F.args_list_append_2 _ _) (PySem.list_append l its.toArray n u (by rw[List.size_toArray];omega)) ⟨e,?_⟩
 refine⟨.non,_,I.lset (its':=its++[u]) hH e (by simp) (r.append (.cons ru .nil)) ?_,rfl,q⟩
 rw[List.length_append,List.length_singleton]
 omega
def YI:V->List V->Hp->VK->Prop:=λx vs H Q=>∃l b xs zs,x=.ref l/\vs=[.ref b]/\H l=some (.lst xs)/\H b=some (.lst zs)/\xs.length+zs.length<=sizeLine/\Q .non (upd H l (.lst (xs++zs)))
theorem zdu:MtM X "list.extend" YI:=by
 intro pins s σ H x vs v us Q I rx rv h
 obtain⟨l,b,xs,zs,rfl,rfl,hH,hB,hz,q⟩:=h
 cases rx
 obtain⟨u,rfl,ru⟩:=rv.one
 cases ru
 obtain⟨z,its,n,r,hl,e⟩:=I.lstM hH
 obtain⟨z2,its2,n2,r2,hl2,e2⟩:=I.lstM hB
 have hsz:its.toArray.size+its2.toArray.size<=sizeLine:=by rw[List.size_toArray,List.size_toArray];omega
 have hlong:¬(!its.toArray.isEmpty && Builtin.List.listTooLong (its.toArray.size+its2.toArray.size))=true:=by
  rw[Ji hsz,Bool.and_false]
  exact Bool.false_ne_true
 refine call_meets F.slot_list_extend ⟨_,e,rfl⟩ F.entry_list_extend (F.args_list_extend_2 _ _)
  (AutoSeq1.list_extend_list_list_0 l its.toArray n b its2.toArray n2 hlong (by rw[List.size_toArray];omega) (by omega)) ⟨e,e2,?_⟩
 refine⟨.non,_,I.lset (its':=its++its2) hH e (by simp) (r.append r2) ?_,rfl,q⟩
 rw[List.length_append]
 omega
def wR:R2:=λx y H Q=>∃l b xs zs,x=.ref l/\y=.ref b/\H l=some (.lst xs)/\H b=some (.lst zs)/\xs.length+zs.length<=sizeLine/\∀p,H p=none->Q (.ref p) (upd H p (.lst (xs++zs)))
theorem ux:OpR X (binaryOp .Add) wR:=by
 intro pins s σ H x y v u Q I rx ry h
 obtain⟨l,b,xs,zs,rfl,rfl,hH,hB,hz,q⟩:=h
 cases rx
 cases ry
 obtain⟨z,its,n,r,hl,e⟩:=I.lstM hH
 obtain⟨z2,its2,n2,r2,hl2,e2⟩:=I.lstM hB
 refine PySem.P.add_list e e2 ?_ (by rw[List.size_toArray,List.size_toArray];omega)
 have ea:its.toArray++its2.toArray=(its++its2).toArray:=by simp
 rw[ea]
 exact⟨.ref _,_,I.lnew (t':=s.toks) (r.append r2) (by rw[List.length_append];omega),rfl,q _ I.fresh⟩
def qZ:R2:=λx y H Q=>∃l k xs,x=.ref l/\y=.int k/\H l=some (.lst xs)/\-(2 ^ 63)<=k/\k<2 ^ 63/\xs.length*k.toNat<=sizeLine /\
 ∀p,H p=none->Q (.ref p) (upd H p (.lst (List.replicate k.toNat xs).flatten))
theorem zd0{α:Type}(xs:List α)(k:Nat):(List.replicate k xs).flatten.length=k*xs.length:=by
 induction k with
 |zero=>simp
 |succ k ih=>rw[List.replicate_succ,List.flatten_cons,List.length_append,ih,Nat.succ_mul,Nat.add_comm]
theorem YY:OpR X (binaryOp .Mult) qZ:=by
 intro pins s σ H x y v u Q I rx ry h
 obtain⟨l,k,xs,rfl,rfl,hH,h1,h2,hz,q⟩:=h
 cases rx
 obtain⟨t,rfl⟩:=ry
 obtain⟨z,its,n,r,hl,e⟩:=I.lstM hH
 have hlen:its.toArray.size*k.toNat<=sizeLine:=by rw[List.size_toArray,<- hl];exact hz
 have hcap:¬its.toArray.size*k.toNat > (2 ^ 63-1) / 8:=by
  have:(sizeLine:Nat)<=(2 ^ 63-1) / 8:=by decide
  omega
 have hfit:¬(!Builtin.List.listFitsIndex k)=true:=by
  rw[fitsIndex_both h1 h2]
  exact Bool.false_ne_true
 have hlong:¬Builtin.List.listTooLong (its.toArray.size*k.toNat)=true:=by
  rw[Ji hlen]
  exact Bool.false_ne_true
 have hnew:List.foldl (λx1 x2=>x1++x2) #[] (List.replicate (if its.toArray.isEmpty=true then 0 else k.toNat) its.toArray)=(List.replicate k.toNat its).flatten.toArray:=by
  have f0:∀m:Nat,List.foldl (λx1 x2=>x1++x2) #[] (List.replicate m its.toArray)=(List.replicate m its).flatten.toArray:=λm=>by
   have:=Qb its m []
   rw[List.nil_append] at this
   exact this
  rw[f0]
  cases its with
  |nil=>simp
  |cons a r'=>rw[if_neg (by simp)]
 refine wpAny_binaryOp_repeat_ref (T:="list") (U:="int") (by decide) ⟨_,e,rfl⟩ (λs'=>typeIs_int s' k t) noFill_list_mul F.fills_int_mul F.slot_int_rmul repeat_list F.slot_int_index.lookup
  (call_meets F.slot_int_rmul (typeIs_int s k t) F.entry_int_rmul (F.args_int_rmul_2 _ _) (int___rmul___int_list k t l its.toArray n)
   ⟨e,rfl,⟨_,e,rfl⟩,call_meets F.slot_list_mul ⟨_,e,rfl⟩ F.entry_list_mul (F.args_list_mul_2 _ _) (AutoListH.list___mul___list_int_3 l its.toArray n k t hfit hcap hlong) ⟨e,?_⟩⟩)
 rw[hnew]
 exact⟨.ref _,_,I.lnew (t':=s.toks) (r.rep k.toNat) (by rw[zd0,Nat.mul_comm];exact hz),rfl,q _ I.fresh⟩
end
section
variable{prog:Program}{w:World}{A:Around}{E:Value->Shared->Prop}{s:Shared}
set_option maxRecDepth 100000 in
end
section
variable{X:Cx}
end
end L2
namespace L2
open PySem PySem.Spec PyProof.Rows
theorem Vals.ints:∀{ns:List Int}{us:List Value},Vals (ns.map V.int) us->IntsAre us ns
 |[],us,h=>by
  rw[List.map_nil] at h
  cases h
  exact IntsAre.nil
 |n::ns,us,h=>by
  rw[List.map_cons] at h
  cases h with
  |cons r t=>
   obtain⟨k,rfl⟩:=r
   exact IntsAre.cons n k (Vals.ints t)
theorem Wd:∀{us:List Value}{ns:List Int},IntsAre us ns->Vals (ns.map V.int) us
 |_,_,.nil=>by rw[List.map_nil];exact Paired.nil
 |_,_,.cons n t h=>by rw[List.map_cons];exact Paired.cons (show zr (V.int n) (Value.int n t) from⟨t,rfl⟩) (Wd h)
theorem Vals.bls:∀{bs:List Bool}{us:List Value},Vals (bs.map V.bl) us->us=bs.map Value.bool
 |[],us,h=>by
  rw[List.map_nil] at h
  cases h
  rfl
 |b::bs,us,h=>by
  rw[List.map_cons] at h
  cases h with
  |cons r t=>
   cases r
   rw[Vals.bls t,List.map_cons]
theorem Vals.ref1{a:Addr}{us:List Value}(r:Vals [V.ref a] us):us=[Value.ref a]:=by
 cases r with
 |cons r t=>
  cases t
  cases r
  rfl
section
variable{prog:Program}{w:World}{A:Around}{E:Value->Shared->Prop}{s:Shared}{l:Addr}{its:List Value}{ns:List Int}{Q:Value->Shared->Prop}
theorem zgi(hh:A.handled=none)(hl:s.heap.IsList l its.toArray)(hi:IntsAre its ns)(hne:0<ns.length)
  (h:∀h' tk M t',(∀b o,s.heap.get? b=some o->h'.get? b=some o)->M∈ns->(∀a,a∈ns->a<=M)->Q (.int M t') { s with heap:=h',toks:=tk }):wpAny (model prog w) A (call (.builtin "max") [.ref l]) Q E s:=by
 obtain⟨xs,e⟩:=hi.allInts.items
 have hn:numsOf (intItems xs).toList=ns:=by rw[<- e];exact hi.numsOf
 rw[nums_intItems] at hn
 subst hn
 rw[e] at hl
 have hsz:0<xs.size:=by simpa using hne
 refine PySem.max_intList hh hl hsz λv h' tk hv hk=>?_
 obtain⟨t,rfl⟩:=intItems_at hv
 obtain⟨h1,h2⟩:=argBest_gt (numAt xs) (xs.size-1)
 refine h h' tk _ t hk ?_ λa ha=>?_
 .rw[numAt_eq];exact PySem.getD_mem (by rw[List.length_map,Array.length_toList];omega)
 .obtain⟨j,hj,rfl⟩:=mem_getD ha
  rw[List.length_map,Array.length_toList] at hj
  rw[<- numAt_eq];exact h2 j (by omega)
theorem zdy(hh:A.handled=none)(hl:s.heap.IsList l its.toArray)(hi:IntsAre its ns)(hne:0<ns.length)
  (h:∀h' tk M t',(∀b o,s.heap.get? b=some o->h'.get? b=some o)->M∈ns->(∀a,a∈ns->M<=a)->Q (.int M t') { s with heap:=h',toks:=tk }):wpAny (model prog w) A (call (.builtin "min") [.ref l]) Q E s:=by
 obtain⟨xs,e⟩:=hi.allInts.items
 have hn:numsOf (intItems xs).toList=ns:=by rw[<- e];exact hi.numsOf
 rw[nums_intItems] at hn
 subst hn
 rw[e] at hl
 have hsz:0<xs.size:=by simpa using hne
 refine PySem.min_intList hh hl hsz λv h' tk hv hk=>?_
 obtain⟨t,rfl⟩:=intItems_at hv
 obtain⟨h1,h2⟩:=argBest_lt (numAt xs) (xs.size-1)
 refine h h' tk _ t hk ?_ λa ha=>?_
 .rw[numAt_eq];exact PySem.getD_mem (by rw[List.length_map,Array.length_toList];omega)
 .obtain⟨j,hj,rfl⟩:=mem_getD ha
  rw[List.length_map,Array.length_toList] at hj
  rw[<- numAt_eq];exact h2 j (by omega)
end
section
variable{X:Cx}
def YF(K:PySem.W.Frag):List V->Hp->VK->Prop:=λvs H Q=>∃(a:Addr)(ns:List Int),vs=[V.ref a]/\SqL K H a (ns.map V.int)/\0<ns.length/\∀m,m∈ns->(∀y,y∈ns->m<=y)->Q (.int m) H
theorem zfc(hc:X.calm=true):wA X (.builtin "min") (YF X.K):=by
 intro pins s σ H vs us Q I r h
 obtain⟨a,ns,rfl,hs,hne,q⟩:=h
 obtain⟨its,rv,hl,_⟩:=I.list hs
 rw[Vals.ref1 r]
 exact zdy (I.ok.hd hc) hl.isList rv.ints hne λh' tk m t' hk h1 h2=>⟨.int _,H,I.kept hk,⟨_,rfl⟩,q m h1 h2⟩
def YD(K:PySem.W.Frag):List V->Hp->VK->Prop:=λvs H Q=>∃(a:Addr)(ns:List Int),vs=[V.ref a]/\SqL K H a (ns.map V.int)/\ns.length<64 /\
 ∀(ns':List Int)(p:Addr),ns'.Perm ns->ns'.Pairwise (·<=·)->H p=none->Q (.ref p) (upd H p (.lst (ns'.map V.int)))
theorem zbv{n:Nat}(h:n<64):n<=sizeLine:=by rw[sizeLine_eq];omega
theorem Qt:wA X (.builtin "sorted") (YD X.K):=by
 intro pins s σ H vs us Q I r h
 obtain⟨a,ns,rfl,hs,h64,q⟩:=h
 obtain⟨its,rv,hl,_⟩:=I.list hs
 rw[Vals.ref1 r]
 have hi:=rv.ints
 refine PyProof.Rows.sorted_ints hl.isList hi (by rw[hi.length];exact h64) λout ns' h1 h2 h3=>?_
 obtain⟨ep,he'⟩:=PyProof.Rows.sortedAll_at s.heap its out
 have hlen:(ns'.map V.int).length<=sizeLine:=by rw[List.length_map,h2.length_eq];exact zbv h64
 exact⟨.ref _,upd H (s.heap.objs.size+1) (.lst (ns'.map V.int)),I.laid (t':=s.toks) (λ_ _=>PyProof.Rows.sortedAll_old) (Nat.le_succ _) ⟨hlen,out.toList,ep,Wd h1,he'⟩,rfl,q ns' _ h2 h3 (I.hok.fresh (Nat.le_succ _))⟩
end
section
variable{X:Cx}
def vQ(K:PySem.W.Frag):V->List V->Hp->VK->Prop:=λx xs H Q=>∃(a:Addr)(ys:List V)(y:V)(j:Nat)(z:V),x=V.ref a/\xs=[y]/\SqL K H a ys/\xk y=true/\ys.all xk=true/\ys[j]? = some z/\eqV z y=true /\
 (∀(m:Nat)(z':V),m<j->ys[m]? = some z'->eqV z' y=false)/\Q (.int (j:Nat)) H
theorem Qc{ys:List V}(f:ys.all xk=true){j:Nat}{z:V}(h:ys[j]? = some z):xk z=true:=List.all_eq_true.mp f z (List.mem_of_getElem? h)
theorem jw:MtR X "list.index" (vQ X.K):=by
 intro pins s σ H x xs v us Q I rx rxs h
 obtain⟨a,ys,y,j,z,rfl,rfl,hs,fy,fys,hz,hzj,hno,q⟩:=h
 cases rx
 cases rxs with
 |cons ry rt=>
  rename_i uy ut
  cases rt
  obtain⟨its,rv,⟨⟨cls,dd,data,sl⟩,n,ho,hc,hdn,hd⟩,hlen⟩:=I.list hs
  simp only at hc hd
  subst hc hd
  obtain⟨u,hu,ru⟩:=rv.get hz
  obtain⟨hjl,hje⟩:=List.getElem?_eq_some_iff.mp hu
  have hvl:=rv.length
  have hj:j<its.toArray.size:=by simpa using hjl
  have hsl:=sizeLine_eq
  refine call_meets PySem.F.slot_list_index ⟨_,ho,rfl⟩ PySem.F.entry_list_index (PySem.F.args_list_index_2 _ _)
   (SeqAt.list_indexAt a its.toArray n dd sl uy (eqU y) j hj (by omega) ?_ ?_) ⟨ho,λu' hu'=>kH ry fy rv fys u' (by simpa using hu'),?_⟩
  .have e1:its.toArray[j]=u:=by simpa using hje
   rw[e1,kW ru (Qc fys hz)]
   exact hzj
  .intro m hm hmj
   have hml:m<its.length:=by simpa using hm
   have hmy:m<ys.length:=by omega
   have hy':ys[m]? = some ys[m]:=List.getElem?_eq_getElem hmy
   obtain⟨u2,hu2,ru2⟩:=rv.get hy'
   obtain⟨_,hme⟩:=List.getElem?_eq_some_iff.mp hu2
   have e1:its.toArray[m]=u2:=by simpa using hme
   rw[e1,kW ru2 (Qc fys hy')]
   exact hno m _ hmj hy'
  .exact⟨.int (j:Nat),H,I.tok _,⟨_,rfl⟩,q⟩
end
section
variable{X:Cx}
end
theorem zem{prog:Program}{w:World}{A:Around}{E:Value->Shared->Prop}{s:Shared}{l:Addr}{items:Array Value}{Q:Value->Shared->Prop}(hl:s.heap.IsList l items)
  (h:∀s₂:Shared,s₂={ s with heap:=s.heap.push { cls:=.type "list_iterator",data:=.fields #[.ref l,.int 0 0] } } ->
   (s₂.heap.IsListIter s.heap.objs.size l 0/\s₂.heap.IsList l items)->l≠s.heap.objs.size->Q (.ref s.heap.objs.size) s₂):wpAny (model prog w) A (pyIter (.ref l)) Q E s:=by
 have hlt:l<s.heap.objs.size:=by obtain⟨_,e,_⟩:=hl;exact Heap.lt_size e
 exact wpAny_pyIter_list hl (h _ rfl ⟨⟨_,Heap.get?_push_size _ rfl,rfl,rfl⟩,hl.push _⟩ (Nat.ne_of_lt hlt))
theorem zao{prog:Program}{w:World}{A:Around}{bs:List Bool}{its:List Value}(e:its=bs.map Value.bool) :
  TruthOf prog w A (λi v=>its.toArray[i]? = some v) (λi=>bs.getD i false):=λi v s Q E hv hq=>by
 have hv':its[i]? = some v:=by simpa using hv
 rw[e,List.getElem?_map] at hv'
 obtain⟨b,hb,rfl⟩:=Option.map_eq_some_iff.mp hv'
 have hg:bs.getD i false=b:=by rw[List.getD_eq_getElem?_getD,hb]<;>rfl
 have hq':Q (bs.getD i false) s:=hq
 rw[hg] at hq'
 exact wpAny_truthy_bool hq'
theorem zf8:∀bs:List Bool,(List.range bs.length).any (λi=>bs.getD i false)=bs.any id
 |[]=>rfl
 |b::bs=>by
  rw[List.length_cons,List.range_succ_eq_map,List.any_cons,List.any_map,List.any_cons,<- zf8 bs]
  all_goals rfl
theorem Q2:∀bs:List Bool,(List.range bs.length).all (λi=>bs.getD i false)=bs.all id
 |[]=>rfl
 |b::bs=>by
  rw[List.length_cons,List.range_succ_eq_map,List.all_cons,List.all_map,List.all_cons,<- Q2 bs]
  all_goals rfl
section
variable{X:Cx}
def jl(K:PySem.W.Frag):List V->Hp->VK->Prop:=λvs H Q=>∃(a:Addr)(bs:List Bool),vs=[V.ref a]/\SqL K H a (bs.map V.bl)/\Q (.bl (bs.all id)) H
theorem Za(hc:X.calm=true):wA X (.builtin "all") (jl X.K):=by
 intro pins s σ H vs us Q I r h
 obtain⟨a,bs,rfl,hs,q⟩:=h
 obtain⟨its,rv,hl,_⟩:=I.list hs
 rw[Vals.ref1 r]
 have hb:=rv.bls
 refine call_all_walk (zem hl.isList λs₂ e2 st hne=>?_)
 subst e2
 refine⟨_,_,_,_,_,_,_,rfl,Walks.list (A:=X.A.in1) (I.ok.hd hc) _ a hne its.toArray,st,zao hb,λh' tk hk=>?_⟩
 refine⟨.bl _,H,I.kept λb o eo=>hk b o (λhmem=>?_) (Heap.get?_push_of_some _ eo),?_,q⟩
 .rcases List.mem_cons.mp hmem with e1|hmem
  .exact absurd (e1 ▸ Heap.lt_size eo) (Nat.lt_irrefl _)
  .cases hmem
 .show Value.bool _=Value.bool _
  rw[<- Q2,hb,List.size_toArray,List.length_map]
end
mutual
inductive Dp(K:PySem.W.Frag)(H:Hp):V->PyData->Prop
 |non:Dp K H .non .none
 |bl (b:Bool):Dp K H (.bl b) (.bool b)
 |int (i:Int):Dp K H (.int i) (.int i)
 |str (x:Str):Dp K H (.str x) (.str x)
 |lst {a:Addr} {xs:List V} {ds:List PyData}:SqL K H a xs->ub K H xs ds->Dp K H (.ref a) (.list ds)
 |tup {a:Addr} {xs:List V} {ds:List PyData}:SqT K H a xs->ub K H xs ds->Dp K H (.ref a) (.tuple ds)
inductive ub(K:PySem.W.Frag)(H:Hp):List V->List PyData->Prop
 |nil:ub K H [] []
 |cons {v:V} {vs:List V} {d:PyData} {ds:List PyData}:Dp K H v d->ub K H vs ds->ub K H (v::vs) (d::ds)
end
section
variable{X:Cx}{pins:List (Addr×Obj)}{σ:St}{H:Hp}{s:Shared}
mutual
theorem Dp.reads(I:Inv X pins σ H s):∀(d:PyData)(v:V)(u:Value),Dp X.K H v d->zr v u->∃as,Reads s.heap u d as
 |.none,_,_,h,r=>by
  cases h
  cases r
  exact⟨_,Reads.none⟩
 |.bool b,_,_,h,r=>by
  cases h
  cases r
  exact⟨_,Reads.bool b⟩
 |.int i,_,_,h,r=>by
  cases h
  obtain⟨t,rfl⟩:=r
  exact⟨_,Reads.int i t⟩
 |.str x,_,_,h,r=>by
  cases h
  obtain⟨t,rfl⟩:=r
  exact⟨_,Reads.str x t⟩
 |.list ds,_,_,h,r=>by
  cases h with
  |lst hs ha=>
   cases r
   obtain⟨its,rv,⟨o,n,ho,hc,_,hd⟩,_⟩:=I.list hs
   obtain⟨as,hr⟩:=Dp.readsAll I ds _ its ha rv
   exact⟨_,Reads.list ho hc hd hr⟩
 |.tuple ds,_,_,h,r=>by
  cases h with
  |tup hs ha=>
   cases r
   obtain⟨its,rv,⟨o,ho,hc,n,hd⟩,_⟩:=I.tuple hs
   obtain⟨as,hr⟩:=Dp.readsAll I ds _ its ha rv
   exact⟨_,Reads.tuple ho hc hd hr⟩
 |.dict _,_,_,h,_=>by cases h
theorem Dp.readsAll(I:Inv X pins σ H s):∀(ds:List PyData)(vs:List V)(us:List Value),ub X.K H vs ds->Vals vs us->∃as,ReadsAll s.heap us ds as
 |[],_,_,h,r=>by
  cases h
  cases r
  exact⟨_,ReadsAll.nil⟩
 |d::ds,_,_,h,r=>by
  cases h with
  |cons h1 h2=>
   cases r with
   |cons r1 r2=>
    obtain⟨as,q1⟩:=Dp.reads I d _ _ h1 r1
    obtain⟨bs,q2⟩:=Dp.readsAll I ds _ _ h2 r2
    exact⟨_,ReadsAll.cons q1 q2⟩
end
end
section
variable{X:Cx}
def zcB(K:PySem.W.Frag):R2:=λx y H Q=>∃d e,Dp K H x d/\Dp K H y e/\SeqAt.shaped d=true/\SeqAt.shaped e=true/\Q (.bl (PyData.eqv d e)) H
theorem zcP(hu:X.A.units+64<cLine):OpR X (compareOp .Eq) (zcB X.K):=by
 intro pins s σ H x y v u Q I rx ry h
 obtain⟨d,e,hd,he,sd,se,q⟩:=h
 obtain⟨as,r1⟩:=Dp.reads I d x v hd rx
 obtain⟨bs,r2⟩:=Dp.reads I e y u he ry
 exact SeqAt.compareEq_shaped r1 r2 sd se hu ⟨.bl _,H,I,rfl,q⟩
end
end L2
namespace L2
open PySem PySem.Spec PyProof.Rows
abbrev Q6(h:Heap)(c:Addr)(v:Option Value):Prop:=h.IsCell c v
def zbI(scope sc:Scope):Scope :=
 { scope with names:=scope.names.map λ(n,k)=>if (k == .free && sc.kind == .function && sc.names.lookup n == some .cell) then (n,.cell) else (n,k) }
def yO(cells:List (Str×Addr)):List (Str×NameKind)->List (Str×Addr)->List (Str×Addr)
 |[],acc=>acc
 |(n,k)::r,acc=>if k == .free then yO cells r ((n,(cells.lookup n).getD 0)::acc) else yO cells r acc
theorem Qv(env:Env)(f:Str×NameKind->List (Str×Addr)->Sem (ForInStep (List (Str×Addr))))
  (hf:∀n k c,f (n,k) c=if k == .free then (do let a <- cellOf env n;pure (.yield ((n,a)::c))) else pure (.yield c)) :
  ∀(names:List (Str×NameKind)) (acc:List (Str×Addr)),(∀y∈names,y.2=.free->∃c,env.cells.lookup y.1=some c)->forIn names acc f=pure (yO env.cells names acc)
 |[],acc,_=>by rw[List.forIn_nil];rfl
 |(n,k)::r,acc,h=>by
  rw[List.forIn_cons,hf]
  have ih:=λacc=>Qv env f hf r acc λy hy=>h y (List.mem_cons_of_mem _ hy)
  unfold yO
  by_cases hk:(k == NameKind.free)=true
  .rw[if_pos hk,if_pos hk]
   obtain⟨c,hc⟩:=h (n,k) List.mem_cons_self (by simpa using hk)
   have e:cellOf env n=pure c:=by unfold cellOf;rw[hc]
   rw[e]
   have e2:(env.cells.lookup n).getD 0=c:=by rw[hc];rfl
   rw[e2]
   exact ih _
  .rw[if_neg hk,if_neg hk]
   exact ih _
theorem zfj{scope:Scope}{env:Env}(h:∀y∈scope.names,y.2=.free->∃c,env.cells.lookup y.1=some c):closureFor scope env=pure (yO env.cells scope.names []):=by
 simp only[closureFor]
 rw[Qv env _ (λn k c=>rfl) scope.names [] h]
 rfl
theorem yN{α:Type}:∀{l:List (Str×α)}{n:Str}{c:α},(n,c)∈l->∃c',l.lookup n=some c'
 |(k,v)::r,n,c,h=>by
  rw[List.lookup_cons]
  cases hb:n == k with
  |true=>exact⟨_,rfl⟩
  |false=>
   rcases List.mem_cons.mp h with e|h
   .cases e;simp at hb
   .exact yN h
theorem Zc{cells:List (Str×Addr)}:∀{names:List (Str×NameKind)}{acc:List (Str×Addr)}{n:Str}{c:Addr},(n,c)∈yO cells names acc->(n,c)∈acc∨((n,.free)∈names/\c=(cells.lookup n).getD 0)
 |[],_,_,_,h=>.inl h
 |(m,k)::r,acc,n,c,h=>by
  unfold yO at h
  split at h
  .rename_i hk
   have hk:k=.free:=by simpa using hk
   rcases Zc h with h|⟨h1,h2⟩
   .rcases List.mem_cons.mp h with e|h
    .cases e;exact .inr ⟨hk ▸ List.mem_cons_self,rfl⟩
    .exact .inl h
   .exact .inr ⟨List.mem_cons_of_mem _ h1,h2⟩
  .rcases Zc h with h|⟨h1,h2⟩
   .exact .inl h
   .exact .inr ⟨List.mem_cons_of_mem _ h1,h2⟩
theorem XS{cells:List (Str×Addr)}:∀{names:List (Str×NameKind)}{acc:List (Str×Addr)}{p:Str×Addr},p∈acc->p∈yO cells names acc
 |[],_,_,h=>h
 |(m,k)::r,acc,p,h=>by
  unfold yO
  split
  .exact XS (List.mem_cons_of_mem _ h)
  .exact XS h
theorem XR{cells:List (Str×Addr)}:∀{names:List (Str×NameKind)}{acc:List (Str×Addr)}{n:Str},(n,.free)∈names->(n,(cells.lookup n).getD 0)∈yO cells names acc
 |(m,k)::r,acc,n,h=>by
  unfold yO
  rcases List.mem_cons.mp h with e|h
  .cases e
   exact XS List.mem_cons_self
  .split
   .exact XR h
   .exact XR h
theorem jP:∀{names:List (Str×NameKind)}{h:Heap}{acc:List (Str×Addr)}{x:Str}{c:Addr},(x,c)∈cellsFrom h.objs.size names acc ->
  (x,c)∈acc∨((x,.cell)∈names/\h.objs.size<=c/\Q6 (pushCells h names) c none)
 |[],_,_,_,_,h=>.inl h
 |(n,k)::r,h,acc,x,c,hm=>by
  unfold cellsFrom at hm
  unfold pushCells
  split at hm
  .rename_i hk
   rw[if_pos hk]
   have hk:k=.cell:=by simpa using hk
   rw[<- Heap.size_push h { cls:=.type "cell",data:=.cell none }] at hm
   rcases jP hm with hm|⟨h1,h2,h3⟩
   .rcases List.mem_cons.mp hm with e|hm
    .cases e
     exact .inr ⟨hk ▸ List.mem_cons_self,Nat.le_refl _,_,pushCells_keeps r _ _ _ (Heap.get?_push_size _ rfl),rfl⟩
    .exact .inl hm
   .rw[Heap.size_push] at h2
    exact .inr ⟨List.mem_cons_of_mem _ h1,Nat.le_of_succ_le h2,h3⟩
  .rename_i hk
   rw[if_neg hk]
   rcases jP hm with hm|⟨h1,h2,h3⟩
   .exact .inl hm
   .exact .inr ⟨List.mem_cons_of_mem _ h1,h2,h3⟩
theorem Zd:∀{names:List (Str×NameKind)}{n:Nat}{acc:List (Str×Addr)}{p:Str×Addr},p∈acc->p∈cellsFrom n names acc
 |[],_,_,_,h=>h
 |(m,k)::r,n,acc,p,h=>by
  unfold cellsFrom
  split
  .exact Zd (List.mem_cons_of_mem _ h)
  .exact Zd h
theorem XV:∀{names:List (Str×NameKind)}{n:Nat}{acc:List (Str×Addr)}{x:Str},(x,.cell)∈names->∃c,(x,c)∈cellsFrom n names acc
 |(m,k)::r,n,acc,x,h=>by
  unfold cellsFrom
  rcases List.mem_cons.mp h with e|h
  .cases e
   exact⟨n,Zd List.mem_cons_self⟩
  .split
   .exact XV h
   .exact XV h
theorem XU:∀{names:List (Str×NameKind)}{h:Heap}{acc:List (Str×Addr)}{x y:Str}{c:Addr},(∀p∈acc,p.2<h.objs.size)->(∀x y c,(x,c)∈acc->(y,c)∈acc->x=y) ->
  (x,c)∈cellsFrom h.objs.size names acc->(y,c)∈cellsFrom h.objs.size names acc->x=y
 |[],_,_,_,_,_,_,hi,h1,h2=>hi _ _ _ h1 h2
 |(n,k)::r,h,acc,x,y,c,hl,hi,h1,h2=>by
  unfold cellsFrom at h1 h2
  split at h1
  .rename_i hk
   rw[if_pos hk] at h2
   rw[<- Heap.size_push h { cls:=.type "cell",data:=.cell none }] at h1 h2
   refine XU (h:=h.push _) (λp hp=>?_) (λx y c a b=>?_) h1 h2
   .rw[Heap.size_push]
    rcases List.mem_cons.mp hp with rfl|hp
    .exact Nat.lt_succ_self _
    .exact Nat.lt_succ_of_lt (hl p hp)
   .rcases List.mem_cons.mp a with e|a<;>rcases List.mem_cons.mp b with e' | b
    .cases e;cases e';rfl
    .cases e;exact absurd (hl _ b) (Nat.lt_irrefl _)
    .cases e';exact absurd (hl _ a) (Nat.lt_irrefl _)
    .exact hi _ _ _ a b
  .rename_i hk
   rw[if_neg hk] at h2
   exact XU hl hi h1 h2
theorem zdr{M:Model}{A:Around}{E:Value->Shared->Prop}{s:Shared}{scope:Scope}{globals:Addr}{closure:List (Str×Addr)}{qual:Str}{func:Option Addr}{code:Value}{around:Env}{builtins:Addr}{Q:Env->Shared->Prop}
  (h:Q (newEnv scope s.heap.objs.size globals (cellsFrom (s.heap.objs.size+1) scope.names closure) qual func code (some around) builtins)
   { s with heap:=pushCells (s.heap.push { cls:=.type "dict",data:=.dict #[] }) scope.names }) :
  wpAny M A (newFunctionEnv scope globals closure [] qual func code (some around) builtins) Q E s:=by
 simp only[newFunctionEnv,Option.isSome_some,if_true]
 refine wpAny_bind (wpAny_alloc ?_)
 refine wpAny_bind (wpAny_layCells _ (λn k c=>rfl) scope.names closure _ _ ?_)
 rw[show({ s with heap:=s.heap.push { cls:=.type "dict",data:=.dict #[] } }:Shared).heap.objs.size=s.heap.objs.size+1 from Heap.size_push ..]
 rw[List.forIn_nil]
 exact wpAny_bind (wpAny_pure (wpAny_pure h))
theorem Xj{sc:Scope}:∀{names:List (Str×NameKind)}{x:Str}{k:NameKind},
  (names.map λ(n,k)=>if (k == NameKind.free && sc.kind == .function && sc.names.lookup n == some .cell) then (n,NameKind.cell) else (n,k)).lookup x=some k ->
  ∃k',names.lookup x=some k'/\(k=k'∨(k'=.free/\k=.cell))
 |[],_,_,h=>by simp at h
 |(n,k₀)::r,x,k,h=>by
  have ih:=@Xj sc r x k
  have h':List.lookup x ((if (k₀ == NameKind.free && sc.kind == .function && sc.names.lookup n == some .cell)=true then (n,NameKind.cell) else (n,k₀))::(r.map _))=some k:=h
  cases hx:x == n with
  |true=>
   simp only[List.lookup_cons,hx]
   by_cases hc:(k₀ == NameKind.free && sc.kind == .function && sc.names.lookup n == some .cell)=true
   .rw[if_pos hc] at h'
    simp only[List.lookup_cons,hx] at h'
    cases h'
    simp only[Bool.and_eq_true,beq_iff_eq] at hc
    exact⟨k₀,rfl,.inr ⟨hc.1.1,rfl⟩⟩
   .rw[if_neg hc] at h'
    simp only[List.lookup_cons,hx] at h'
    cases h'
    exact⟨_,rfl,.inl rfl⟩
  |false=>
   simp only[List.lookup_cons,hx]
   by_cases hc:(k₀ == NameKind.free && sc.kind == .function && sc.names.lookup n == some .cell)=true
   .rw[if_pos hc] at h'
    simp only[List.lookup_cons,hx] at h'
    exact ih h'
   .rw[if_neg hc] at h'
    simp only[List.lookup_cons,hx] at h'
    exact ih h'
structure jW(N:List Str)(sc scope:Scope)(own:List (Str×Nat)):Prop where
 kind:scope.kind=.function
 uniq:∀y∈scope.names,scope.names.lookup y.1=some y.2
 ix:∀p∈own,N[p.2]? = some p.1
 free:∀y∈scope.names,y.2=.free->sc.names.lookup y.1=some .cell∨sc.names.lookup y.1=some .free
 own:∀y∈scope.names,y.2=.local∨y.2=.cell->y.1∈own.map (·.1)∨y.1∉N
def wipe(σ:St):List Nat->St
 |[]=>σ
 |v::vs=>(wipe σ vs).set v none
theorem Zq(σ:St):∀vs:List Nat,(wipe σ vs).length=σ.length
 |[]=>rfl
 |v::vs=>by unfold wipe;rw[List.length_set,Zq σ vs]
theorem Zp{σ:St}{i:Nat}{x:V}:∀{vs:List Nat},(wipe σ vs)[i]? = some (some x)->σ[i]? = some (some x)/\i∉vs
 |[],h=>⟨h,by simp⟩
 |v::vs,h=>by
  unfold wipe at h
  by_cases hi:v=i
  .subst hi
   by_cases hv:v<(wipe σ vs).length
   .rw[List.getElem?_set_self hv] at h;cases h
   .rw[List.getElem?_eq_none (by simpa using hv)] at h;cases h
  .rw[List.getElem?_set_ne hi] at h
   obtain⟨h1,h2⟩:=Zp h
   exact⟨h1,by simp only[List.mem_cons,not_or];exact⟨λe=>hi e.symm,h2⟩⟩
abbrev Cx.blk(X:Cx)(s:Shared)(H:Hp)(scope:Scope)(cenv:Env)(fp:List Addr):Cx:={ X with s_0:=s,H_0:=H,env:=cenv,outer:=X.stack,ex:=fp,fn:=λx=>scope.names.lookup x == some .cell,pn:=[],xe:=λ_ _=>False }
section
variable{X:Cx}{pins:List (Addr×Obj)}{σ:St}{H:Hp}{s:Shared}
theorem zfq{scope:Scope}{own:List (Str×Nat)}{fp:List Addr}(I:Inv X pins σ H s)(ok:jW X.N X.env.scope scope own)(hN:X.N.Nodup)(hfp:∀b∈fp,wz X pins H b/\b<s.heap.objs.size) :
  Inv (X.blk s H scope (compEnvC scope (cellsFrom (s.heap.objs.size+1) scope.names (yO X.env.cells scope.names [])) s.heap.objs.size X.env) fp) [] (wipe σ (own.map (·.2))) H { s with heap:=pushCells (s.heap.push { cls:=.type "dict",data:=.dict #[] }) scope.names }:=by
 have hfree:∀y∈scope.names,y.2=.free->∃c,X.env.cells.lookup y.1=some c:=λy hy e=>by
  rcases ok.free y hy e with k|k
  .exact I.ok.has _ (.inl k)
  .exact I.ok.has _ (.inr k)
 generalize hcenv:compEnvC scope (cellsFrom (s.heap.objs.size+1) scope.names (yO X.env.cells scope.names [])) s.heap.objs.size X.env=cenv
 have kp:∀b o,s.heap.get? b=some o->(pushCells (s.heap.push { cls:=.type "dict",data:=.dict #[] }) scope.names).get? b=some o:=λb o e=>pushCells_keeps _ _ _ _ (Heap.get?_push_of_some _ e)
 have hL:cenv.locals=s.heap.objs.size:=by rw[<- hcenv];rfl
 have hcl:cenv.cells=cellsFrom (s.heap.objs.size+1) scope.names (yO X.env.cells scope.names []):=by rw[<- hcenv];rfl
 have hsc:cenv.scope=zbI scope X.env.scope:=by rw[<- hcenv];rfl
 rw[<- Heap.size_push s.heap { cls:=.type "dict",data:=.dict #[] }] at hcl
 have cm:∀{y c},(y,c)∈yO X.env.cells scope.names []->X.env.cells.lookup y=some c/\c<s.heap.objs.size:=λ{y c} hm=>by
  rcases Zc hm with hm|⟨h1,rfl⟩
  .cases hm
  .obtain⟨c,hc⟩:=hfree _ h1 rfl
   rw[hc]
   obtain⟨w,z⟩:=I.cell _ _ hc
   exact⟨rfl,z.lt⟩
 have mem:∀{y c},cenv.cells.lookup y=some c->(X.env.cells.lookup y=some c/\c<s.heap.objs.size)∨(s.heap.objs.size+1<=c/\Q6 (pushCells (s.heap.push { cls:=.type "dict",data:=.dict #[] }) scope.names) c none):=λ{y c} e=>by
  rw[hcl] at e
  rcases jP (PySem.mem_of_lookup e) with hm|⟨_,h2,h3⟩
  .exact .inl (cm hm)
  .rw[Heap.size_push] at h2;exact .inr ⟨h2,h3⟩
 have look:∀{y},scope.names.lookup y=some .free->∃c,cenv.cells.lookup y=some c/\X.env.cells.lookup y=some c:=λ{y} hl=>by
  have hy:(y,NameKind.free)∈scope.names:=PySem.mem_of_lookup hl
  obtain⟨c',e'⟩:=yN (Zd (names:=scope.names) (n:=(s.heap.push { cls:=.type "dict",data:=.dict #[] }).objs.size) (XR (cells:=X.env.cells) (acc:=[]) hy))
  rw[<- hcl] at e'
  refine⟨c',e',?_⟩
  rw[hcl] at e'
  rcases jP (PySem.mem_of_lookup e') with hm|⟨h1,_,_⟩
  .exact(cm hm).1
  .have:=ok.uniq _ h1
   rw[hl] at this;cases this
 have okB:(X.blk s H scope cenv fp).Ok:=by
  refine⟨I.ok.mod,by show cenv.scope.kind=_;rw[hsc];exact ok.kind,by show cenv.globals=_;rw[<- hcenv];exact I.ok.glob,by show cenv.builtins=_;rw[<- hcenv];exact I.ok.blt,by show s.heap.objs.size<=cenv.locals;rw[hL];exact Nat.le_refl _,
   λy z c e1 e2=>?_,λy hy=>?_,λy c z e=>?_,I.ok.hd,I.ok.frames,.inl rfl,λb hb=>⟨?_,λy c e z=>?_⟩,I.bs,Nat.le_trans I.ok.bsz I.sz,λb o e hb=>?_,λb hb z=>?_,I.stack,I.stkFree⟩
  .have e1:cenv.cells.lookup y=some c:=e1
   have e2:cenv.cells.lookup z=some c:=e2
   rw[hcl] at e1 e2
   refine XU (λp hp=>?_) (λy z c a b=>I.ok.inj y z c (cm a).1 (cm b).1) (PySem.mem_of_lookup e1) (PySem.mem_of_lookup e2)
   rw[Heap.size_push]
   exact Nat.lt_succ_of_lt (cm (y:=p.1) (c:=p.2) hp).2
  .show ∃c,cenv.cells.lookup y=some c
   have key:∀k,cenv.kindOf y=some k->(k=.cell∨k=.free)->∃c,cenv.cells.lookup y=some c:=λk hk hk'=>by
    unfold Env.kindOf at hk
    rw[hsc] at hk
    obtain⟨k',e,r⟩:=Xj hk
    have:k'=.cell∨k'=.free:=by
     rcases r with rfl|⟨rfl,_⟩
     .exact hk'
     .exact .inr rfl
    rcases this with rfl|rfl
    .obtain⟨c,hm⟩:=XV (n:=(s.heap.push { cls:=.type "dict",data:=.dict #[] }).objs.size) (acc:=yO X.env.cells scope.names []) (PySem.mem_of_lookup e)
     obtain⟨c',e'⟩:=yN hm
     exact⟨c',by rw[hcl];exact e'⟩
    .obtain⟨c,h1,_⟩:=look e
     exact⟨c,h1⟩
   rcases hy with hy|hy
   .exact key _ hy (.inl rfl)
   .exact key _ hy (.inr rfl)
  .have z:(scope.names.lookup y == some NameKind.cell)=true:=z
   have z:scope.names.lookup y=some .cell:=by simpa using z
   have e:cenv.cells.lookup y=some c:=e
   rw[hcl] at e
   rcases jP (PySem.mem_of_lookup e) with hm|⟨_,h2,_⟩
   .rcases Zc hm with hm|⟨h1,_⟩
    .cases hm
    .have q:=ok.uniq _ h1
     rw[z] at q;cases q
   .rw[Heap.size_push] at h2
    exact Nat.le_of_succ_le h2
  .show b≠cenv.locals
   rw[hL];exact Nat.ne_of_lt (hfp b hb).2
  .have e:cenv.cells.lookup y=some c:=e
   rcases mem e with ⟨h1,_⟩|⟨h1,_⟩
   .exact(hfp b hb).1.2.2.2.2.1 y c h1 z
   .have h2:s.heap.objs.size+1<=b:=by rw[<- z];exact h1
    exact absurd (Nat.lt_of_lt_of_le (hfp b hb).2 (Nat.le_of_succ_le h2)) (Nat.lt_irrefl _)
  .rcases(hfp b hb).1.2.2.2.1 with z|z
   .exact I.ok.noex b o e z
   .exact absurd (Nat.lt_of_lt_of_le (Heap.lt_size e) (Nat.le_trans I.ok.bsz z)) (Nat.lt_irrefl _)
  .rcases List.mem_cons.mp (I.stkSub b z) with z|z
   .exact(hfp b hb).1.2.1 z
   .exact(hfp b hb).1.2.2.1 z
 refine⟨okB,rfl,I.bare,Un.kept kp,⟨λ_=>none,?_,λi y av e1 e2 e3=>?_⟩,λy c e=>?_,?_,λy c e=>?_,λp hp=>?_,I.hok.kept kp,by rw[Zq];exact I.len⟩
 .show Heap.Ns _ cenv.locals _
  rw[hL]
  exact Heap.Ns.keeps (Heap.Ns.new ..) λb o e=>pushCells_keeps _ _ _ _ e
 .obtain⟨e2,hne⟩:=Zp e2
  have hfr:scope.names.lookup y=some .free/\(cenv.kindOf y=some .cell∨cenv.kindOf y=some .free):=by
   have key:∀k,cenv.scope.names.lookup y=some k->k=.local∨k=.cell∨k=.free->scope.names.lookup y=some .free/\(cenv.kindOf y=some .cell∨cenv.kindOf y=some .free):=λk hk hk'=>by
    have hk0:=hk
    rw[hsc] at hk
    obtain⟨k',e,r⟩:=Xj hk
    have no:¬(k'=.local∨k'=.cell):=λhh=>by
     rcases ok.own _ (PySem.mem_of_lookup e) hh with e' | e'
     .obtain⟨p,hp,hpy⟩:=List.mem_map.mp e'
      have e3:=ok.ix p hp
      have:p.1=y:=hpy
      rw[this] at e3
      exact hne (List.mem_map.mpr ⟨p,hp,Y9 hN e3 e1⟩)
     .exact e' (List.mem_of_getElem? e1)
    rcases r with rfl|⟨rfl,rfl⟩
    .rcases hk' with rfl|rfl|rfl
     .exact absurd (.inl rfl) no
     .exact absurd (.inr rfl) no
     .exact⟨e,.inr hk0⟩
    .exact⟨e,.inl hk0⟩
   have e3:Vis cenv.scope y:=e3
   rcases e3 with e3|e3|e3
   .exact key _ e3 (.inl rfl)
   .exact key _ e3 (.inr (.inl rfl))
   .exact key _ e3 (.inr (.inr rfl))
  obtain⟨m,hn,hl⟩:=I.loc
  have hvis:Vis X.env.scope y:=(ok.free _ (PySem.mem_of_lookup hfr.1) rfl).elim (λk=>.inr (.inl k)) (λk=>.inr (.inr k))
  obtain⟨w,r,q⟩:=hl i y av e1 e2 hvis
  refine⟨w,r,.inr ⟨hfr.2,?_⟩⟩
  obtain⟨c,h1,h2⟩:=look hfr.1
  rcases q with ⟨k,_⟩|⟨_,c',e',z⟩
  .have k:X.env.scope.names.lookup y=some .local:=k
   rcases ok.free _ (PySem.mem_of_lookup hfr.1) rfl with k' | k'<;>rw[show X.env.scope.names.lookup y=_ from k'] at k<;>cases k
  .rw[h2] at e';cases e'
   exact⟨c,h1,z.keeps kp⟩
 .have e:cenv.cells.lookup y=some c:=e
  rcases mem e with ⟨h1,_⟩|⟨_,z⟩
  .obtain⟨w,z⟩:=I.cell y c h1
   exact⟨w,z.keeps kp⟩
  .exact⟨_,z⟩
 .show H cenv.locals=none
  rw[hL];exact I.hok.fresh (Nat.le_refl _)
 .have e:cenv.cells.lookup y=some c:=e
  rcases mem e with ⟨h1,_⟩|⟨h1,_⟩
  .exact I.freeC y c h1
  .exact I.hok.fresh (Nat.le_of_succ_le h1)
 .exact absurd (show p∈([]:List (Addr×Obj))++[] from hp) (by simp)
theorem zf7{E:Value->Shared->Prop}{D:Addr}{xs:List V}{y:V}{v:Value}{Q:Value->Shared->Prop}(I:Inv X pins σ H s)(hD:H D=some (.lst xs))(hz:xs.length<sizeLine)(r:zr y v)
  (h:∀s',Inv X pins σ (upd H D (.lst (xs++[y]))) s'->Q .none s'):wpAny (model X.prog X.w) X.A (call (.builtin "list.append") [.ref D,v]) Q E s:=by
 obtain⟨hz',its,n,ri,e⟩:=I.hok D _ hD
 have hl:=ri.length
 refine append_at (hsz:=by rw[List.size_toArray];omega) e λh' sb ho'=>?_
 refine h { s with heap:=h' } (I.write (t':=s.toks) (by rw[hD];trivial) (.inl rfl) (λb u hb q=>(sb.2 b hb).trans q) ⟨_,ho'⟩ ⟨by rw[List.length_append];exact hz,its++[v],n+1,ri.append (.cons r .nil),?_⟩)
 rw[ho']
 simp
def PTs(X:Cx)(ifs:List Expr)(t:TT):Prop :=
 ∀(pins:List (Addr×Obj)) (s:Shared) (σ:St) (H:Hp) (Q:Bool->Hp->Prop),Inv X pins σ H s->t σ H Q ->
  wpAny (model X.prog X.w) X.A (forIn ifs true λc r=>if r=true then do let ok <- isTrue c X.env (eval c X.env);pure (ForInStep.yield ok) else pure (ForInStep.yield r)) (TP X pins σ Q) X.xe s
def xc:TT:=λ_ H Q=>Q true H
theorem xT:PTs X [] xc:=λ_ _ _ H _ I h=>wpAny_tests_nil ⟨H,I,h⟩
theorem VE{c:Expr}{t:TT}(h:PT X c t):PTs X [c] t:=λpins s σ H Q I hw=>wpAny_tests_one (h pins s σ H Q I hw)
end
theorem ue{α:Type}{t:Sem α}{Q Q':α->Shared->Prop}{M:Model}{A:Around}{E:Value->Shared->Prop}{s:Shared}(h:wpAny M A t Q (λ_ _=>False) s)(hQ:∀a s,Q a s->Q' a s):wpAny M A t Q' E s:=wpAny_mono h hQ λ_ _ z=>False.elim z
theorem zfe{prog:Program}{w:World}{A:Around}{R:Result->Shared->Prop}{s:Shared}{elt target iter:Expr}{ifs:List Expr}{scope:Scope}{pos:Pos}{it acc:Value}{env:Env}(I:Nat->Shared->Prop)
  (turn:∀n s,I n s->wpAny (model prog w) A (pyNext it) (λr s₁=>match r with
   |none=>R (.ok .next) s₁
   |some v=>wpAny (model prog w) A (letOwnedTupleGo target it v) (λ_ s₁'=>wpAny (model prog w) A (assign target env v) (λ_ s₂=>
     wpAny (model prog w) A (forIn ifs true λc r=>if r=true then do let ok <- isTrue c env (eval c env);pure (ForInStep.yield ok) else pure (ForInStep.yield r)) (λok s₃=>
      if ok=true then wpAny (model prog w) A (eval elt env) (λx s₄=>
       wpAny (model prog w) A (call (.builtin "list.append") [acc,x]) (λ_ s₅=>∃m,m<n/\I m s₅) (notedBy (model prog w) A env λe s'=>R (.error e) s') s₄) (notedBy (model prog w) A env λe s'=>R (.error e) s') s₃
      else ∃m,m<n/\I m s₃) (notedBy (model prog w) A env λe s'=>R (.error e) s') s₂) (notedBy (model prog w) A env λe s'=>R (.error e) s') s₁') (notedBy (model prog w) A env λe s'=>R (.error e) s') s₁) (notedBy (model prog w) A env λe s'=>R (.error e) s') s)
  (n:Nat) (h:I n s) :
  codeAny (model prog w) A (.compLoop (.ListComp elt [⟨target,iter,ifs,0⟩] scope pos) 0 it acc env) R s:=by
 refine codeAny_loop rfl I (λn s hI=>?_) n h
 show wpAny _ A ((compTurn (.ListComp elt [⟨target,iter,ifs,0⟩] scope pos) 0 it acc env).onRaise (λx=>do noteFrame x env;theTreesLotGoes x)) _ _ s
 refine wpAny_noted ?_
 rw[compTurn_list]
 refine wpAny_bind (wpAny_standAt (wpAny_bind (wpAny_mono (turn n s hI) (λr s₁ h₁=>?_) λ_ _ h'=>h')))
 cases r with
 |none=>exact wpAny_pure h₁
 |some v=>
  refine wpAny_bind (wpAny_mono h₁ (λ_ s₁' h₁'=>?_) λ_ _ h'=>h')
  refine wpAny_bind (wpAny_mono h₁' (λ_ s₂ h₂=>wpAny_bind (wpAny_mono h₂ (λok s₃ h₃=>?_) λ_ _ h'=>h')) λ_ _ h'=>h')
  cases ok with
  |false=>exact wpAny_pure ⟨rfl,h₃⟩
  |true=>
   exact wpAny_bind (wpAny_bind (wpAny_mono h₃ (λx s₄ h₄=>wpAny_bind (wpAny_mono h₄ (λ_ s₅ h₅=>wpAny_pure (wpAny_pure ⟨rfl,h₅⟩)) λ_ _ h'=>h')) λ_ _ h'=>h'))
section
variable{X:Cx}
def tLc(wi:TI)(g:TG)(tt:TT)(te:TE)(vs:List Nat):TE:=fun σ H Q=>wi σ H λJ H1=>∀D,H1 D=none->∃W:Nat->Nat->Hp->Prop,(∃m,W 0 m (upd H1 D (.lst [])))/\∀i m H,W i m H ->
 (J.stop i H/\Q (.ref D) H)∨(J.go i H/\∃Nx:Hp->Prop,(∀H',Nx H'->∃m',m'<m/\W (i+1) m' H')/\∀x H',J.yld i H x H'->g x (wipe σ vs) H' fun σ2 H2=>wipe σ2 vs=wipe σ vs/\tt σ2 H2 λb H3=>
  if b=true then te σ2 H3 λy H4=>∃acc,H4 D=some (.lst acc)/\acc.length<sizeLine/\Nx (upd H4 D (.lst (acc++[y]))) else Nx H3)
theorem zd4{pins:List (Addr×Obj)}{s:Shared}{σ:St}{H:Hp}{Q:VK}{elt tg iter:Expr}{ifs:List Expr}{scope:Scope}{own:List (Str×Nat)}{pos pos':Pos}{wi:TI}{g:TG}{tt:TT}{te:TE}{use:Option (Value->Sem Unit)}{Qf:Value->Shared->Prop}
  (hc:X.calm=true) (hN:X.N.Nodup) (I:Inv X pins σ H s) (hi:PI X tg iter wi) (ok:jW X.N X.env.scope scope own)
  (hg:∀(s:Shared)(H:Hp)(C:Addr)(cl:List (Str×Addr)) (fp:List Addr),PG (X.blk s H scope (compEnvC scope cl C X.env) fp) tg g) (ht:∀(s:Shared)(H:Hp)(C:Addr)(cl:List (Str×Addr)) (fp:List Addr),PTs (X.blk s H scope (compEnvC scope cl C X.env) fp) ifs tt)
  (he:∀(s:Shared)(H:Hp)(C:Addr)(cl:List (Str×Addr)) (fp:List Addr),PE (X.blk s H scope (compEnvC scope cl C X.env) fp) elt te) (hs:∀x,foldedSetIterable iter X.env x=pure x)
  (h:tLc wi g tt te (own.map (·.2)) σ H Q)
  (hRR:∀D C s' m H',Inv X pins σ H' s'->Q (.ref D) H'->s'.heap.Ns C m->wz X pins H' C->compPost (model X.prog X.w) X.A X.xe use Qf (.ref D) C (.ok .next) s') :
  wpAny (model X.prog X.w) X.A (comprehension (.ListComp elt [⟨tg,iter,ifs,0⟩] scope pos) scope X.env pos' (newList []) false (eval iter X.env) use) Qf X.xe s:=by
 have hfree:∀y∈scope.names,y.2=.free->∃c,X.env.cells.lookup y.1=some c:=λy hy e=>by
  rcases ok.free y hy e with k|k
  .exact I.ok.has _ (.inl k)
  .exact I.ok.has _ (.inr k)
 refine wpAny_comprehension_free (use:=use) rfl hs (zfj hfree) ok.kind (λy hy e=>by rw[ok.uniq y hy,e])
  (thn (hi pins s σ H _ I h) λxv s1 hx=>thn hx λitv s2 h2=>?_)
 obtain⟨it,fp,tn,J,H2,e,I2,T,st2,f2,q⟩:=h2
 subst e
 refine wpAny_newObj_type (zdr ?_) (by show 0<=sizeLine;decide)
 generalize hD:s2.heap.objs.size=D
 have hDn:H2 D=none:=I2.hok.fresh (Nat.le_of_eq hD)
 obtain⟨W,⟨m0,w0⟩,turn⟩:=q D hDn
 generalize hs3:({ s2 with heap:=s2.heap.push { cls:=.type "list",data:=.seq ([]:List Value).toArray } }:Shared)=s3
 have I3:Inv X pins σ (upd H2 D (.lst [])) s3:=by
  rw[<- hs3]
  refine I2.laid (t':=s2.toks) (λb o e=>Heap.get?_push_of_some _ e) (Nat.le_of_eq hD) ⟨Nat.zero_le _,[],0,.nil,?_⟩
  rw[<- hD]
  exact Heap.get?_push_size _ rfl
 have h3:s3.heap=s2.heap.push { cls:=.type "list",data:=.seq ([]:List Value).toArray }:=by rw[<- hs3]
 have sz:∀b∈fp,b<s2.heap.objs.size:=λb hb=>by
  obtain⟨o,e,_⟩:=T.obj _ _ st2 b hb
  exact Heap.lt_size e
 have f3:∀b∈fp,wz X pins (upd H2 D (.lst [])) b/\b<s3.heap.objs.size:=λb hb=>by
  have hlt:=sz b hb
  refine⟨⟨?_,(f2 b hb).2⟩,by rw[h3,Heap.size_push];exact Nat.lt_succ_of_lt hlt⟩
  rw[zh (by rw[<- hD];exact Nat.ne_of_lt hlt)]
  exact(f2 b hb).1
 have st3:tn 0 s3.heap:=T.keep _ _ _ st2 λb _ o e=>by rw[h3];exact Heap.get?_push_of_some _ e
 have I4:=zfq I3 ok hN f3
 have pg:=hg s3 (upd H2 D (.lst [])) s3.heap.objs.size (cellsFrom (s3.heap.objs.size+1) scope.names (yO X.env.cells scope.names [])) fp
 have pt:=ht s3 (upd H2 D (.lst [])) s3.heap.objs.size (cellsFrom (s3.heap.objs.size+1) scope.names (yO X.env.cells scope.names [])) fp
 have pe:=he s3 (upd H2 D (.lst [])) s3.heap.objs.size (cellsFrom (s3.heap.objs.size+1) scope.names (yO X.env.cells scope.names [])) fp
 show codeAny _ _ (.compStart (.ListComp elt [⟨tg,iter,ifs,0⟩] scope pos) 0 (.ref it) (.ref D) (compEnvC scope (cellsFrom (s3.heap.objs.size+1) scope.names (yO X.env.cells scope.names [])) s3.heap.objs.size X.env)) (compPost (model X.prog X.w) X.A X.xe use Qf (.ref D) s3.heap.objs.size) { s3 with heap:=pushCells (s3.heap.push { cls:=.type "dict",data:=.dict #[] }) scope.names }
 have nfp:∀b∈fp,(upd H2 D (.lst [])) b=none:=λb hb=>(f3 b hb).1.1
 generalize hce:compEnvC scope (cellsFrom (s3.heap.objs.size+1) scope.names (yO X.env.cells scope.names [])) s3.heap.objs.size X.env=ce at I4 pg pt pe ⊢
 have cL:ce.locals=s3.heap.objs.size:=by subst hce;rfl
 generalize hH3:upd H2 D (.lst [])=H3 at I3 I4 pg pt pe w0 nfp f3
 generalize hs4:({ s3 with heap:=pushCells (s3.heap.push { cls:=.type "dict",data:=.dict #[] }) scope.names }:Shared)=s4 at I4 ⊢
 have st4:tn 0 s4.heap:=T.keep _ _ _ st3 λb _ o e=>by rw[<- hs4];exact pushCells_keeps _ _ _ _ (Heap.get?_push_of_some _ e)
 have stat:∀{σ':St}{H':Hp}{s':Shared},Inv (X.blk s3 H3 scope ce fp) [] σ' H' s'->(∀b∈fp,H' b=none)->∀b∈fp,wz (X.blk s3 H3 scope ce fp) [] H' b:=λ{σ' H' s'} I' hn b hb=>
  ⟨hn b hb,(I'.ok.exf b hb).1,I'.ok.exfs b hb,.inl hb,λx c e=>(I'.ok.exf b hb).2 x c e,λp hp=>absurd (show p∈([]:List (Addr×Obj))++[] from hp) (by simp)⟩
 have loop:codeAny (model X.prog X.w) X.A (.compLoop (.ListComp elt [⟨tg,iter,ifs,0⟩] scope pos) 0 (.ref it) (.ref D) ce) (compPost (model X.prog X.w) X.A X.xe use Qf (.ref D) s3.heap.objs.size) s4:=by
  refine zfe (λn s'=>∃i H',Inv (X.blk s3 H3 scope ce fp) [] (wipe σ (own.map (·.2))) H' s'/\tn i s'.heap/\(∀b∈fp,H' b=none)/\W i n H') ?_ m0 ⟨0,H3,I4,st4,nfp,w0⟩
  rintro n s5 ⟨i,H5,I5,st5,n5,w5⟩
  rcases turn i n H5 w5 with ⟨stop,qq⟩|⟨go,Nx,hNx,step⟩
  .have td:=T.done (X.blk s3 H3 scope ce fp) rfl rfl rfl hc i [] s5 _ H5 (λ_ _=>False) I5 (stat I5 n5) st5 stop
   refine ue td λr s6 ⟨hr,I6⟩=>?_
   subst hr
   have I7:Inv X pins σ H5 s6:=I3.call' (ch:=fp) I6.os I6.base I6.hok I6.bare λb hb=>⟨(f3 b hb).1.2.2.2.1,(f3 b hb).1.2.1,(f3 b hb).1.2.2.2.2.1,(f3 b hb).1.2.2.2.2.2⟩
   have nC:H5 s3.heap.objs.size=none:=by
    have z:H5 ce.locals=none:=I6.free
    rw[cL] at z
    exact z
   obtain⟨m,hn,_⟩:=I6.loc
   have hn:s6.heap.Ns ce.locals m:=hn
   rw[cL] at hn
   exact hRR D s3.heap.objs.size s6 m H5 I7 qq hn (I3.fpOk (Nat.le_refl _) nC)
  .have ti:=T.item (X.blk s3 H3 scope ce fp) rfl rfl rfl hc i [] s5 _ H5 (λ_ _=>False) I5 (stat I5 n5) st5 go
   refine ue ti λr s6 ⟨u,hr,h6⟩=>?_
   subst hr
   refine ue h6 λ_ s7 ⟨x,H7,I7,r7,y7,st7,n7⟩=>?_
   have I7':=I7.pinned (stat I7 n7) (T.obj _ _ st7)
   refine ue (pg _ s7 _ H7 x u _ I7' r7 (step x H7 y7)) λ_ s8 ⟨σ8,H8,I8,hw8,q8⟩=>?_
   refine ue (pt _ s8 σ8 H8 _ I8 q8) λb s9 ⟨H9,I9,q9⟩=>?_
   have fin:∀{s':Shared}{H':Hp},Inv (X.blk s3 H3 scope ce fp) ([]++jo fp s7.heap) σ8 H' s'->Nx H'->∃m,m<n/\∃i H',Inv (X.blk s3 H3 scope ce fp) [] (wipe σ (own.map (·.2))) H' s'/\tn i s'.heap/\(∀b∈fp,H' b=none)/\W i m H':=λ{s' H'} I' nx=>by
    obtain⟨m',hm,w'⟩:=hNx H' nx
    have pin':∀b∈fp,∀o,s7.heap.get? b=some o->s'.heap.get? b=some o/\H' b=none:=λb hb o e=>
     let z:=I'.pin (b,o) (List.mem_append_right _ (List.mem_append_right _ (Xh hb e)))
     ⟨z.1,z.2.1⟩
    have hl:(wipe σ (own.map (·.2))).length=σ8.length:=by rw[<- hw8,Zq]
    refine⟨m',hm,i+1,H',(I'.unpinned (pins:=[])).weak hl (λj v e=>?_),T.keep _ _ _ st7 λb hb o e=>(pin' b hb o e).1,λb hb=>?_,w'⟩
    .rw[<- hw8] at e
     exact(Zp e).1
    .obtain⟨o,e,_⟩:=T.obj _ _ st7 b hb
     exact(pin' b hb o e).2
   cases b with
   |false=>
    simp only[Bool.false_eq_true,if_false] at q9 ⊢
    exact fin I9 q9
   |true=>
    simp only[if_true] at q9 ⊢
    refine ue (pe _ s9 σ8 H9 _ I9 q9) λz s10 ⟨yv,H10,I10,r10,acc,hD10,hz10,nx⟩=>?_
    exact zf7 (X:=X.blk s3 H3 scope ce fp) I10 hD10 hz10 r10 λs11 I11=>fin I11 nx
 exact codeAny_compStart_list loop (T.self X.A 0 _ _ _ st4 loop)
theorem xw{elt tg iter:Expr}{ifs:List Expr}{scope:Scope}{own:List (Str×Nat)}{pos:Pos}{wi:TI}{g:TG}{tt:TT}{te:TE}(hc:X.calm=true)(hN:X.N.Nodup)(hi:PI X tg iter wi)(ok:jW X.N X.env.scope scope own)
  (hg:∀(s:Shared)(H:Hp)(C:Addr)(cl:List (Str×Addr)) (fp:List Addr),PG (X.blk s H scope (compEnvC scope cl C X.env) fp) tg g) (ht:∀(s:Shared)(H:Hp)(C:Addr)(cl:List (Str×Addr)) (fp:List Addr),PTs (X.blk s H scope (compEnvC scope cl C X.env) fp) ifs tt)
  (he:∀(s:Shared)(H:Hp)(C:Addr)(cl:List (Str×Addr)) (fp:List Addr),PE (X.blk s H scope (compEnvC scope cl C X.env) fp) elt te) (hs:∀x,foldedSetIterable iter X.env x=pure x:=by intro _;rfl) :
  PE X (.ListComp elt [⟨tg,iter,ifs,0⟩] scope pos) (tLc wi g tt te (own.map (·.2))):=by
 intro pins s σ H Q I h
 rw[eval_ListComp]
 refine zd4 hc hN I hi ok hg ht he hs h λD C s' m H' I' q hn f=>⟨m,hn,λh'' sb=>?_⟩
 obtain⟨f0,f1,f2,f3,f4,f5⟩:=f
 exact⟨.ref D,H',I'.turned (t':=s'.toks) (λb o hb e=>(sb.2 b hb).trans e) f0 f1 f3 f4 f5,rfl,q⟩
end
theorem JE{lo:Int}{n:Nat}{g:TG}{tt:TT}{te:TE}{vs:List Nat}{σ:St}{H1:Hp}{D:Addr}{Qd:Hp->Prop}(Pv:Nat->Hp->Prop)(h0:Pv 0 (upd H1 D (.lst [])))
  (hs:∀i H,i<n->Pv i H->g (.int (lo+i)) (wipe σ vs) H fun σ2 H2=>wipe σ2 vs=wipe σ vs/\tt σ2 H2 λb H3=>
   if b=true then te σ2 H3 λy H4=>∃acc,H4 D=some (.lst acc)/\acc.length<sizeLine/\Pv (i+1) (upd H4 D (.lst (acc++[y]))) else Pv (i+1) H3) (hd:∀H,Pv n H->Qd H) :
  ∃W:Nat->Nat->Hp->Prop,(∃m,W 0 m (upd H1 D (.lst [])))/\∀i m H,W i m H ->
   ((Itr lo n).stop i H/\Qd H)∨((Itr lo n).go i H/\∃Nx:Hp->Prop,(∀H',Nx H'->∃m',m'<m/\W (i+1) m' H')/\∀x H',(Itr lo n).yld i H x H'->g x (wipe σ vs) H' fun σ2 H2=>wipe σ2 vs=wipe σ vs/\tt σ2 H2 λb H3=>
    if b=true then te σ2 H3 λy H4=>∃acc,H4 D=some (.lst acc)/\acc.length<sizeLine/\Nx (upd H4 D (.lst (acc++[y]))) else Nx H3):=by
 refine⟨λi m H=>m=n-i/\i<=n/\Pv i H,⟨n,by simp,Nat.zero_le _,h0⟩,?_⟩
 rintro i m H ⟨rfl,hi,p⟩
 by_cases hlt:i<n
 .refine .inr ⟨hlt,Pv (i+1),λH' p'=>⟨n-(i+1),by omega,rfl,hlt,p'⟩,λx H' y=>?_⟩
  obtain⟨e,y⟩:=y
  subst e y
  exact hs i _ hlt p
 .have e:i=n:=by omega
  subst e
  exact .inl ⟨Nat.le_refl _,hd H p⟩
theorem wt{K:PySem.W.Frag}{a:Addr}{xs:List V}{g:TG}{tt:TT}{te:TE}{vs:List Nat}{σ:St}{H1:Hp}{D:Addr}{Qd:Hp->Prop}(Pv:Nat->Hp->Prop)(h0:Pv 0 (upd H1 D (.lst [])))(hl:∀i H,i<=xs.length->Pv i H->SqL K H a xs)
  (hs:∀i x H,xs[i]? = some x->Pv i H->g x (wipe σ vs) H fun σ2 H2=>wipe σ2 vs=wipe σ vs/\tt σ2 H2 λb H3=>
   if b=true then te σ2 H3 λy H4=>∃acc,H4 D=some (.lst acc)/\acc.length<sizeLine/\Pv (i+1) (upd H4 D (.lst (acc++[y]))) else Pv (i+1) H3) (hd:∀H,Pv xs.length H->Qd H) :
  ∃W:Nat->Nat->Hp->Prop,(∃m,W 0 m (upd H1 D (.lst [])))/\∀i m H,W i m H ->
   ((Itl K a).stop i H/\Qd H)∨((Itl K a).go i H/\∃Nx:Hp->Prop,(∀H',Nx H'->∃m',m'<m/\W (i+1) m' H')/\∀x H',(Itl K a).yld i H x H'->g x (wipe σ vs) H' fun σ2 H2=>wipe σ2 vs=wipe σ vs/\tt σ2 H2 λb H3=>
    if b=true then te σ2 H3 λy H4=>∃acc,H4 D=some (.lst acc)/\acc.length<sizeLine/\Nx (upd H4 D (.lst (acc++[y]))) else Nx H3):=by
 refine⟨λi m H=>m=xs.length-i/\i<=xs.length/\Pv i H,⟨xs.length,by simp,Nat.zero_le _,h0⟩,?_⟩
 rintro i m H ⟨rfl,hi,p⟩
 have q:=hl i H hi p
 by_cases hlt:i<xs.length
 .refine .inr ⟨⟨xs,xs[i],q,by simp[hlt]⟩,Pv (i+1),λH' p'=>⟨xs.length-(i+1),by omega,rfl,hlt,p'⟩,λx H' y=>?_⟩
  obtain⟨e,y⟩:=y
  subst e
  exact hs i x _ (y xs q) p
 .have e:i=xs.length:=by omega
  subst e
  exact .inl ⟨⟨xs,q,Nat.le_refl _⟩,hd H p⟩
def XX(N:List Str)(sc scope:Scope)(own:List (Str×Nat)):Bool :=
 (match scope.kind with|.function=>true|_=>false) && (scope.names.all λy=>decide (scope.names.lookup y.1=some y.2)) && (own.all λp=>decide (N[p.2]? = some p.1)) &&
  (scope.names.all λy=>match y.2 with
   |.free=>(match sc.names.lookup y.1 with|some .cell=>true|some .free=>true|_=>false)
   |.local=>decide (y.1∈own.map (·.1)) || decide (y.1∉N)
   |.cell=>decide (y.1∈own.map (·.1)) || decide (y.1∉N)
   |_=>true)
theorem zfr{N:List Str}{sc scope:Scope}{own:List (Str×Nat)}(h:XX N sc scope own=true):jW N sc scope own:=by
 unfold XX at h
 simp only[Bool.and_eq_true,List.all_eq_true,decide_eq_true_eq] at h
 obtain⟨⟨⟨h1,h2⟩,h3⟩,h4⟩:=h
 refine⟨?_,h2,h3,λy hy e=>?_,λy hy e=>?_⟩
 .split at h1
  .assumption
  .cases h1
 .have q:=h4 y hy
  simp only[e] at q
  split at q<;>first|exact .inl (by assumption)|exact .inr (by assumption)|cases q
 .have q:=h4 y hy
  rcases e with e|e<;>(simp only[e,Bool.or_eq_true,decide_eq_true_eq] at q;exact q)
end L2
namespace L2
open PySem PySem.Spec PyProof.Rows
section
variable{prog:Program}{w:World}{A:Around}{R:Result->Shared->Prop}{s:Shared}{elt t0 i0 t1 i1:Expr}{ifs0 ifs1:List Expr}{scope:Scope}{pos:Pos}{it acc:Value}{env:Env}
end
section
variable{X:Cx}
end
end L2
namespace L2
open PySem PySem.Spec PyProof.Rows
section
variable{κ:Type} [DecidableEq κ]
def zX(kvs:List (κ×V))(k:κ):Option V:=(kvs.find? λkv=>decide (kv.1=k)).map (·.2)
def yp(kvs:List (κ×V))(k:κ)(v:V):List (κ×V) :=
 if (kvs.any λkv=>decide (kv.1=k))=true then kvs.map (λkv=>if kv.1=k then (kv.1,v) else kv) else kvs++[(k,v)]
theorem zag{k:κ}:zX ([]:List (κ×V)) k=none:=rfl
theorem xN{p:κ×V}{r:List (κ×V)}{k:κ}(e:p.1=k):zX (p::r) k=some p.2:=by simp[zX,List.find?_cons,e]
theorem xD{p:κ×V}{r:List (κ×V)}{k:κ}(e:¬p.1=k):zX (p::r) k=zX r k:=by simp[zX,List.find?_cons,e]
theorem uY(k:κ):∀kvs:List (κ×V),(kvs.any λkv=>decide (kv.1=k))=(zX kvs k).isSome
 |[]=>rfl
 |p::r=>by
  rw[List.any_cons]
  by_cases e:p.1=k
  .simp only[xN e,decide_eq_true e,Bool.true_or,Option.isSome_some]
  .rw[xD e,decide_eq_false e,Bool.false_or];exact uY k r
theorem Wg(k j:κ)(y:V):∀kvs:List (κ×V),zX (kvs.map λkv=>if kv.1=k then (kv.1,y) else kv) j=(zX kvs j).map λx=>if j=k then y else x
 |[]=>rfl
 |p::r=>by
  have ih:=Wg k j y r
  rw[List.map_cons]
  by_cases h:p.1=k
  .rw[if_pos h]
   by_cases e:p.1=j
   .rw[xN (p:=(p.1,y)) e,xN e,Option.map_some,if_pos (e.symm.trans h)]
   .rw[xD (p:=(p.1,y)) e,xD e,ih]
  .rw[if_neg h]
   by_cases e:p.1=j
   .rw[xN (p:=p) e,xN e,Option.map_some,if_neg (λz=>h (e.trans z))]
   .rw[xD (p:=p) e,xD e,ih]
theorem We(k j:κ)(y:V):∀kvs:List (κ×V),zX kvs k=none->zX (kvs++[(k,y)]) j=if j=k then some y else zX kvs j
 |[],_=>by
  by_cases e:k=j
  .rw[if_pos e.symm];exact xN (p:=(k,y)) e
  .rw[if_neg (λz=>e z.symm)];exact xD (p:=(k,y)) e
 |p::r,hn=>by
  rw[List.cons_append]
  have hk:¬p.1=k:=λz=>by rw[xN z] at hn;cases hn
  rw[xD hk] at hn
  have ih:=We k j y r hn
  by_cases e:p.1=j
  .rw[xN e,xN e,if_neg (λz=>hk (e.trans z))]
  .rw[xD e,xD e,ih]
theorem Wf(kvs:List (κ×V))(k j:κ)(y:V):zX (yp kvs k y) j=if j=k then some y else zX kvs j:=by
 unfold yp
 by_cases a:(kvs.any λkv=>decide (kv.1=k))=true
 .rw[if_pos a,Wg]
  rw[uY] at a
  by_cases e:j=k
  .obtain⟨x,hx⟩:=Option.isSome_iff_exists.mp a
   rw[if_pos e,e,hx,Option.map_some,if_pos rfl]
  .rw[if_neg e]
   cases zX kvs j with
   |none=>rfl
   |some x=>rw[Option.map_some,if_neg e]
 .rw[if_neg a]
  refine We k j y kvs ?_
  rw[uY] at a
  cases q:zX kvs k with
  |none=>rfl
  |some x=>rw[q] at a;exact(a rfl).elim
theorem kI(kvs:List (κ×V))(k:κ)(v:V):(yp kvs k v).length<=kvs.length+1:=by
 unfold yp
 split
 .rw[List.length_map];omega
 .rw[List.length_append,List.length_cons,List.length_nil];omega
theorem YJ{kvs:List (κ×V)}{k:κ}(v:V)(h:zX kvs k=none):yp kvs k v=kvs++[(k,v)]:=by
 unfold yp
 rw[uY,h]
 exact if_neg (by decide)
theorem yV.isSome_eq{o:Option V}{u:Option Value}(r:yV o u):o.isSome=u.isSome:=by
 cases o with
 |none=>cases u with
  |none=>rfl
  |some _=>exact(show False from r).elim
 |some _=>cases u with
  |none=>exact(show False from r).elim
  |some _=>rfl
theorem yV.getD{o:Option V}{u:Option Value}{d:V}{d':Value}(r:yV o u)(rd:zr d d'):zr (o.getD d) (u.getD d'):=by
 cases o with
 |none=>cases u with
  |none=>exact rd
  |some _=>exact(show False from r).elim
 |some _=>cases u with
  |none=>exact(show False from r).elim
  |some _=>exact r
theorem KV.val{kvs:List (κ×V)}{vs:List (κ×Value)}(r:KV kvs vs)(k:κ):yV (zX kvs k) (valueAt vs k):=by
 unfold KV at r
 induction r with
 |nil=>exact True.intro
 |@cons p q ps qs h t ih=>
  obtain⟨h1,h2⟩:=h
  by_cases e:p.1=k
  .have e':q.1=k:=h1.symm.trans e
   have b:valueAt (q::qs) k=some q.2:=by simp[valueAt,List.find?_cons,e']
   rw[xN e,b];exact h2
  .have e':¬q.1=k:=λz=>e (h1.trans z)
   have b:valueAt (q::qs) k=valueAt qs k:=by simp[valueAt,List.find?_cons,e']
   rw[xD e,b];exact ih
theorem KV.any{kvs:List (κ×V)}{vs:List (κ×Value)}(r:KV kvs vs)(k:κ):(kvs.any λkv=>decide (kv.1=k))=vs.any λkv=>decide (kv.1=k):=by
 unfold KV at r
 induction r with
 |nil=>rfl
 |cons h t ih=>rw[List.any_cons,List.any_cons,ih,h.1]
theorem KV.repl{kvs:List (κ×V)}{vs:List (κ×Value)}(r:KV kvs vs)(k:κ){y:V}{u:Value}(ry:zr y u) :
  KV (kvs.map λkv=>if kv.1=k then (kv.1,y) else kv) (vs.map λkv=>if kv.1=k then (kv.1,u) else kv):=by
 unfold KV at r ⊢
 induction r with
 |nil=>exact .nil
 |@cons p q ps qs h t ih=>
  rw[List.map_cons,List.map_cons]
  refine .cons ?_ ih
  obtain⟨h1,h2⟩:=h
  by_cases e:p.1=k
  .rw[if_pos e,if_pos (h1.symm.trans e)];exact⟨h1,ry⟩
  .rw[if_neg e,if_neg (λz=>e (h1.trans z))];exact⟨h1,h2⟩
theorem KV.put{kvs:List (κ×V)}{vs:List (κ×Value)}(r:KV kvs vs)(k:κ){y:V}{u:Value}(ry:zr y u):KV (yp kvs k y) (stored vs k u):=by
 unfold yp stored
 rw[r.any k]
 by_cases e:(vs.any λkv=>decide (kv.1=k))=true
 .rw[if_pos e,if_pos e];exact r.repl k ry
 .rw[if_neg e,if_neg e];exact Paired.snoc r ⟨rfl,ry⟩
theorem KV.length{kvs:List (κ×V)}{vs:List (κ×Value)}(r:KV kvs vs):kvs.length=vs.length:=Paired.length r
end
theorem wY{P:Program}{w:World}{k:Key}{u:Value}(r:zr (kV k) u):(yI P w).is k u=true:=by
 cases k with
 |inl i=>obtain⟨t,e⟩:=(show ∃t,u=Value.int i t from r);subst e;exact Xd P w i t
 |inr x=>obtain⟨t,e⟩:=(show ∃t,u=Value.str x t from r);subst e;exact zdx P w x t
theorem JT{P:Program}{w:World}:∀{ks:List Key}{us:List Value},Vals (ks.map kV) us->ItemsAre (yI P w) ks us
 |[],_,r=>by rw[List.map_nil] at r;cases r;exact .nil
 |k::ks,_,r=>by
  rw[List.map_cons] at r
  cases r with
  |cons h t=>exact .cons (wY h) (JT t)
abbrev KT(H:Hp):List (List Key×V)->List (List Key×Addr×Value)->Prop:=Paired λp q=>p.1=q.1/\H q.2.1=some (.tup (p.1.map kV))/\zr p.2 q.2.2
theorem KT.val{H:Hp}{kvs:List (List Key×V)}{xs:List (List Key×Addr×Value)}(r:KT H kvs xs)(k:List Key):yV (zX kvs k) ((atKey xs k).map (·.2)):=by
 induction r with
 |nil=>exact True.intro
 |@cons p q ps qs h t ih=>
  obtain⟨h1,_,h2⟩:=h
  by_cases e:p.1=k
  .have e':q.1=k:=h1.symm.trans e
   have b:atKey (q::qs) k=some q.2:=by simp[atKey,List.find?_cons,e']
   rw[xN e,b];exact h2
  .have e':¬q.1=k:=λz=>e (h1.trans z)
   have b:atKey (q::qs) k=atKey qs k:=by simp[atKey,List.find?_cons,e']
   rw[xD e,b];exact ih
theorem KT.repl{H:Hp}{kvs:List (List Key×V)}{xs:List (List Key×Addr×Value)}(r:KT H kvs xs)(k:List Key){y:V}{u:Value}(ry:zr y u) :
  KT H (kvs.map λkv=>if kv.1=k then (kv.1,y) else kv) (xs.map (putAt k u)):=by
 induction r with
 |nil=>exact .nil
 |@cons p q ps qs h t ih=>
  rw[List.map_cons,List.map_cons]
  refine .cons ?_ ih
  obtain⟨h1,h2,h3⟩:=h
  unfold putAt
  by_cases e:p.1=k
  .rw[if_pos e,if_pos (h1.symm.trans e)];exact⟨h1,h2,ry⟩
  .rw[if_neg e,if_neg (λz=>e (h1.trans z))];exact⟨h1,h2,h3⟩
theorem KT.put{H:Hp}{kvs:List (List Key×V)}{xs:List (List Key×Addr×Value)}(r:KT H kvs xs)(k:List Key){b:Addr}{y:V}{u:Value}(hb:H b=some (.tup (k.map kV)))(ry:zr y u) :
  KT H (yp kvs k y) (storedH xs k b u):=by
 have e:(kvs.any λkv=>decide (kv.1=k))=(atKey xs k).isSome:=by
  rw[uY,(r.val k).isSome_eq,Option.isSome_map]
 unfold yp storedH
 rw[e]
 by_cases q:(atKey xs k).isSome=true
 .rw[if_pos q,if_pos q];exact r.repl k ry
 .rw[if_neg q,if_neg q];exact Paired.snoc r ⟨rfl,hb,ry⟩
theorem KT.keeps{H H':Hp}{kvs:List (List Key×V)}{xs:List (List Key×Addr×Value)}(r:KT H kvs xs)(ht:∀b ys,H b=some (.tup ys)->H' b=some (.tup ys)):KT H' kvs xs :=
 Paired.mapP r λ_ _ z=>⟨z.1,ht _ _ z.2.1,z.2.2⟩
section
variable{P:Program}{w:World}{H:Hp}{h:Heap}{a:Addr}
theorem Vz{u:HO}(ok:HOk P w H h)(e:Rd H a u):yy P w H h a u:=e.ok ok
theorem w9{kvs:List (Key×V)}(ok:HOk P w H h)(e:Rd H a (.dK kvs)):kvs.length<=sizeLine/\(a == sysModules)=false/\∃vs,KV kvs vs/\h.DictOf (yI P w) a vs :=
 show yy P w H h a (.dK kvs) from Vz ok e
theorem Ql{kvs:List (Key×V)}(ok:HOk P w H h)(e:H a=some (.dK kvs)):kvs.length<=sizeLine/\(a == sysModules)=false/\∃vs,KV kvs vs/\h.DictOf (yI P w) a vs:=w9 ok (.inl e)
theorem uI{ks:List Key}(ok:HOk P w H h)(e:H a=some (.tup (ks.map kV))):(tupleKind (yI P w)).is h ks a:=by
 obtain⟨_,its,r,o,h1,h2,n,h3⟩:=(show yy P w H h a (.tup (ks.map kV)) from ok a _ e)
 exact⟨o,its.toArray,n,h1,h2,h3,by simpa using JT r⟩
theorem v6{kvs:List (List Key×V)}(ok:HOk P w H h)(e:Rd H a (.dT kvs)):kvs.length<=sizeLine/\(a == sysModules)=false /\
  ∃xs,KT H kvs xs/\h.DictOfH (tupleKind (yI P w)) a xs:=by
 obtain⟨z,y,xs,r,o,es,ep,h1,h2,h3,h4,h5⟩:=(show yy P w H h a (.dT kvs) from Vz ok e)
 refine⟨z,y,xs,r,o,es,ep,h1,h2,h3,h4,λx hx=>?_,h5⟩
 have all:∀{l:List (List Key×V)}{m:List (List Key×Addr×Value)},KT H l m->∀x∈m,(tupleKind (yI P w)).is h x.1 x.2.1:=by
  intro l m q
  induction q with
  |nil=>intro x hx;exact nomatch hx
  |@cons p q ps qs hq t ih=>
   intro x hx
   rcases List.mem_cons.mp hx with e|hx
   .subst e
    exact uI ok (by rw[<- hq.1];exact hq.2.1)
   .exact ih x hx
 exact all r x hx
theorem zeO{kvs:List (List Key×V)}(ok:HOk P w H h)(e:H a=some (.dT kvs)):kvs.length<=sizeLine/\(a == sysModules)=false /\
  ∃xs,KT H kvs xs/\h.DictOfH (tupleKind (yI P w)) a xs:=v6 ok (.inl e)
end
def DGet(H:Hp)(a:Addr)(y:V)(r:Option V):Prop :=
 (∃kvs k,Rd H a (.dK kvs)/\y=kV k/\r=zX kvs k)∨∃kvs k b,Rd H a (.dT kvs)/\y=.ref b/\H b=some (.tup (k.map kV))/\r=zX kvs k
def DPut(H:Hp)(a:Addr)(y v:V)(H':Hp):Prop :=
 (∃kvs k,H a=some (.dK kvs)/\y=kV k/\kvs.length<sizeLine/\H'=upd H a (.dK (yp kvs k v))) ∨
 ∃kvs k b,H a=some (.dT kvs)/\y=.ref b/\H b=some (.tup (k.map kV))/\kvs.length<sizeLine/\H'=upd H a (.dT (yp kvs k v))
theorem DGet.k{H:Hp}{a:Addr}{kvs:List (Key×V)}{k:Key}(e:H a=some (.dK kvs)):DGet H a (kV k) (zX kvs k):=.inl ⟨kvs,k,.inl e,rfl,rfl⟩
theorem DGet.t{H:Hp}{a b:Addr}{kvs:List (List Key×V)}{k:List Key}(e:H a=some (.dT kvs))(eb:H b=some (.tup (k.map kV))):DGet H a (.ref b) (zX kvs k):=.inr ⟨kvs,k,b,.inl e,rfl,eb,rfl⟩
theorem DPut.k{H:Hp}{a:Addr}{kvs:List (Key×V)}{k:Key}{v:V}(e:H a=some (.dK kvs))(hl:kvs.length<sizeLine):DPut H a (kV k) v (upd H a (.dK (yp kvs k v))):=.inl ⟨kvs,k,e,rfl,hl,rfl⟩
section
variable{X:Cx}{pins:List (Addr×Obj)}{σ:St}{H:Hp}{s:Shared}{a:Addr}{y v:V}{u r:Value}{o:Option V}{A:Around}{E:Value->Shared->Prop}
theorem Inv.big(I:Inv X pins σ H s):sysModules<s.heap.objs.size:=by
 have h:mainGlobals<s.heap.objs.size:=(I.mod.glob.keeps I.bk).lt
 exact Nat.lt_trans (by decide) h
theorem ze7{Q:Value->Shared->Prop}(hu:A.units+1<cLine)(I:Inv X pins σ H s)(g:DGet H a y (some v))(ry:zr y u)(h:∀w' s',Inv X pins σ H s'->zr v w'->Q w' s') :
  wpAny (model X.prog X.w) A (getItem (.ref a) u) Q E s:=by
 rcases g with ⟨kvs,k,e,ey,l⟩|⟨kvs,k,b,e,ey,eb,l⟩
 .subst ey
  obtain⟨z,hd,vs,rel,dd⟩:=w9 I.hok e
  obtain⟨w',hw,rw'⟩:=yV.some_of (v:=v) (o:=valueAt vs k) (by rw[l];exact rel.val k)
  exact wpAny_getItem_of (wY ry) dd.mapOf hw (h w' _ (I.tok _) rw')
 .subst ey
  cases (show u=Value.ref b from ry)
  obtain⟨z,hd,xs,rel,dd⟩:=v6 I.hok e
  obtain⟨w',hw,rw'⟩:=yV.some_of (v:=v) (o:=(atKey xs k).map (·.2)) (by rw[l];exact rel.val k)
  obtain⟨p,hp,hp2⟩:=Option.map_eq_some_iff.mp hw
  refine wpAny_getItem_heap (tupleKind_room_in1 hu) (uI I.hok eb) dd hp ?_
  rw[hp2]
  exact h w' _ (I.tok _) rw'
theorem ze6{Q:Value->Shared->Prop}(hu:A.units+1<cLine)(I:Inv X pins σ H s)(g:DGet H a y o)(ry:zr y u)(h:∀s',Inv X pins σ H s'->Q (.bool o.isSome) s') :
  wpAny (model X.prog X.w) A (compareOp .In u (.ref a)) Q E s:=by
 rcases g with ⟨kvs,k,e,ey,l⟩|⟨kvs,k,b,e,ey,eb,l⟩
 .subst ey
  obtain⟨z,hd,vs,rel,dd⟩:=w9 I.hok e
  refine wpAny_in_of (wY ry) hd dd.mapOf ?_
  rw[<- (rel.val k).isSome_eq,<- l]
  exact h _ (I.tok _)
 .subst ey
  cases (show u=Value.ref b from ry)
  obtain⟨z,hd,xs,rel,dd⟩:=v6 I.hok e
  refine wpAny_in_heap (tupleKind_room_in1 hu) (uI I.hok eb) hd dd ?_
  have q:=(rel.val k).isSome_eq
  rw[Option.isSome_map] at q
  rw[<- q,<- l]
  exact h _ (I.tok _)
theorem ze4{Q:Value->Shared->Prop}(hu:A.units+1<cLine)(I:Inv X pins σ H s)(g:DGet H a y o)(ry:zr y u)(h:∀s',Inv X pins σ H s'->Q (.bool (!o.isSome)) s') :
  wpAny (model X.prog X.w) A (compareOp .NotIn u (.ref a)) Q E s:=by
 rcases g with ⟨kvs,k,e,ey,l⟩|⟨kvs,k,b,e,ey,eb,l⟩
 .subst ey
  obtain⟨z,hd,vs,rel,dd⟩:=w9 I.hok e
  refine wpAny_notIn_of (wY ry) hd dd.mapOf ?_
  rw[<- (rel.val k).isSome_eq,<- l]
  exact h _ (I.tok _)
 .subst ey
  cases (show u=Value.ref b from ry)
  obtain⟨z,hd,xs,rel,dd⟩:=v6 I.hok e
  refine wpAny_notIn_heap (tupleKind_room_in1 hu) (uI I.hok eb) hd dd ?_
  have q:=(rel.val k).isSome_eq
  rw[Option.isSome_map] at q
  rw[<- q,<- l]
  exact h _ (I.tok _)
theorem XN{h':Heap}{t':Nat}{ob:HO}(I:Inv X pins σ H s)(mu:Mut (H a))(hs:Heap.SameBut a s.heap h')(he:∃q,h'.get? a=some q)(new:yy X.prog X.w (upd H a ob) h' a ob) :
  Inv X pins σ (upd H a ob) { s with heap:=h',toks:=t' } :=
 I.write (x:=a) (e:=a) mu (.inl rfl) (λb q hb z=>(hs.2 b hb).trans z) he new
theorem XJ{P:Program}{w:World}{H':Hp}{h':Heap}{kvs:List (Key×V)}{vs:List (Key×Value)}(z:kvs.length<=sizeLine)(hd:(a == sysModules)=false)(rel:KV kvs vs)(dd:h'.DictOf (yI P w) a vs) :
  yy P w H' h' a (.dK kvs):=⟨z,hd,vs,rel,dd⟩
theorem ze3{H':Hp}{Q:Unit->Shared->Prop}(hu:A.units+1<cLine)(I:Inv X pins σ H s)(g:DPut H a y v H')(ry:zr y u)(rv:zr v r)(h:∀s',Inv X pins σ H' s'->Q () s') :
  wpAny (model X.prog X.w) A (setItem (.ref a) u r) Q E s:=by
 rcases g with ⟨kvs,k,e,ey,l,eH⟩|⟨kvs,k,b,e,ey,eb,l,eH⟩
 .subst ey eH
  obtain⟨z,hd,vs,rel,dd⟩:=Ql I.hok e
  have hz:vs.length<=sizeLine:=by rw[<- rel.length];exact z
  have hl:(yp kvs k v).length<=sizeLine:=by have:=kI kvs k v;omega
  refine wpAny_setItem_pairs (hsz:=hz) (wY ry) dd λh' dd' hs=>h _ ?_
  have he:∃q,h'.get? a=some q:=let ⟨q,_,_,hq,_⟩:=dd';⟨q,hq⟩
  exact XN I (by rw[e];exact True.intro) hs he (XJ hl hd (rel.put k rv) dd')
 .subst ey eH
  cases (show u=Value.ref b from ry)
  obtain⟨z,hd,xs,rel,dd⟩:=zeO I.hok e
  have hz:xs.length<=sizeLine:=by rw[<- Paired.length rel];exact z
  have hl:(yp kvs k v).length<=sizeLine:=by have:=kI kvs k v;omega
  refine wpAny_setItem_heap (hsz:=hz) (tupleKind_room_in1 hu) (uI I.hok eb) dd λh' dd' hs=>h _ ?_
  obtain⟨q,es,ep,hq,h2,h3,h4,_,h5⟩:=dd'
  refine XN I (by rw[e];exact True.intro) hs ⟨q,hq⟩ ⟨hl,hd,_,(rel.put k eb rv).keeps λc ys ec=>?_,q,es,ep,hq,h2,h3,h4,h5⟩
  rw[zh (xj ec e (λz=>nomatch z))]
  exact ec
end
section
variable{X:Cx}{pins:List (Addr×Obj)}{σ:St}{H:Hp}{s:Shared}{a:Addr}{kvs:List (Key×V)}{k:Key}{u:Value}{A:Around}{E:Value->Shared->Prop}
theorem ze5{Q:Value->Shared->Prop}(I:Inv X pins σ H s)(e:Rd H a (.dK kvs))(h:∀t s',Inv X pins σ H s'->Q (.int kvs.length t) s'):wpAny (model X.prog X.w) A (call (.builtin "len") [.ref a]) Q E s:=by
 obtain⟨z,hd,vs,rel,dd⟩:=w9 I.hok e
 refine call_len_dict hd dd (by rw[<- rel.length];rw[sizeLine_eq] at z;omega) ?_
 rw[<- rel.length]
 exact h _ _ (I.tok _)
end
def X4(i:Expr):Prop:=∀ov iv,subscripted i false ov iv=operate [ov,iv] (getItem ov iv)
theorem Wv{prog:Program}{w:World}{A:Around}{E:Value->Shared->Prop}{s:Shared}{env:Env}{value slice:Expr}{pos:Pos}{T id:String}{Q:Value->Shared->Prop}
  (hl:typeLookup (.type T) "__getitem__"=pure (some (.builtin id))) (hs:X4 slice)
  (h:wpAny (model prog w) A (eval value env) (λo s₁=>wpAny (model prog w) A (eval slice env) (λi s₂=>s₂.TypeIs o T/\wpAny (model prog w) A (getItem o i) Q E s₂) E s₁) E s) :
  wpAny (model prog w) A (eval (.Subscript value slice pos) env) Q E s:=by
 refine Subscript_ (wpAny_mono h (λo s₁ h₁=>wpAny_mono h₁ (λi s₂ h₂=>?_) λ_ _ x=>x) λ_ _ x=>x)
 obtain⟨hT,h₂⟩:=h₂
 unfold subscriptTail
 refine wpAny_bind ?_
 rw[getitemInPython_of_ne hT.not_modules]
 refine wpAny_bind (wpAny_specialOf hT hl ?_)
 have fin:wpAny (model prog w) A (subscripted slice false o i) (λr s₃=>wpAny (model prog w) A (letTemporaryGo value o r >>= λ_=>pure r) Q E s₃) E s₂:=by
  rw[hs o i]
  exact wpAny_operating (wpAny_mono h₂ (λr s₃ h₃=>wpAny_bind (wpAny_letTemporaryGo (wpAny_pure h₃))) λ_ _ x=>x)
 first
  |exact wpAny_pure (wpAny_bind fin)
  |exact wpAny_bind (wpAny_pure (wpAny_bind fin))
  |exact wpAny_bind fin
theorem ze2{X:Cx}{pins:List (Addr×Obj)}{σ:St}{H:Hp}{s:Shared}{a:Addr}{y:V}{o:Option V}(I:Inv X pins σ H s)(g:DGet H a y o):s.TypeIs (.ref a) "dict":=by
 rcases g with ⟨kvs,k,e,_,_⟩|⟨kvs,k,b,e,_,_,_⟩
 .obtain⟨_,_,vs,_,dd⟩:=w9 I.hok e
  exact dd.typeIs
 .obtain⟨_,_,xs,_,dd⟩:=v6 I.hok e
  exact dd.typeIs
def yB(td ty:TE):TE:=fun σ H Q=>td σ H λx H1=>ty σ H1 λy H2=>∃a v,x=.ref a/\DGet H2 a y (some v)/\Q v H2
def ZD(ty td:TE):TE:=fun σ H Q=>ty σ H λy H1=>td σ H1 λx H2=>∃a o,x=.ref a/\DGet H2 a y o/\Q (.bl o.isSome) H2
def j6(ty td:TE):TE:=fun σ H Q=>ty σ H λy H1=>td σ H1 λx H2=>∃a o,x=.ref a/\DGet H2 a y o/\Q (.bl (!o.isSome)) H2
def um(td ty tv:TE):TS:=λD σ H=>tv σ H λv H1=>td σ H1 λx H2=>ty σ H2 λy H3=>∃a H4,x=.ref a/\DPut H3 a y v H4/\D.nx σ H4
section
variable{X:Cx}{o i e value:Expr}{pos pos' tpos:Pos}{td ty tv:TE}
theorem y3(hu:X.A.units+1<cLine)(ho:PE X o td)(hi:PE X i ty)(hs:X4 i):PE X (.Subscript o i pos) (yB td ty):=by
 intro pins s σ H Q I h
 refine Wv PySem.F.slot_dict_getitem.lookup hs (thn (ho pins s σ H _ I h) λu s1 ⟨x,H1,I1,rx,q1⟩=>thn (hi pins s1 σ H1 _ I1 q1) λiv s2 ⟨y,H2,I2,ry,a,v,ex,g,q2⟩=>?_)
 subst ex
 obtain rfl:u=Value.ref a:=rx
 exact⟨ze2 I2 g,ze7 hu I2 g ry λw' s3 I3 rw'=>⟨v,H2,I3,rw',q2⟩⟩
theorem VR(hu:X.A.units+1<cLine)(hi:PE X i ty)(ho:PE X o td):PC X .In i o (ZD ty td):=by
 intro pins s σ H Q I h
 refine thn (hi pins s σ H _ I h) λiv s1 ⟨y,H1,I1,ry,q1⟩=>thn (ho pins s1 σ H1 _ I1 q1) λu s2 ⟨x,H2,I2,rx,a,ov,ex,g,q2⟩=>?_
 subst ex
 obtain rfl:u=Value.ref a:=rx
 exact ze6 hu I2 g ry λs3 I3=>⟨.bl ov.isSome,H2,I3,rfl,q2⟩
theorem YW(hu:X.A.units+1<cLine)(hi:PE X i ty)(ho:PE X o td):PC X .NotIn i o (j6 ty td):=by
 intro pins s σ H Q I h
 refine thn (hi pins s σ H _ I h) λiv s1 ⟨y,H1,I1,ry,q1⟩=>thn (ho pins s1 σ H1 _ I1 q1) λu s2 ⟨x,H2,I2,rx,a,ov,ex,g,q2⟩=>?_
 subst ex
 obtain rfl:u=Value.ref a:=rx
 exact ze4 hu I2 g ry λs3 I3=>⟨.bl (!ov.isSome),H2,I3,rfl,q2⟩
theorem jm(hu:X.A.units+1<cLine)(ho:PE X o td)(hi:PE X i ty)(hv:PE X value tv)(hs:swapsWith value (some (.Subscript o i pos')) pos.line X.env=pure false) :
  PS X (.Assign [.Subscript o i pos'] value pos) (um td ty tv):=by
 intro pins s σ H D I h
 refine wpAny_Assign_Subscript (thn (hv pins s σ H _ I h) λr s1 ⟨v,H1,I1,rv,q1⟩=>thn (ho pins s1 σ H1 _ I1 q1) λu s2 ⟨x,H2,I2,rx,q2⟩=>thn (hi pins s2 σ H2 _ I2 q2) λiv s3 ⟨y,H3,I3,ry,a,H4,ex,g,q3⟩=>?_) hs
 subst ex
 obtain rfl:u=Value.ref a:=rx
 exact ze3 hu I3 g ry rv λs4 I4=>⟨σ,H4,I4,q3⟩
end
theorem Qm{P:Program}{w:World}{H:Hp}(h:Heap)(hb:sysModules<h.objs.size):yy P w H (h.push { cls:=.type "dict",data:=.dict #[] }) h.objs.size (.dK []) :=
 ⟨Nat.zero_le _,beq_eq_false_iff_ne.mpr (Ne.symm (Nat.ne_of_lt hb)),[],.nil,Heap.DictOf.new h⟩
def ZC:TE:=λ_ H Q=>∀p,H p=none->Q (.ref p) (upd H p (.dK []))
section
variable{X:Cx}{pos:Pos}
theorem VP:PE X (.Dict [] [] pos) ZC:=λpins s σ H Q I h=>
 wpAny_Dict_empty ⟨.ref s.heap.objs.size,_,I.laid (a:=s.heap.objs.size) (o:=.dK []) (t':=s.toks) (λ_ _ q=>Heap.get?_push_of_some _ q) (Nat.le_refl _) (Qm s.heap I.big),rfl,h _ (I.hok.fresh (Nat.le_refl _))⟩
end
def Zy:List (TE×TE)->St->Hp->(List (V×V)->Hp->Prop)->Prop
 |[],_,H,Q=>Q [] H
 |(tk,tv)::r,σ,H,Q=>tk σ H λx H1=>tv σ H1 λy H2=>Zy r σ H2 λps H3=>Q ((x,y)::ps) H3
abbrev VV:List (V×V)->List (Value×Value)->Prop:=Paired λp q=>zr p.1 q.1/\zr p.2 q.2
def PPs(X:Cx)(pos:Pos)(keys:List (Option Expr))(values:List Expr)(trs:List (TE×TE)):Prop :=
 ∀(pins:List (Addr×Obj)) (s:Shared) (σ:St) (H:Hp) (Q:List (V×V)->Hp->Prop),Inv X pins σ H s->Zy trs σ H Q ->
  wpAny (model X.prog X.w) X.A (evalPairs (pairTrees keys values X.env pos)) (λvs s'=>∃ps H',Inv X pins σ H' s'/\VV ps vs/\Q ps H') X.xe s
theorem YL{X:Cx}{pos:Pos}:PPs X pos [] [] []:=λpins s σ H Q I h=>pairTrees_nil_walk ⟨[],H,I,.nil,h⟩
theorem YM{X:Cx}{pos:Pos}{k v:Expr}{ks:List (Option Expr)}{vs:List Expr}{tk tv:TE}{trs:List (TE×TE)}(hk:PE X k tk)(hv:PE X v tv)(hr:PPs X pos ks vs trs) :
  PPs X pos (some k::ks) (v::vs) ((tk,tv)::trs):=λpins s σ H Q I h=>
 pairTrees_cons_walk (thn (hk pins s σ H _ I h) λu s1 ⟨x,H1,I1,rx,q1⟩=>thn (hv pins s1 σ H1 _ I1 q1) λw2 s2 ⟨y,H2,I2,ry,q2⟩=>
  thn (hr pins s2 σ H2 _ I2 q2) λws s3 ⟨ps,H3,I3,rel,q3⟩=>⟨(x,y)::ps,H3,I3,.cons ⟨rx,ry⟩ rel,q3⟩)
def uA(kvs more:List (Key×V)):List (Key×V):=more.foldl (λacc kv=>yp acc kv.1 kv.2) kvs
theorem KV.merge:∀{more:List (Key×V)}{rs:List (Key×Value)}{kvs:List (Key×V)}{vs:List (Key×Value)},KV more rs->KV kvs vs->KV (uA kvs more) (merged vs rs):=by
 intro more rs kvs vs r
 unfold KV at r
 induction r generalizing kvs vs with
 |nil=>intro q;exact q
 |@cons p q ps qs h t ih=>
  intro r0
  have e:KV (yp kvs p.1 p.2) (stored vs q.1 q.2):=by
   have:=r0.put p.1 h.2
   rw[<- h.1];exact this
  exact ih e
theorem JA:∀(more kvs:List (Key×V)),(uA kvs more).length<=kvs.length+more.length
 |[],kvs=>by show kvs.length<=kvs.length+0;omega
 |p::r,kvs=>by
  have h1:=JA r (yp kvs p.1 p.2)
  have h2:=kI kvs p.1 p.2
  show(uA (yp kvs p.1 p.2) r).length<=_
  rw[List.length_cons];omega
theorem QC{P:Program}{w:World}:∀{kvs:List (Key×V)}{ws:List (Value×Value)},VV (kvs.map λkv=>(kV kv.1,kv.2)) ws->∃rs,Carries (yI P w) ws rs/\KV kvs rs
 |[],_,r=>by rw[List.map_nil] at r;cases r;exact⟨[],True.intro,.nil⟩
 |p::kvs,_,r=>by
  rw[List.map_cons] at r
  cases r with
  |@cons a b as bs h t=>
   obtain⟨rs,c,q⟩:=QC (P:=P) (w:=w) t
   obtain⟨b1,b2⟩:=b
   exact⟨(p.1,b2)::rs,⟨wY h.1,rfl,c⟩,.cons ⟨rfl,h.2⟩ q⟩
def j5(trs:List (TE×TE)):TE:=fun σ H Q=>∀p,H p=none->Zy trs σ (upd H p (.dK [])) λps H2=>H2 p=some (.dK [])/\∃kvs:List (Key×V),ps=kvs.map (λkv=>(kV kv.1,kv.2))/\kvs.length<=15/\Q (.ref p) (upd H2 p (.dK (uA [] kvs)))
theorem YU{X:Cx}{pos:Pos}{keys:List (Option Expr)}{values:List Expr}{trs:List (TE×TE)}(h:PPs X pos keys values trs)(hall:keys.all (·.isSome)=true)(hl:keys.length=values.length)(h0:keys≠[])
  (h15:keys.length<=15):PE X (.Dict keys values pos) (j5 trs):=by
 intro pins s σ H Q I q
 have hn:=I.hok.fresh (Nat.le_refl s.heap.objs.size)
 have I1:=I.laid (a:=s.heap.objs.size) (o:=.dK []) (h':=s.heap.push { cls:=.type "dict",data:=.dict #[] }) (t':=s.toks) (λ_ _ q=>Heap.get?_push_of_some _ q) (Nat.le_refl _) (Qm s.heap I.big)
 refine wpAny_Dict_walk (knd:=yI X.prog X.w) hall hl h0 h15 (thn (h pins _ σ _ _ I1 (q _ hn)) λws s2 ⟨ps,H2,I2,rel,e,kvs,ep,lk,q2⟩=>?_)
 subst ep
 obtain⟨rs,c,rk⟩:=QC (P:=X.prog) (w:=X.w) rel
 obtain⟨z,hd,vs0,r0,dd⟩:=Ql I2.hok e
 cases r0
 refine⟨rs,c,dd,λh' dd' hs=>⟨.ref s.heap.objs.size,_,?_,rfl,q2⟩⟩
 have hz:(uA [] kvs).length<=sizeLine:=by
  have h1:=JA kvs []
  rw[List.length_nil] at h1
  rw[sizeLine_eq];omega
 have he:∃q,h'.get? s.heap.objs.size=some q:=let ⟨q,_,_,hq,_⟩:=dd';⟨q,hq⟩
 exact XN I2 (by rw[e];exact True.intro) hs he (XJ hz hd (rk.merge .nil) dd')
structure M2(X:Cx)(o:Expr)(m:Str)(apos:Pos)(e f:Expr)(cpos:Pos):Prop where
 base:attributeBase o m X.env (eval o X.env)=eval o X.env
 few:((backTo cpos (starEach [e,f] X.env)).all (λx=>!x.1) && (backToKw cpos (keywordEach [] X.env)).all (λx=>x.1.isSome)
  && decide (([e,f]:List Expr).length+([]:List Keyword).length+(if ([]:List Keyword).isEmpty then 0 else 1)<30))=true
 line:(apos.endLine == cpos.line)=true
 trees:backTo cpos (starEach [e,f] X.env)=[(false,eval e X.env),(false,eval f X.env)]
def IsD(H:Hp)(a:Addr):Prop:=(∃kvs,Rd H a (.dK kvs))∨∃kvs,Rd H a (.dT kvs)
theorem zen{X:Cx}{pins:List (Addr×Obj)}{σ:St}{H:Hp}{s:Shared}{a:Addr}(I:Inv X pins σ H s)(d:IsD H a) :
  s.TypeIs (.ref a) "dict"/\(∀b,Value.ref a=.ref b->∃ob,s.heap.get? b=some ob/\ob.dict=none)/\(a == sysModules)=false:=by
 rcases d with ⟨kvs,e⟩|⟨kvs,e⟩
 .obtain⟨_,hd,vs,_,dd⟩:=w9 I.hok e
  refine⟨dd.typeIs,λb q=>?_,hd⟩
  cases q
  obtain⟨ob,_,_,h1,h2,_⟩:=dd
  exact⟨ob,h1,h2.2.1⟩
 .obtain⟨_,hd,xs,_,dd⟩:=v6 I.hok e
  refine⟨dd.typeIs,λb q=>?_,hd⟩
  cases q
  obtain⟨ob,_,_,h1,h2,_⟩:=dd
  exact⟨ob,h1,h2.2.1⟩
section
variable{X:Cx}{pins:List (Addr×Obj)}{σ:St}{H:Hp}{s:Shared}{a:Addr}{y d:V}{u r:Value}{o:Option V}{A:Around}{E:Value->Shared->Prop}
theorem ze8{Q:Value->Shared->Prop}(hu:A.units+1<cLine)(I:Inv X pins σ H s)(g:DGet H a y o)(ry:zr y u)(rd:zr d r)(h:∀w' s',Inv X pins σ H s'->zr (o.getD d) w'->Q w' s') :
  wpAny (model X.prog X.w) A (call (.builtin "dict.get") [.ref a,u,r]) Q E s:=by
 rcases g with ⟨kvs,k,e,ey,l⟩|⟨kvs,k,b,e,ey,eb,l⟩
 .subst ey
  obtain⟨z,hd,vs,rel,dd⟩:=w9 I.hok e
  refine call_meetsIn PySem.F.slot_dict_get dd.typeIs PySem.F.entry_dict_get (PySem.F.args_dict_get_3 _ _ _) (meets_dict_get_default (yI X.prog X.w) a (wY ry) hd r) ⟨_,dd.mapOf,h _ _ (I.tok _) ?_⟩
  rw[l]
  exact(rel.val k).getD rd
 .subst ey
  cases (show u=Value.ref b from ry)
  obtain⟨z,hd,xs,rel,dd⟩:=v6 I.hok e
  refine call_meetsIn PySem.F.slot_dict_get dd.typeIs PySem.F.entry_dict_get (PySem.F.args_dict_get_3 _ _ _) (meetsH_dict_get_default (tupleKind (yI X.prog X.w)) a b hd r) ⟨tupleKind_room_in1 hu,k,xs,uI I.hok eb,dd,h _ _ (I.tok _) ?_⟩
  rw[l]
  exact(rel.val k).getD rd
end
def Wl(td ty tx:TE):TE:=fun σ H Q=>td σ H λx H1=>∃a,x=.ref a/\IsD H1 a/\ty σ H1 λy H2=>tx σ H2 λz H3=>∃o,DGet H3 a y o/\Q (o.getD z) H3
section
variable{X:Cx}{o e f:Expr}{apos cpos:Pos}{td ty tx:TE}
theorem zcH(hu:X.A.units+1<cLine)(ho:PE X o td)(he:PE X e ty)(hf:PE X f tx)(m:M2 X o "get" apos e f cpos):PE X (.Call (.Attribute o "get" apos) [e,f] [] cpos) (Wl td ty tx):=by
 intro pins s σ H Q I h
 refine wpAny_Call_method m.base m.few m.line PySem.F.plainAttrs_dict PySem.F.slot_dict_get PySem.F.type_dict_get (thn (ho pins s σ H _ I h) λu s1 ⟨x,H1,I1,rx,a,ex,d,q1⟩=>?_)
 subst ex
 obtain rfl:u=Value.ref a:=rx
 obtain⟨t1,t2,_⟩:=zen I1 d
 refine⟨t1,t2,?_⟩
 rw[m.trees]
 refine Calls.callWith_builtin rfl (Calls.evalArgs_plain (Calls.spliced_cons (thn (he pins s1 σ H1 _ I1 q1) λiv s2 ⟨y,H2,I2,ry,q2⟩=>
  Calls.spliced_cons (thn (hf pins s2 σ H2 _ I2 q2) λfv s3 ⟨z,H3,I3,rz,ov,g,q3⟩=>Calls.spliced_nil ?_))))
 exact ze8 hu I3 g ry rz λw' s4 I4 rw'=>⟨_,H3,I4,rw',q3⟩
end
section
variable{X:Cx}{pins:List (Addr×Obj)}{σ:St}{H:Hp}{s:Shared}{a:Addr}{kvs:List (Key×V)}{A:Around}{E:Value->Shared->Prop}
theorem ze9{Q:Value->Shared->Prop}(I:Inv X pins σ H s)(e:Rd H a (.dK kvs))(h:∀p s',H p=none->Inv X pins σ (upd H p (.dK kvs)) s'->Q (.ref p) s'):wpAny (model X.prog X.w) A (call (.type "dict") [.ref a]) Q E s:=by
 obtain⟨z,hd,vs,rel,dd⟩:=w9 I.hok e
 refine kt_call_dict hd dd (by rw[<- rel.length];exact z) λh' dd' hs=>?_
 refine h _ _ (I.hok.fresh (Nat.le_refl _)) (I.laid (a:=s.heap.objs.size) (o:=.dK kvs) (t':=s.toks) (λb q hq=>?_) (Nat.le_refl _) (XJ z (beq_eq_false_iff_ne.mpr (Ne.symm (Nat.ne_of_lt I.big))) rel dd'))
 exact(hs.2 b (Nat.ne_of_lt (Heap.lt_size hq))).trans (Heap.get?_push_of_some _ hq)
end
section
variable{X:Cx}{pins:List (Addr×Obj)}{σ:St}{H:Hp}{s:Shared}{a:Addr}{y:V}{u:Value}{A:Around}{E:Value->Shared->Prop}
end
end L2
namespace L2
open PySem PySem.Spec PyProof.Rows
section
variable{prog:Program}{w:World}{A:Around}{E:Value->Shared->Prop}
end
section
variable{X:Cx}
end
end L2
namespace L2
open PySem PySem.Spec PyProof.Rows
section
variable{X:Cx}{pins:List (Addr×Obj)}{σ:St}{H:Hp}{s:Shared}{h':Heap}
theorem Inv.turnedNew{t':Nat}{ch:List Addr}{T:Addr}{ob:HO}(I:Inv X pins σ H s)(k:∀b o,b∉ch->s.heap.get? b=some o->h'.get? b=some o)(hf:∀b∈ch,wz X pins H b)(hT:s.heap.objs.size<=T)
  (new:yy X.prog X.w (upd H T ob) h' T ob):Inv X pins σ (upd H T ob) { s with heap:=h',toks:=t' }:=by
 have hn:H T=none:=I.hok.fresh hT
 have nit:∀b u,H b=some u->b∉ch:=λb u e z=>by
  have q:=(hf b z).1
  rw[q] at e;cases e
 refine I.step (g':=s.gens) (d':=s.drawn) (ch:=ch) (λb hb=>⟨(hf b hb).2.2.2.1,(hf b hb).2.1,(hf b hb).2.2.2.2.1,(hf b hb).2.2.2.2.2⟩) (λb o _ _ hc e _=>k b o hc e) (λb o _ _ hc e _=>⟨o.slots,k b o hc e⟩)
  (λb o _ e n=>?_) (λb o hc e=>⟨o,k b o hc e⟩) (λb xs e=>?_) (λb o u e=>?_) (λb ps e=>⟨#[],?_⟩) (λm hm=>?_) (λb u e=>?_) I.bare
 .rw[zh (Nat.ne_of_lt (Nat.lt_of_lt_of_le (Heap.lt_size e) hT))];exact n
 .rw[zh (zw e hn)];exact e
 .rw[zh (zw e hn)];exact e
 .rw[zh (zw e hn),e];simp
 .obtain⟨o,es,ep,ho,r⟩:=hm
  exact⟨o,es,ep,k _ o (λz=>(hf _ z).2.1 rfl) ho,r⟩
 .by_cases hb:b=T
  .subst hb
   rw[zj] at e
   cases e
   exact new
  .rw[zh hb] at e
   refine(I.hok b u e).stay (λc v hc q=>k c v ?_ q) (λc q=>by rw[zh (zw q hn)];exact q) λc xs q=>by rw[zh (zw q hn)];exact q
   rcases hc with z|z
   .rw[z];exact nit b u e
   .exact nit c _ z
theorem Inv.lock{d:Addr}{u:HO}(I:Inv X pins σ H s)(h:H d=some u)(mu:Mut (some u)):∃od,Inv X pins σ (upd H d (.frz od u)) s:=by
 have x:=I.hok d u h
 have ex:∃od,s.heap.get? d=some od:=by
  cases u with
  |lst xs=>obtain⟨_,_,_,_,e⟩:=x;exact⟨_,e⟩
  |dK kvs=>obtain⟨_,_,_,_,o,_,_,e,_⟩:=x;exact⟨o,e⟩
  |dT kvs=>obtain⟨_,_,_,_,o,_,_,e,_⟩:=x;exact⟨o,e⟩
  |set S n=>obtain⟨o,_,_,_,e,_⟩:=x;exact⟨o,e⟩
  |ins C dx fs=>obtain⟨_,_,_,e,_⟩:=x;exact⟨_,e⟩
  |ext φ=>obtain⟨_,⟨_,e⟩,_⟩:=x;exact⟨_,e⟩
  |_=>exact False.elim mu
 obtain⟨od,e⟩:=ex
 have new:yy X.prog X.w (upd H d (.frz od u)) s.heap d (.frz od u):=by
  refine⟨e,x.stay (λb v _ q=>q) (λb q=>?_) λb xs q=>?_⟩
  .rw[zh (λz=>by rw[z,h] at q;cases q;exact mu)];exact q
  .rw[zh (λz=>by rw[z,h] at q;cases q;exact mu)];exact q
 exact⟨od,I.write (x:=d) (e:=d) (t':=s.toks) (h':=s.heap) (by rw[h];exact mu) (.inl rfl) (λb v _ q=>q) ⟨od,e⟩ new⟩
theorem Inv.nofrz{d:Addr}{u:HO}(I:Inv X pins σ H s)(h:H d=some u)(mu:Mut (some u)):∀o' u',X.H_0 d≠some (.frz o' u'):=λo' u' e=>by
 have q:=I.base.frzs d o' u' e
 rw[h] at q
 cases q
 exact mu
theorem Inv.unlock{d:Addr}{od:Obj}{u:HO}(I:Inv X pins σ H s)(h:H d=some (.frz od u))(hn:∀o' u',X.H_0 d≠some (.frz o' u')):Inv X pins σ (upd H d u) s:=by
 have neH:∀b o,H b=some o->(∀o' u',o≠.frz o' u')->b≠d:=λb o e hne z=>by
  rw[z,h] at e
  cases e
  exact hne _ _ rfl
 have neN:∀b,H b=none->b≠d:=λb e z=>by rw[z,h] at e;cases e
 refine⟨I.ok,I.os,I.bare,⟨I.base.keep,I.base.slot,λb o e n hx=>?_,I.base.there,λb xs e=>?_,λb o x e=>?_,λb ps e=>?_⟩,I.loc,I.cell,?_,λx c e=>?_,λp hp=>?_,λb o e=>?_,I.len⟩
 .rw[zh (neN b (I.base.free b o e n hx))];exact I.base.free b o e n hx
 .have q:=I.base.tups b xs e
  rw[zh (neH b _ q (λ_ _ z=>nomatch z))];exact q
 .have q:=I.base.frzs b o x e
  rw[zh (λz=>by rw[z] at e;exact hn _ _ e)];exact q
 .obtain⟨m,q⟩:=I.base.tbls b ps e
  exact⟨m,by rw[zh (neH b _ q (λ_ _ z=>nomatch z))];exact q⟩
 .rw[zh (neN _ I.free)];exact I.free
 .rw[zh (neN c (I.freeC x c e))];exact I.freeC x c e
 .obtain⟨e,n,r⟩:=I.pin p hp
  exact⟨e,by rw[zh (neN _ n)];exact n,r⟩
 .by_cases hb:b=d
  .rw[hb,zj] at e
   cases e
   rw[hb]
   obtain⟨_,x⟩:=I.hok d _ h
   exact x.stay (λc v _ q=>q) (λc q=>by rw[zh (neH c _ q (λ_ _ z=>nomatch z))];exact q) λc xs q=>by rw[zh (neH c _ q (λ_ _ z=>nomatch z))];exact q
  .rw[zh hb] at e
   exact(I.hok b o e).stay (λc v _ q=>q) (λc q=>by rw[zh (neH c _ q (λ_ _ z=>nomatch z))];exact q) λc xs q=>by rw[zh (neH c _ q (λ_ _ z=>nomatch z))];exact q
end
def jb(t:TS):TS:=λD σ H=>∃d u,H d=some u/\Mut (some u)/\∀od,t ⟨fun σ' H'=>H' d=some (.frz od u)/\D.nx σ' (upd H' d u),λv H'=>H' d=some (.frz od u)/\D.rt v (upd H' d u),fun σ' H'=>H' d=some (.frz od u)/\D.bk σ' (upd H' d u),fun σ' H'=>H' d=some (.frz od u)/\D.ct σ' (upd H' d u)⟩ σ (upd H d (.frz od u))
def Zz(t:TE):TE:=fun σ H Q=>∃d u,H d=some u/\Mut (some u)/\∀od,t σ (upd H d (.frz od u)) λv H'=>H' d=some (.frz od u)/\Q v (upd H' d u)
section
variable{X:Cx}
theorem kj{st:Stmt}{t:TS}(h:PS X st t):PS X st (jb t):=by
 intro pins s σ H D I hw
 obtain⟨d,u,hd,mu,hw⟩:=hw
 obtain⟨od,I1⟩:=I.lock hd mu
 refine thn (h pins s σ _ _ I1 (hw od)) λf s1 q=>?_
 cases f with
 |next=>obtain⟨σ',H',I2,e,q⟩:=q;exact⟨σ',_,I2.unlock e (I.nofrz hd mu),q⟩
 |brk=>obtain⟨σ',H',I2,e,q⟩:=q;exact⟨σ',_,I2.unlock e (I.nofrz hd mu),q⟩
 |cont=>obtain⟨σ',H',I2,e,q⟩:=q;exact⟨σ',_,I2.unlock e (I.nofrz hd mu),q⟩
 |ret v=>obtain⟨x,σ',H',I2,r,e,q⟩:=q;exact⟨x,σ',_,I2.unlock e (I.nofrz hd mu),r,q⟩
theorem zcG{e:Expr}{t:TE}(h:PE X e t):PE X e (Zz t):=by
 intro pins s σ H Q I hw
 obtain⟨d,u,hd,mu,hw⟩:=hw
 obtain⟨od,I1⟩:=I.lock hd mu
 refine thn (h pins s σ _ _ I1 (hw od)) λv s1 ⟨x,H1,I2,r,e2,q⟩=>?_
 exact⟨x,_,I2.unlock e2 (I.nofrz hd mu),r,q⟩
theorem YN{tg:Expr}{pins:List (Addr×Obj)}{σ:St}{H:Hp}{s:Shared}{R:It->Hp->Prop}{J:It}{tn:Nat->Heap->Prop}{tk:Nat}(I:Inv X pins σ H s)(o:Obj)
  (T:Turn X.prog X.w X.K tg J [s.heap.objs.size] s.heap.objs.size tn) (st:tn 0 (s.heap.push o)) (q:R J H):PIE X pins σ tg R (.ref s.heap.objs.size) { s with heap:=s.heap.push o,toks:=tk }:=by
 refine⟨s.heap.objs.size,[s.heap.objs.size],tn,J,H,rfl,I.kept λb ob e=>Heap.get?_push_of_some _ e,T,st,λb hb=>?_,q⟩
 have e:b=s.heap.objs.size:=by simpa using hb
 subst e
 exact I.fpOk (Nat.le_refl _) (I.hok.fresh (Nat.le_refl _))
end
def Itc(lo c:Int)(n:Nat):It:=⟨λi _=>i<n,λi H x H'=>H'=H/\x=.int (lo+(i:Nat)*c),λi _=>n<=i⟩
theorem zai{P:Program}{w:World}{K:PySem.W.Frag}{tg:Expr}(it:Addr)(lo c:Int)(n:Nat):Turn P w K tg (Itc lo c n) [it] it (λi h=>IsRangeIter h it (lo+(i:Nat)*c) ((n:Int)-(i:Nat)) c) where
 mem:=by simp
 obj:=λi h st b hb=>by
  have e:b=it:=by simpa using hb
  subst e
  exact⟨_,st,λv z=>nomatch z⟩
 keep:=λi h h' st k=>k it (by simp) _ st
 item:=by
  intro X hP hw hK hc i pins s σ H E I hf st hg
  subst hP hw hK
  obtain⟨f0,f1,f2,f3,f4,f5⟩:=hf it (by simp)
  have W:=Walks.range (prog:=X.prog) (w:=X.w) (I.ok.hd hc) it lo c n
  refine W.item i s _ _ hg st λv h' tk hv st' kk=>?_
  obtain⟨t,rfl⟩:=hv
  have I1:Inv X pins σ H { s with heap:=h',toks:=tk }:=I.turned (λb o hb e=>kk b o (by simpa using hb) e) f0 f1 f3 f4 f5
  exact⟨_,rfl,jH (s:={ s with heap:=h',toks:=tk }) (n:="range_iterator") st' rfl rfl (by decide) ⟨.int (lo+(i:Nat)*c),H,I1,⟨t,rfl⟩,⟨rfl,rfl⟩,st',λb hb=>(hf b hb).1⟩⟩
 done:=by
  intro X hP hw hK hc i pins s σ H E I hf st hg
  subst hP hw hK
  obtain⟨f0,f1,f2,f3,f4,f5⟩:=hf it (by simp)
  exact wpAny_pyNext_range_end (I.ok.hd hc) st (by have:n<=i:=hg;omega) λh' eb=>⟨rfl,I.turned (t':=s.toks) (λb o hb e=>eb b o hb e) f0 f1 f3 f4 f5⟩
 self:=λA i s Q E st h=>wpAny_pyIter_rangeiter st h
def RgC(i j c:Int)(n:Nat):Prop:=c≠0/\c.natAbs<1073741824/\Builtin.Range.small i j c=true/\Builtin.Range.rangeSize i j c=n
def J4(ta:TA):TI:=fun σ H R=>ta σ H λvs H1=>∃(i j c:Int)(n:Nat),vs=[.int i,.int j,.int c]/\RgC i j c n/\R (Itc i c n) H1
section
variable{X:Cx}{tg:Expr}
theorem zcF{a b c:Expr}{ta:TA}{p pos:Pos}(hg:Gl X "range")(hm:X.mg "range"=none)(ha:PA X [a,b,c] ta)
  (hs:starEach [a,b,c] X.env=(false,eval a X.env)::starEach [b,c] X.env:=by rfl) (hpl:(backTo pos (starEach [b,c] X.env)).any (·.1)=false:=by rfl) :
  PI X tg (.Call (.Name "range" p) [a,b,c] [] pos) (J4 ta):=by
 intro pins s σ H R I h
 refine Call_ (jB I hg hm boot_range (PyProof.Rows.callWith_type1 (thn (ha pos pins s σ H _ I h) λus s1 ⟨vs,H1,I1,r1,q1⟩=>?_) hs hpl))
 obtain⟨i,j,k,n,e,⟨c0,c1,c2,c3⟩,q⟩:=q1
 subst e
 cases r1 with
 |cons r rr=>
  cases rr with
  |cons r' rr=>
   cases rr with
   |cons r'' rr=>
    cases rr
    obtain⟨t,rfl⟩:=r
    obtain⟨t',rfl⟩:=r'
    obtain⟨t'',rfl⟩:=r''
    refine call_range_3 c0 ?_ (.inl (PyProof.noPylong_small c1))
    refine wpAny_pyIter_range (IsRange.new ..) c2 ?_
    have I2:Inv X pins σ H1 { s1 with heap:=s1.heap.push { cls:=.type "range",data:=.fields #[.int i t,.int j t',.int k t''] } }:=I1.kept (t':=s1.toks) λb o e=>Heap.get?_push_of_some _ e
    refine YN (tk:=s1.toks) I2 _ (zai _ i k n) ?_ q
    have e1:i+((0:Nat):Int)*k=i:=by simp
    have e2:(n:Int)-((0:Nat):Int)=Builtin.Range.rangeSize i j k:=by rw[c3];simp
    show IsRangeIter _ _ (i+((0:Nat):Int)*k) ((n:Int)-((0:Nat):Int)) k
    rw[e1,e2]
    exact Heap.get?_push_size _ rfl
end
theorem zeE{lo c:Int}{n:Nat}{g:TG}{tb:TS}{D:Ends}{σ:St}{H:Hp}(Pv:Nat->St->Hp->Prop)(h0:Pv 0 σ H)
  (hs:∀i σ H,i<n->Pv i σ H->g (.int (lo+(i:Nat)*c)) σ H fun σ2 H2=>tb { D with nx:=Pv (i+1),ct:=Pv (i+1),bk:=D.nx } σ2 H2) (hd:∀σ H,Pv n σ H->D.nx σ H) :
  ∃W:Nat->Nat->St->Hp->Prop,(∃m,W 0 m σ H)/\∀i m σ H,W i m σ H ->
   ((Itc lo c n).stop i H/\D.nx σ H)∨((Itc lo c n).go i H/\∃N:St->Hp->Prop,(∀σ' H',N σ' H'->∃m',m'<m/\W (i+1) m' σ' H')/\∀x H',(Itc lo c n).yld i H x H'->g x σ H' fun σ2 H2=>tb { D with nx:=N,ct:=N,bk:=D.nx } σ2 H2):=by
 refine⟨λi m σ H=>m=n-i/\i<=n/\Pv i σ H,⟨n,by simp,Nat.zero_le _,h0⟩,?_⟩
 rintro i m σ H ⟨rfl,hi,p⟩
 by_cases hlt:i<n
 .refine .inr ⟨hlt,Pv (i+1),fun σ' H' p'=>⟨n-(i+1),by omega,rfl,hlt,p'⟩,λx H' y=>?_⟩
  obtain⟨e,y⟩:=y
  subst e y
  exact hs i σ _ hlt p
 .have e:i=n:=by omega
  subst e
  exact .inl ⟨Nat.le_refl _,hd σ H p⟩
section
variable{X:Cx}{tg:Expr}
end
section
variable{prog:Program}{w:World}{A:Around}{E:Value->Shared->Prop}{s:Shared}
theorem JS{d:Addr}{o:Obj}{es:Array DictEntry}{ep:Nat}{Q:Value->Shared->Prop}(hd:(d == sysModules)=false)(ho:s.heap.get? d=some o)(hc:o.ExactDict)(hdat:o.data=.dict es ep)
  (hQ:Q (.ref s.heap.objs.size) { s with heap:=s.heap.push { cls:=.type "dict_keyiterator",data:=.fields #[.ref d,.int 0 0,.int es.size 0,.int ep 0] } }) :
  wpAny (model prog w) A (pyIter (.ref d)) Q E s:=by
 have hT:s.TypeIs (.ref d) "dict":=⟨o,ho,hc.1⟩
 refine wpAny_pyIter_slot hT F.slot_dict_iter (wpAny_call_entry F.slot_dict_iter hT F.entry_dict_iter ?_ (F.args_dict_iter_1 _))
 unfold Builtin.«dict.__iter__»
 refine wpAny_bind ?_
 unfold Builtin.Dict.dictSlotNone
 refine wpAny_bind (wpAny_notOrdered_dict hT ?_)
 show wpAny _ _ (pure (Value.ref d)) _ _ s
 refine wpAny_pure ?_
 show wpAny _ _ (Builtin.Dict.showsAll d >>= _) _ _ s
 unfold Builtin.Dict.showsAll
 rw[if_neg (by rw[hd];exact Bool.false_ne_true)]
 refine wpAny_bind (wpAny_pure ?_)
 refine wpAny_bind (wpAny_dictEntries ho hdat ?_)
 refine wpAny_bind (wpAny_dictEpoch ho hdat ?_)
 refine wpAny_bind (wpAny_newObj_type (wpAny_pure ⟨_,rfl,"dict_keyiterator",_,⟨_,Heap.get?_push_size _ rfl,rfl⟩,F.slot_dict_keyiterator_next.lookup,?_⟩))
 simpa [rawInt] using hQ
theorem zdq{it d:Addr}{i n ep:Nat}{od:Obj}{es:Array DictEntry}{en:DictEntry}{Q:Option Value->Shared->Prop}(hit:s.heap.IsKeyIter it d i n ep)(hod:s.heap.get? d=some od)(hdd:od.data=.dict es ep)
  (hsz:es.size=n) (hx:es[i]? = some en) (hQ:∀h',h'.IsKeyIter it d (i+1) n ep->Heap.SameBut it s.heap h'->Q (some en.key) { s with heap:=h' }):wpAny (model prog w) A (pyNext (.ref it)) Q E s:=by
 obtain⟨o,ho,hc,hd⟩:=id hit
 unfold pyNext
 refine wpAny_bind (wpAny_attempt (wpAny_callSpecial?_slot (name:=Str.ofString "__next__") hit.typeIs F.slot_dict_keyiterator_next
  (wpAny_call_entry F.slot_dict_keyiterator_next hit.typeIs F.entry_dict_keyiterator_next ?_ (F.args_dict_keyiterator_next_1 _))))
 refine wpAny_bind (wpAny_pure ?_)
 refine wpAny_bind ?_
 refine wpAny_bind ?_
 first|refine wpAny_bind (wpAny_typeNameOfWhole_keyiter hit.typeIs (wpAny_pure ?_))|refine wpAny_bind (wpAny_typeNameOf_keyiter hit.typeIs (wpAny_pure ?_))
 refine wpAny_bind (wpAny_fieldsOf ho hd ?_)
 have hown:Builtin.Dict_items.ownsTuple "dict_keyiterator"=false:=by decide
 simp only[hown,Bool.false_eq_true,if_false]
 show wpAny _ _ (if (Value.ref d == Value.none)=true then _ else _) _ _ s
 rw[if_neg (show ¬((Value.ref d == Value.none)=true) from Bool.false_ne_true)]
 refine wpAny_bind (wpAny_pure ?_)
 refine wpAny_bind (wpAny_dictEntries hod hdd ?_)
 rw[if_neg (by rw[hsz];simp)]
 refine wpAny_bind (wpAny_pure ?_)
 refine wpAny_bind (wpAny_dictEpoch hod hdd ?_)
 rw[if_neg (by simp)]
 refine wpAny_pure ?_
 obtain⟨hlt',hen⟩:=Array.getElem?_eq_some_iff.mp hx
 simp only[show ¬((i:Int)<0) from by omega,if_false,Int.toNat_natCast,Array.getElem?_eq_getElem hlt']
 refine wpAny_bind ?_
 first|refine wpAny_bind (wpAny_typeNameOfWhole_keyiter hit.typeIs (wpAny_pure ?_))|refine wpAny_bind (wpAny_typeNameOf_keyiter hit.typeIs (wpAny_pure ?_))
 refine wpAny_bind (wpAny_isOneOf_keyiter hit.typeIs ?_)
 show wpAny _ _ (setField (.ref it) 1 (rawInt ((i:Int)+1)) >>= _) _ _ s
 refine wpAny_bind (wpAny_setField ho hd (by simp) ?_)
 have hit':(s.heap.update it (Obj.mapFields (·.setIfInBounds 1 (rawInt ((i:Int)+1))))).IsKeyIter it d (i+1) n ep :=
  ⟨_,Heap.get?_update_self _ ho (Obj.isFreed_of_fields (Obj.data_mapFields hd _)),(Obj.cls_mapFields ..).trans hc,by rw[Obj.data_mapFields hd];simp[rawInt]⟩
 refine wpAny_bind (wpAny_holding ?_)
 refine wpAny_bind (wpAny_isOneOf_keyiter (s:={ s with heap:=s.heap.update it (Obj.mapFields (·.setIfInBounds 1 (rawInt ((i:Int)+1)))) }) hit'.typeIs ?_)
 show wpAny _ _ (pure es[i].key) _ _ _
 rw[hen]
 exact wpAny_pure (wpAny_pure ⟨_,rfl,wpAny_pure (hQ _ hit' (Heap.SameBut.update ..))⟩)
theorem Jl{it d:Addr}{i n ep:Nat}{od:Obj}{es:Array DictEntry}{Q:Option Value->Shared->Prop}(hh:A.handled=none)(hit:s.heap.IsKeyIter it d i n ep)(hod:s.heap.get? d=some od)(hdd:od.data=.dict es ep)
  (hsz:es.size=n) (hge:n<=i) (hQ:∀h',Heap.ExtBut it s.heap h'->Q none { s with heap:=h' }):wpAny (model prog w) A (pyNext (.ref it)) Q E s:=by
 obtain⟨o,ho,hc,hd⟩:=id hit
 unfold pyNext
 refine wpAny_bind (wpAny_attempt (wpAny_callSpecial?_slot (name:=Str.ofString "__next__") hit.typeIs F.slot_dict_keyiterator_next
  (wpAny_call_entry F.slot_dict_keyiterator_next hit.typeIs F.entry_dict_keyiterator_next ?_ (F.args_dict_keyiterator_next_1 _))))
 refine wpAny_bind (wpAny_pure ?_)
 refine wpAny_bind ?_
 refine wpAny_bind ?_
 first|refine wpAny_bind (wpAny_typeNameOfWhole_keyiter hit.typeIs (wpAny_pure ?_))|refine wpAny_bind (wpAny_typeNameOf_keyiter hit.typeIs (wpAny_pure ?_))
 refine wpAny_bind (wpAny_fieldsOf ho hd ?_)
 have hown:Builtin.Dict_items.ownsTuple "dict_keyiterator"=false:=by decide
 simp only[hown,Bool.false_eq_true,if_false]
 show wpAny _ _ (if (Value.ref d == Value.none)=true then _ else _) _ _ s
 rw[if_neg (show ¬((Value.ref d == Value.none)=true) from Bool.false_ne_true)]
 refine wpAny_bind (wpAny_pure ?_)
 refine wpAny_bind (wpAny_dictEntries hod hdd ?_)
 rw[if_neg (by rw[hsz];simp)]
 refine wpAny_bind (wpAny_pure ?_)
 refine wpAny_bind (wpAny_dictEpoch hod hdd ?_)
 rw[if_neg (by simp)]
 refine wpAny_pure ?_
 have hge':es.size<=i:=by rw[hsz];exact hge
 simp only[show ¬((i:Int)<0) from by omega,if_false,Int.toNat_natCast,Array.getElem?_eq_none hge']
 refine wpAny_bind ?_
 first|refine wpAny_bind (wpAny_typeNameOfWhole_keyiter hit.typeIs (wpAny_pure ?_))|refine wpAny_bind (wpAny_typeNameOf_keyiter hit.typeIs (wpAny_pure ?_))
 show wpAny _ _ (setField (.ref it) 0 .none >>= _) _ _ s
 refine wpAny_bind (wpAny_setField ho hd (by simp) ?_)
 show wpAny _ _ (newExc (.type "StopIteration") [] >>= _) _ _ _
 refine wpAny_bind ?_
 simp only[newExc,newTuple]
 refine wpAny_bind (wpAny_newObj_type ?_ (by size_fits))
 refine wpAny_bind (m:=firstArgMember _ _) (wpAny_of_eq (a:=Value.none) (by first|rfl|(simp only[firstArgMember];rfl)) ?_)
 refine wpAny_newObj_type ?_ (by size_fits)
 simp only[raiseNew]
 refine wpAny_bind (wpAny_handled ?_)
 rw[show A.in1.handled=none from hh]
 refine wpAny_bind (wpAny_pure (wpAny_throw ?_))
 refine wpAny_bind (wpAny_isInstance (T:="StopIteration") (b:=true) ⟨_,Heap.get?_push_size _ rfl,rfl⟩ isSubtype_stop ?_)
 exact wpAny_pure (hQ _ (((Heap.SameBut.update ..).extBut.push _).push _))
end
theorem zd8{κ:Type}{kvs:List (κ×V)}{vs:List (κ×Value)}(h:KV kvs vs):∀{i:Nat}{k:κ}{v:V},kvs[i]? = some (k,v)->∃u,vs[i]? = some (k,u)/\zr v u:=by
 unfold KV at h
 induction h with
 |nil=>intro i k v e;simp at e
 |@cons a b l₁ l₂ r t ih=>
  intro i k v e
  cases i with
  |zero=>
   simp only[List.getElem?_cons_zero,Option.some.injEq] at e
   subst e
   refine⟨b.2,?_,r.2⟩
   simp only[List.getElem?_cons_zero]
   exact congrArg some (Prod.ext r.1.symm rfl)
  |succ j=>
   simp only[List.getElem?_cons_succ] at e ⊢
   exact ih e
theorem zcL{α β:Type}{G:α->β->Prop}{l₁:List α}{l₂:List β}(h:Paired G l₁ l₂):∀{i:Nat}{a:α},l₁[i]? = some a->∃b,l₂[i]? = some b/\G a b:=by
 induction h with
 |nil=>intro i a e;simp at e
 |@cons a b l₁ l₂ r t ih=>
  intro i a' e
  cases i with
  |zero=>
   simp only[List.getElem?_cons_zero,Option.some.injEq] at e
   subst e
   exact⟨b,rfl,r⟩
  |succ j=>
   simp only[List.getElem?_cons_succ] at e ⊢
   exact ih e
theorem zbH{k:Key}{u:Value}(h:vt k u=true):zr (kV k) u:=by
 rcases wK h with ⟨i,t,rfl,rfl⟩|⟨x,t,rfl,rfl⟩
 .exact⟨t,rfl⟩
 .exact⟨t,rfl⟩
section
variable{X:Cx}{pins:List (Addr×Obj)}{σ:St}{H:Hp}{s:Shared}{d:Addr}{o:Obj}
theorem Inv.frzK{kvs:List (Key×V)}(I:Inv X pins σ H s)(h:H d=some (.frz o (.dK kvs))) :
  (d == sysModules)=false/\s.heap.get? d=some o/\o.ExactDict/\∃(es:Array DictEntry)(ep:Nat)(vs:List (Key×Value)),o.data=.dict es ep/\es.size=kvs.length/\KV kvs vs/\s.heap.DictAt (yI X.prog X.w) d vs ep:=by
 obtain⟨hd,z,hs,vs,kv,o',es,ep,ho,hx,hdt,r⟩:=I.hok d _ h
 rw[hd] at ho
 cases ho
 refine⟨hs,hd,hx,es,ep,vs,hdt,?_,kv,o,es,hd,hx,hdt,r⟩
 have l1:=r.2.1.length
 have l2:kvs.length=vs.length:=Paired.length kv
 rw[Array.length_toList] at l1
 omega
theorem Inv.frzT{kvs:List (List Key×V)}(I:Inv X pins σ H s)(h:H d=some (.frz o (.dT kvs))) :
  (d == sysModules)=false/\s.heap.get? d=some o/\o.ExactDict/\∃(es:Array DictEntry)(ep:Nat),o.data=.dict es ep/\es.size=kvs.length /\
   ∀(i:Nat)(k:List Key)(v:V),kvs[i]? = some (k,v)->∃(en:DictEntry)(q:Addr),es[i]? = some en/\en.key=.ref q/\H q=some (.tup (k.map kV)):=by
 obtain⟨hd,z,hs,xs,pr,o',es,ep,ho,hx,hdt,he,_⟩:=I.hok d _ h
 rw[hd] at ho
 cases ho
 refine⟨hs,hd,hx,es,ep,hdt,?_,λi k v e=>?_⟩
 .have l1:es.size=xs.length:=size_of_entries he
  have l2:kvs.length=xs.length:=Paired.length pr
  omega
 .obtain⟨b,hb,e1,e2,_⟩:=zcL pr e
  have q:=entry_at he i
  rw[hb] at q
  exact⟨_,b.2.1,q,rfl,e2⟩
end
def Itk(d:Addr)(o:Obj)(kvs:List (Key×V)):It :=
 ⟨λi H=>H d=some (.frz o (.dK kvs))/\i<kvs.length,λi H x H'=>H'=H/\∃k v,kvs[i]? = some (k,v)/\x=kV k,λi H=>H d=some (.frz o (.dK kvs))/\kvs.length<=i⟩
def Itkt(d:Addr)(o:Obj)(kvs:List (List Key×V)):It :=
 ⟨λi H=>H d=some (.frz o (.dT kvs))/\i<kvs.length,λi H x H'=>H'=H/\∃(k:List Key)(v:V)(q:Addr),kvs[i]? = some (k,v)/\x=.ref q/\H q=some (.tup (k.map kV)),λi H=>H d=some (.frz o (.dT kvs))/\kvs.length<=i⟩
theorem k8{o:Obj}{es es':Array DictEntry}{ep ep':Nat}(h:o.data=.dict es ep)(h':o.data=.dict es' ep'):es'=es/\ep'=ep:=by
 rw[h] at h'
 cases h'
 exact⟨rfl,rfl⟩
section
variable{P:Program}{w:World}{K:PySem.W.Frag}{tg:Expr}{d:Addr}{o:Obj}{es:Array DictEntry}{ep:Nat}
theorem zam{kvs:List (Key×V)}(it:Addr)(hod:o.data=.dict es ep):Turn P w K tg (Itk d o kvs) [it] it (λi h=>h.IsKeyIter it d i kvs.length ep) where
 mem:=by simp
 obj:=λi h st b hb=>by
  have e:b=it:=by simpa using hb
  subst e
  obtain⟨oi,e,c,dd⟩:=st
  exact⟨oi,e,λv z=>by rw[dd] at z;cases z⟩
 keep:=λi h h' st k=>st.at λoi e=>k it (by simp) oi e
 item:=by
  intro X hP hw hK hc i pins s σ H E I hf st hg
  subst hP hw hK
  obtain⟨hd,hi⟩:=hg
  obtain⟨f0,f1,f2,f3,f4,f5⟩:=hf it (by simp)
  obtain⟨hs,hgd,hx,es',ep',vs,hdt,hsz,kv,hm⟩:=I.frzK hd
  obtain⟨rfl,rfl⟩:=k8 hod hdt
  obtain⟨⟨k,v⟩,hkv⟩:∃p,kvs[i]? = some p:=⟨kvs[i],List.getElem?_eq_getElem hi⟩
  obtain⟨u,hu,ru⟩:=zd8 kv hkv
  have hl:kvs.length=vs.length:=Paired.length kv
  rw[hl] at st
  refine wpAny_pyNext_dict_item st hm hu λkey h' hkey st' sb=>?_
  have I1:Inv X pins σ H { s with heap:=h' }:=I.turned (t':=s.toks) (λb ob hb e=>(sb.2 b hb).trans e) f0 f1 f3 f4 f5
  obtain⟨oi,e,c,dd⟩:=id st'
  refine⟨key,rfl,jH (s:={ s with heap:=h' }) e c dd (by decide) ⟨kV k,H,I1,zbH (show vt k key=true from hkey),⟨rfl,k,v,hkv,rfl⟩,?_,λb hb=>(hf b hb).1⟩⟩
  show h'.IsKeyIter it d (i+1) kvs.length _
  rw[hl]
  exact st'
 done:=by
  intro X hP hw hK hc i pins s σ H E I hf st hg
  subst hP hw hK
  obtain⟨hd,hi⟩:=hg
  obtain⟨f0,f1,f2,f3,f4,f5⟩:=hf it (by simp)
  obtain⟨hs,hgd,hx,es',ep',vs,hdt,hsz,kv,hm⟩:=I.frzK hd
  obtain⟨rfl,rfl⟩:=k8 hod hdt
  exact Jl (I.ok.hd hc) st hgd hdt hsz hi λh' eb=>⟨rfl,I.turned (t':=s.toks) (λb ob hb e=>eb b ob hb e) f0 f1 f3 f4 f5⟩
 self:=λA i s Q E st h=>wpAny_pyIter_keyiter st h
theorem zal{kvs:List (List Key×V)}(it:Addr)(hod:o.data=.dict es ep):Turn P w K tg (Itkt d o kvs) [it] it (λi h=>h.IsKeyIter it d i kvs.length ep) where
 mem:=by simp
 obj:=λi h st b hb=>by
  have e:b=it:=by simpa using hb
  subst e
  obtain⟨oi,e,c,dd⟩:=st
  exact⟨oi,e,λv z=>by rw[dd] at z;cases z⟩
 keep:=λi h h' st k=>st.at λoi e=>k it (by simp) oi e
 item:=by
  intro X hP hw hK hc i pins s σ H E I hf st hg
  subst hP hw hK
  obtain⟨hd,hi⟩:=hg
  obtain⟨f0,f1,f2,f3,f4,f5⟩:=hf it (by simp)
  obtain⟨hs,hgd,hx,es',ep',hdt,hsz,ent⟩:=I.frzT hd
  obtain⟨rfl,rfl⟩:=k8 hod hdt
  obtain⟨⟨k,v⟩,hkv⟩:∃p,kvs[i]? = some p:=⟨kvs[i],List.getElem?_eq_getElem hi⟩
  obtain⟨en,q,hen,hkey,hq⟩:=ent i k v hkv
  refine zdq st hgd hdt hsz hen λh' st' sb=>?_
  have I1:Inv X pins σ H { s with heap:=h' }:=I.turned (t':=s.toks) (λb ob hb e=>(sb.2 b hb).trans e) f0 f1 f3 f4 f5
  obtain⟨oi,e,c,dd⟩:=id st'
  exact⟨en.key,rfl,jH (s:={ s with heap:=h' }) e c dd (by decide) ⟨.ref q,H,I1,hkey,⟨rfl,k,v,q,hkv,rfl,hq⟩,st',λb hb=>(hf b hb).1⟩⟩
 done:=by
  intro X hP hw hK hc i pins s σ H E I hf st hg
  subst hP hw hK
  obtain⟨hd,hi⟩:=hg
  obtain⟨f0,f1,f2,f3,f4,f5⟩:=hf it (by simp)
  obtain⟨hs,hgd,hx,es',ep',hdt,hsz,ent⟩:=I.frzT hd
  obtain⟨rfl,rfl⟩:=k8 hod hdt
  exact Jl (I.ok.hd hc) st hgd hdt hsz hi λh' eb=>⟨rfl,I.turned (t':=s.toks) (λb ob hb e=>eb b ob hb e) f0 f1 f3 f4 f5⟩
 self:=λA i s Q E st h=>by
  refine wpAny_pyIter_slot st.typeIs F.slot_dict_keyiterator_iter (wpAny_call_entry F.slot_dict_keyiterator_iter st.typeIs F.entry_dict_keyiterator_iter ?_ (F.args_dict_keyiterator_iter_1 _))
  show wpAny _ _ (ret (.ref it)) _ _ s
  exact wpAny_pure ⟨_,rfl,"dict_keyiterator",_,st.typeIs,F.slot_dict_keyiterator_next.lookup,h⟩
end
def v0(td:TE):TI:=fun σ H R=>td σ H λx H1=>∃d o,x=.ref d/\((∃kvs,H1 d=some (.frz o (.dK kvs))/\R (Itk d o kvs) H1)∨∃kvs,H1 d=some (.frz o (.dT kvs))/\R (Itkt d o kvs) H1)
section
variable{X:Cx}{tg e:Expr}{td:TE}{apos cpos:Pos}
theorem jp(he:PE X e td):PI X tg e (v0 td):=by
 intro pins s σ H R I h
 refine thn (he pins s σ H _ I h) λu s1 ⟨x,H1,I1,rx,d,o,ex,q⟩=>?_
 subst ex
 obtain rfl:u=Value.ref d:=rx
 rcases q with ⟨kvs,hd,q⟩|⟨kvs,hd,q⟩
 .obtain⟨hs,hgd,hx,es,ep,vs,hdt,hsz,kv,hm⟩:=I1.frzK hd
  refine JS hs hgd hx hdt (YN (tk:=s1.toks) I1 _ (zam _ hdt) ⟨_,Heap.get?_push_size _ rfl,rfl,?_⟩ q)
  rw[hsz]<;>rfl
 .obtain⟨hs,hgd,hx,es,ep,hdt,hsz,ent⟩:=I1.frzT hd
  refine JS hs hgd hx hdt (YN (tk:=s1.toks) I1 _ (zal _ hdt) ⟨_,Heap.get?_push_size _ rfl,rfl,?_⟩ q)
  rw[hsz]<;>rfl
end
def Ite(K:PySem.W.Frag)(a:Addr):It :=
 ⟨λi H=>∃(xs:List V)(x:V),SqL K H a xs/\xs[i]? = some x,λi H v H'=>∃T x,v=.ref T/\H T=none/\H'=upd H T (.tup [.int (i:Nat),x])/\∀xs,SqL K H a xs->xs[i]? = some x,λi H=>∃xs:List V,SqL K H a xs/\xs.length<=i⟩
theorem zan{P:Program}{w:World}{K:PySem.W.Frag}{elts:List Expr}{kk:Nat}{tpos:Pos}(a e it:Addr) :
  Turn P w K (.Tuple elts kk tpos) (Ite K a) [e,it] e (λi h=>(∃old,IsEnum h e it ((i:Nat):Int) old)/\h.IsListIter it a i/\e≠it) where
 mem:=by simp
 obj:=λi h st b hb=>by
  obtain⟨⟨old,he⟩,⟨o,ho,hc,hd⟩,_⟩:=st
  have e':b=e∨b=it:=by simpa using hb
  rcases e' with z|z
  .rw[z];exact⟨_,he,λv q=>nomatch q⟩
  .rw[z];exact⟨o,ho,λv q=>by rw[hd] at q;cases q⟩
 keep:=λi h h' st k=>let ⟨⟨old,he⟩,hi,hne⟩:=st;⟨⟨old,k e (by simp) _ he⟩,hi.at λo q=>k it (by simp) o q,hne⟩
 item:=by
  intro X hP hw hK hc i pins s σ H E I hf st hg
  subst hP hw hK
  obtain⟨⟨old,he⟩,hit,hne⟩:=st
  obtain⟨xs,x,hq,hx⟩:=hg
  obtain⟨its,rv,p,hz⟩:=I.list hq
  obtain⟨u,hu,ru⟩:=rv.get hx
  have hel:e<s.heap.objs.size:=Heap.lt_size he
  have hil:it<s.heap.objs.size:=by obtain⟨_,q,_⟩:=hit;exact Heap.lt_size q
  refine wpAny_pyNext_enum_item he hit p.isList (x:=u) (by simpa using hu) hne λh' ho hit' hT hsz hk=>?_
  refine⟨_,rfl,wpAny_letOwnedTupleGo_enum (s:={ s with heap:=h',toks:=s.toks+1 }) ho λh'' he' sb=>?_⟩
  have hT2:h''.get? s.heap.objs.size=some { cls:=.type "tuple",data:=.seq #[.int i s.toks,u] }:=(sb.2 _ (Nat.ne_of_gt hel)).trans hT
  have new:yy X.prog X.w (upd H s.heap.objs.size (.tup [.int (i:Nat),x])) h'' s.heap.objs.size (.tup [.int (i:Nat),x]) :=
   ⟨by show 2<=sizeLine;decide,[.int i s.toks,u],.cons ⟨_,rfl⟩ (.cons ru .nil),⟨_,hT2,rfl,_,rfl⟩⟩
  have I1:Inv X pins σ (upd H s.heap.objs.size (.tup [.int (i:Nat),x])) { s with heap:=h'',toks:=s.toks+1 } :=
   I.turnedNew (ch:=[e,it]) (λb ob hb q=>(sb.2 b (λz=>hb (by simp[z]))).trans (hk b ob (λz=>hb (by simp[z])) (λz=>hb (by simp[z])) q)) hf (Nat.le_refl _) new
  refine⟨.ref s.heap.objs.size,_,I1,rfl,⟨_,x,rfl,I.hok.fresh (Nat.le_refl _),rfl,λys hy=>by rw[I.list_inj hy hq];exact hx⟩,⟨⟨u,?_⟩,hit'.at λo q=>(sb.2 it (Ne.symm hne)).trans q,hne⟩,λb hb=>?_⟩
  .have e1:((i+1:Nat):Int)=(i:Int)+1:=by omega
   rw[e1];exact he'
  .have hb':b<s.heap.objs.size:=by
    have e':b=e∨b=it:=by simpa using hb
    rcases e' with z|z
    .rw[z];exact hel
    .rw[z];exact hil
   rw[zh (Nat.ne_of_lt hb')]
   exact(hf b hb).1
 done:=by
  intro X hP hw hK hc i pins s σ H E I hf st hg
  subst hP hw hK
  obtain⟨⟨old,he⟩,hit,hne⟩:=st
  obtain⟨xs,hq,hx⟩:=hg
  obtain⟨its,rv,p,hz⟩:=I.list hq
  obtain⟨f0,f1,f2,f3,f4,f5⟩:=hf it (by simp)
  have hl:=rv.length
  exact wpAny_pyNext_enum_end (I.ok.hd hc) he hit p.isList (by simp;omega) λh' eb=>⟨rfl,I.turned (t':=s.toks) (λb o hb q=>eb b o hb q) f0 f1 f3 f4 f5⟩
 self:=λA i s Q E st h=>let ⟨⟨_,he⟩,_⟩:=st;wpAny_pyIter_enum he h
def Xz(K:PySem.W.Frag)(ta:TA):TI:=fun σ H R=>ta σ H λvs H1=>∃a xs,vs=[.ref a]/\SqL K H1 a xs/\R (Ite K a) H1
theorem VI{X:Cx}{e:Expr}{ta:TA}{p pos tpos:Pos}{elts:List Expr}{kk:Nat}(hg:Gl X "enumerate")(hm:X.mg "enumerate"=none)(ha:PA X [e] ta)(hs:starEach [e] X.env=[(false,eval e X.env)]:=by rfl) :
  PI X (.Tuple elts kk tpos) (.Call (.Name "enumerate" p) [e] [] pos) (Xz X.K ta):=by
 intro pins s σ H R I h
 refine Call_ (jB I hg hm boot_enumerate (PyProof.Rows.callWith_type1 (thn (ha pos pins s σ H _ I h) λus s1 ⟨vs,H1,I1,r1,q1⟩=>?_) hs rfl))
 obtain⟨a,xs,ex,hq,q⟩:=q1
 subst ex
 cases r1 with
 |cons r rr=>
  cases rr
  cases r
  obtain⟨its,rv,p',hz⟩:=I1.list hq
  refine call_enumerate_list p'.isList λh' he hit hsz hk=>wpAny_pyIter_enum he ?_
  have I2:Inv X pins σ H1 { s1 with heap:=h' }:=I1.kept (t':=s1.toks) hk
  refine⟨s1.heap.objs.size+1,[s1.heap.objs.size+1,s1.heap.objs.size],_,_,H1,rfl,I2,zan a (s1.heap.objs.size+1) s1.heap.objs.size,⟨⟨.none,he⟩,hit,Nat.succ_ne_self _⟩,λb hb=>?_,q⟩
  have e':b=s1.heap.objs.size+1∨b=s1.heap.objs.size:=by simpa using hb
  have hle:s1.heap.objs.size<=b:=by
   rcases e' with z|z
   .rw[z];exact Nat.le_add_right _ _
   .rw[z];exact Nat.le_refl _
  exact I1.fpOk hle (I1.hok.fresh hle)
end L2
section
namespace Bits
open PySem PyProof.Rows
end Bits
end
section
namespace TL
open PySem PySem.Builtin PySem.Builtin.Str PySem.StrLaws
end TL
end
namespace L2
open PySem PySem.Spec PyProof.Rows
section
variable{X:Cx}{pins:List (Addr×Obj)}{σ:St}{H:Hp}{s:Shared}{Q:VK}
end
section
variable{X:Cx}
end
section
variable{X:Cx}{o e:Expr}{to te:TE}
end
end L2
namespace L2
open PySem PySem.Spec PyProof.Rows
section
variable{X:Cx}
end
end L2
namespace Att
open PySem PySem.W PySem.Calls PyProof.Rows
section
variable{prog:Program}{w:World}{A:Around}{E:Value->Shared->Prop}{s:Shared}{K:Frag}
end
end Att
namespace L2
open PySem PySem.Spec PyProof.Rows
end L2
namespace L2
open PySem PySem.Spec PyProof.Rows
end L2
namespace L2
open PySem PySem.Spec PyProof.Rows
def xI(s:Stmt)(j:Nat):Stmt:=match s with
 |.ClassDef _ _ _ body _ _ _ _ _ _ _=>body.getD j (.Pass ⟨0,0,0,0⟩)
 |_=>.Pass ⟨0,0,0,0⟩
def vE(s:Stmt):Arguments:=match s with
 |.FunctionDef _ a _ _ _ _ _ _ _ _=>a
 |_=>{ posonlyargs:=[],args:=[],vararg:=none,kwonlyargs:=[],kw_defaults:=[],kwarg:=none,defaults:=[] }
def va(s:Stmt):List Stmt:=match s with
 |.FunctionDef _ _ b _ _ _ _ _ _ _=>b
 |_=>[]
def zA(s:Stmt):Scope:=match s with
 |.FunctionDef _ _ _ _ _ _ sc _ _ _=>sc
 |_=>{ kind:=.function,names:=[],isGenerator:=false,isCoroutine:=false }
abbrev CX0:CXT:=λ_ _ _ _ _ _=>False
abbrev E0:XK:=λ_ _ _=>False
theorem pass0{X:Cx}:Passes CX0 X E0:=λ_ _ _ _ _ _ _ h=>h.elim
structure Fun(K:PySem.W.Frag)(x qual:Str)(st:Stmt)(f:Addr)(fd:FuncData):Prop where
 ex:∃(oc:Value)(od:Option Addr)(kV doc pm:Value)(an:Option Addr)(cdv ct:Value)(osl:Array (Option Value)),
  fd=PySem.W.fnOf x qual (vE st) (va st) (zA st) .none kV doc pm an cdv ct/\K.lookup f=some ⟨oc,od,.func fd,osl⟩/\PySem.W.codeIn K cdv qual=true
 kp:PySem.W.keepIn K (.ref f)=true
section
variable{P:Program}{w:World}{K:PySem.W.Frag}{mg:Str->Option Value}{base:Heap}
theorem Fun.ok{x qual:Str}{st:Stmt}{f:Addr}{fd:FuncData}{N ps:List Str}{k:Nat}{sp:Sp}(F:Fun K x qual st f fd)(S:zK N ps (zA st))(len:∀vs H Q E,sp vs H Q E->vs.length=ps.length)
  (hbody:∀(cdv:Value)(A:Around)(outer:List Env)(s:Shared)(H:Hp)(vs:List V)(Q:VK)(E:XK),Room k (A.deeper (envOfC qual (zA st) s.heap.objs.size f cdv))->sp vs H Q E ->
   ∃t,PSs (uN CX0 P w K mg base N qual (zA st) f cdv A outer s H E).nox (va st) t/\t { nx:=λ_ H'=>Q .non H',rt:=Q } (start N vs) H):zB P w K mg base CX0 (k+1) f fd ps sp:=by
 obtain⟨oc,od,kV,doc,pm,an,cdv,ct,osl,rfl,lk,hcd⟩:=F.ex
 refine zeF lk hcd S len λA outer s H vs Q E hr hsp=>?_
 obtain⟨t,h,q⟩:=hbody cdv A outer s H vs Q E hr hsp
 exact⟨t,h.nox,q⟩
theorem Fun.binds{x qual:Str}{st:Stmt}{f:Addr}{fd:FuncData}{ps:List Str}(F:Fun K x qual st f fd)
  (h:∀(kV doc pm:Value)(an:Option Addr)(cdv ct:Value)(us:List Value),us.length=ps.length->bindArgs (PySem.W.fnOf x qual (vE st) (va st) (zA st) .none kV doc pm an cdv ct) ⟨us,[]⟩=pure (ps.zip us)):Binds K fd ps []:=by
 obtain⟨oc,od,kV,doc,pm,an,cdv,ct,osl,rfl,lk,hcd⟩:=F.ex
 exact .all (h kV doc pm an cdv ct)
theorem zP{x qual:Str}{st:Stmt}{f:Addr}{oc:Value}{od an:Option Addr}{osl:Array (Option Value)}{kV doc pm cdv ct:Value}(l:K.lookup f=some ⟨oc,od,.func (PySem.W.fnOf x qual (vE st) (va st) (zA st) .none kV doc pm an cdv ct),osl⟩)
  (c:PySem.W.codeIn K cdv qual=true) (k:PySem.W.keepIn K (.ref f)=true):Fun K x qual st f (PySem.W.fnOf x qual (vE st) (va st) (zA st) .none kV doc pm an cdv ct):=⟨⟨oc,od,kV,doc,pm,an,cdv,ct,osl,rfl,l,c⟩,k⟩
end
theorem zO{A:Around}{k:Nat}(hr:Room k A):A.units+1<cLine:=Nat.lt_of_le_of_lt (Nat.add_le_add_left (by decide:1<=64) _) hr.units
theorem zbw{n:Nat}(h:n<=1000):n<sizeLine:=Nat.lt_of_le_of_lt h (by decide)
section
variable{X:Cx}
theorem pv(i:Nat){x:Str}{pos:Pos}(hN:X.N[i]? = some x:=by rfl)(hv:Vis X.env.scope x:=by first|exact Or.inl rfl|exact Or.inr (Or.inl rfl)|exact Or.inr (Or.inr rfl))(hd:(x == ("__debug__":Str))=false:=by decide)
  (hcd:(x == ("__classdict__":Str))=false:=by decide):PE X (.Name x pos) (za i):=VM hN hv hd hcd
theorem Zf:wA X (.builtin "len") (λxs H Q=>∃a kvs,xs=[V.ref a]/\H a=some (.dK kvs)/\Q (.int kvs.length) H):=by
 intro pins s σ H xs us Q I r h
 obtain⟨a,kvs,rfl,ha,q⟩:=h
 obtain⟨u,rfl,ru⟩:=vals1 r
 cases ru
 exact ze5 I (.inl ha) λt s' I'=>⟨.int kvs.length,H,I',⟨t,rfl⟩,q⟩
end
theorem zM{A B:Prop}(h:B):if false=true then A else B:=by
 rw[if_neg Bool.false_ne_true]
 exact h
theorem yj{A B:Prop}(h:A):if true=true then A else B:=by
 rw[if_pos rfl]
 exact h
def Same(H H':Hp):Prop:=∀b o,H b=some o->H' b=some o
theorem Same.refl(H:Hp):Same H H:=λ_ _ h=>h
theorem Same.trans{H H1 H2:Hp}(a:Same H H1)(b:Same H1 H2):Same H H2:=λc o h=>b c o (a c o h)
theorem Same.free{H H':Hp}(e:Same H H'){l:Addr}(h:H' l=Option.none):H l=Option.none:=by
 cases q:H l with
 |none=>rfl
 |some o=>
  rw[e l o q] at h
  cases h
theorem Same.seq{K:PySem.W.Frag}{H H':Hp}{a:Addr}{xs:List V}(e:Same H H')(h:SqL K H a xs):SqL K H' a xs:=by
 rcases h with (h|⟨o,h⟩)|h
 .exact .inl (.inl (e _ _ h))
 .exact .inl (.inr ⟨o,e _ _ h⟩)
 .exact .inr h
section
variable{κ:Type} [DecidableEq κ]
end
theorem vG{xs:List V}{z:Int}{j:Nat}{v:V}(e:z=(j:Int))(h:xs[j]? = some v):atI xs z=some v:=by
 rw[e]
 exact uT h
theorem zds{α:Type}{l:List α}(hN:l.Nodup){i j:Nat}{x:α}(a:l[i]? = some x)(b:l[j]? = some x):i=j:=by
 obtain⟨h1,e1⟩:=List.getElem?_eq_some_iff.mp a
 obtain⟨h2,e2⟩:=List.getElem?_eq_some_iff.mp b
 exact(List.getElem_inj hN).mp (e1.trans e2.symm)
end L2
section
set_option Elab.async false
set_option linter.all false
set_option maxRecDepth 100000
set_option maxHeartbeats 2000000
namespace L2
open PySem PySem.Spec PyProof.Rows
open PySem.W (WData Codec OpenSpec Well WellAll ReadsW ReadsAllW)
mutual
inductive Dw(K:PySem.W.Frag)(H:Hp):V->WData->Prop
 |non:Dw K H .non .none
 |bl (b:Bool):Dw K H (.bl b) (.bool b)
 |int (i:Int):Dw K H (.int i) (.int i)
 |str (x:Str):Dw K H (.str x) (.str x)
 |byt (b:Array UInt8):Dw K H (.byt b) (.bytes b.toList)
 |lst {a:Addr} {xs:List V} {ds:List WData}:SqL K H a xs->x6 K H xs ds->Dw K H (.ref a) (.list ds)
 |tup {a:Addr} {xs:List V} {ds:List WData}:SqT K H a xs->x6 K H xs ds->Dw K H (.ref a) (.tuple ds)
inductive x6(K:PySem.W.Frag)(H:Hp):List V->List WData->Prop
 |nil:x6 K H [] []
 |cons {v:V} {vs:List V} {d:WData} {ds:List WData}:Dw K H v d->x6 K H vs ds->x6 K H (v::vs) (d::ds)
end
theorem Qj{K:PySem.W.Frag}{H:Hp}:∀ns:List Int,x6 K H (ns.map V.int) (ns.map WData.int)
 |[]=>.nil
 |n::r=>.cons (.int n) (Qj r)
theorem JZ{K:PySem.W.Frag}{H:Hp}:∀(ns:List Int)(xs:List V),x6 K H xs (ns.map WData.int)->xs=ns.map V.int
 |[],xs,h=>by
  cases h
  rfl
 |n::r,xs,h=>by
  cases h with
  |cons h1 h2=>
   cases h1
   rw[JZ r _ h2]<;>rfl
section
variable{P:Program}{w:World}{K:PySem.W.Frag}{H:Hp}{h:Heap}{R:PySem.W.WRecords}{cl:Str->Option Addr}
theorem zbq{a:Addr}{xs:List V}(hok:HOk P w H h)(KX:K.In h)(q:SqL K H a xs):∃(its:List Value)(o:Obj)(n:Nat),Vals xs its/\h.get? a=some o/\o.cls=.type "list"/\o.data=.seq its.toArray n:=by
 rcases q with q|⟨o,its,n,e,hc,_,hd,_,hv⟩
 .obtain⟨_,its,n,hv,e⟩:=(show yy P w H h a (.lst xs) from q.ok hok)
  exact⟨its,_,n,hv,e,rfl,rfl⟩
 .exact⟨its.toList,o,n,hv,KX _ _ e,hc,by simp[hd]⟩
theorem zbp{a:Addr}{xs:List V}(hok:HOk P w H h)(KX:K.In h)(q:SqT K H a xs):∃(its:List Value)(o:Obj)(n:Nat),Vals xs its/\h.get? a=some o/\o.cls=.type "tuple"/\o.data=.seq its.toArray n:=by
 rcases q with q|⟨o,its,n,e,hc,hd,_,hv⟩
 .obtain⟨_,its,hv,o,e,hc,n,hd⟩:=(show yy P w H h a (.tup xs) from q.ok hok)
  exact⟨its,o,n,hv,e,hc,hd⟩
 .exact⟨its.toList,o,n,hv,KX _ _ e,hc,by simp[hd]⟩
mutual
theorem Dw.reads(hok:HOk P w H h)(KX:K.In h):∀(d:WData)(v:V)(u:Value),Dw K H v d->zr v u->∃as,ReadsW R cl h u d as
 |.none,_,_,x,r=>by
  cases x
  cases r
  exact⟨_,ReadsW.none⟩
 |.bool b,_,_,x,r=>by
  cases x
  cases r
  exact⟨_,ReadsW.bool b⟩
 |.int i,_,_,x,r=>by
  cases x
  obtain⟨t,rfl⟩:=r
  exact⟨_,ReadsW.int i t⟩
 |.str s,_,_,x,r=>by
  cases x
  obtain⟨t,rfl⟩:=r
  exact⟨_,ReadsW.str s t⟩
 |.bytes b,_,_,x,r=>by
  cases x
  obtain⟨t,rfl⟩:=r
  exact⟨_,ReadsW.bytes _ t⟩
 |.list ds,_,_,x,r=>by
  cases x with
  |lst hs ha=>
   cases r
   obtain⟨its,o,n,rv,ho,hc,hd⟩:=zbq hok KX hs
   obtain⟨as,hr⟩:=Dw.readsAll hok KX ds _ its ha rv
   exact⟨_,ReadsW.list ho hc hd hr⟩
 |.tuple ds,_,_,x,r=>by
  cases x with
  |tup hs ha=>
   cases r
   obtain⟨its,o,n,rv,ho,hc,hd⟩:=zbp hok KX hs
   obtain⟨as,hr⟩:=Dw.readsAll hok KX ds _ its ha rv
   exact⟨_,ReadsW.tuple ho hc hd hr⟩
 |.float _,_,_,x,_=>by cases x
 |.dict _,_,_,x,_=>by cases x
 |.bytearray _,_,_,x,_=>by cases x
 |.set _,_,_,x,_=>by cases x
 |.frozenset _,_,_,x,_=>by cases x
 |.obj _ _,_,_,x,_=>by cases x
theorem Dw.readsAll(hok:HOk P w H h)(KX:K.In h):∀(ds:List WData)(vs:List V)(us:List Value),x6 K H vs ds->Vals vs us->∃as,ReadsAllW R cl h us ds as
 |[],_,_,x,r=>by
  cases x
  cases r
  exact⟨_,ReadsAllW.nil⟩
 |d::ds,_,_,x,r=>by
  cases x with
  |cons h1 h2=>
   cases r with
   |cons r1 r2=>
    obtain⟨as,q1⟩:=Dw.reads hok KX d _ _ h1 r1
    obtain⟨bs,q2⟩:=Dw.readsAll hok KX ds _ _ h2 r2
    exact⟨_,ReadsAllW.cons q1 q2⟩
end
end
mutual
def plW:WData->Bool
 |.none=>true
 |.bool _=>true
 |.int _=>true
 |.str _=>true
 |.bytes _=>true
 |.list xs=>xU xs
 |.tuple xs=>xU xs
 |_=>false
def xU:List WData->Bool
 |[]=>true
 |x::r=>plW x && xU r
end
theorem VH{α:Type}{f:α->WData}(h:∀a,plW (f a)=true):∀l:List α,xU (l.map f)=true
 |[]=>rfl
 |x::r=>by
  show(plW (f x) && xU (r.map f))=true
  rw[h x,VH h r]<;>rfl
theorem vm:∀(c:Codec)(a:c.denote),plW (c.enc a)=true
 |.unit,_=>rfl
 |.bool,_=>rfl
 |.int _ _,_=>rfl
 |.nat _ _,_=>rfl
 |.u8,_=>rfl
 |.bytes _ _,_=>rfl
 |.text _ _ _ _,_=>rfl
 |.list _ _ c,a=>VH (λx=>vm c x) a
 |.pair c d,a=>by
  show(plW (c.enc a.1) && (plW (d.enc a.2) && true))=true
  rw[vm c a.1,vm d a.2]<;>rfl
 |.triple c d e,a=>by
  show(plW (c.enc a.1) && (plW (d.enc a.2.1) && (plW (e.enc a.2.2) && true)))=true
  rw[vm c a.1,vm d a.2.1,vm e a.2.2]<;>rfl
 |.option c,none=>rfl
 |.option c,some x=>vm c x
theorem VG:∀(cs:List Codec)(a:Codec.denoteAll cs),xU (Codec.encAll cs a)=true
 |[],_=>rfl
 |c::cs,a=>by
  show(plW (c.enc a.1) && xU (Codec.encAll cs a.2))=true
  rw[vm c a.1,VG cs a.2]<;>rfl
theorem Zs:∀{xs:List WData}{d:WData},d∈xs->d.weight<=WData.weightAll xs
 |[],d,h=>absurd h (by simp)
 |x::r,d,h=>by
  show d.weight<=x.weight+1+WData.weightAll r
  rcases List.mem_cons.mp h with e|m
  .rw[e]
   omega
  .have z:=Zs m
   omega
def toV:Value->V
 |.none=>.non
 |.bool b=>.bl b
 |.int i _=>.int i
 |.str x _=>.str x
 |.bytes b _=>.byt b
 |.ref a=>.ref a
 |_=>.non
def OkU(A:List Addr):Value->Prop
 |.none=>True
 |.bool _=>True
 |.int _ _=>True
 |.str _ _=>True
 |.bytes _ _=>True
 |.ref a=>a∈A
 |_=>False
theorem OkU.mono{A B:List Addr}(h:∀a∈A,a∈B):∀{u:Value},OkU A u->OkU B u:=λ{u} x=>by
 cases u with
 |ref a=>exact h a x
 |none=>trivial
 |bool b=>trivial
 |int i t=>trivial
 |str s t=>trivial
 |bytes b t=>trivial
 |_=>exact False.elim x
theorem zbG{A:List Addr}{u:Value}(x:OkU A u):zr (toV u) u:=by
 cases u with
 |ref a=>rfl
 |none=>rfl
 |bool b=>rfl
 |int i t=>exact⟨t,rfl⟩
 |str s t=>exact⟨t,rfl⟩
 |bytes b t=>exact⟨t,rfl⟩
 |_=>exact False.elim x
theorem ud{A:List Addr}:∀{vs:List Value},(∀u∈vs,OkU A u)->Vals (vs.map toV) vs
 |[],_=>.nil
 |u::r,h=>.cons (zbG (h u (List.mem_cons_self ..))) (ud λx hx=>h x (List.mem_cons_of_mem _ hx))
def x8(h:Heap)(A:List Addr)(a:Addr):Prop:=∃vs:List Value,vs.length<=sizeLine/\(∀u∈vs,OkU A u) /\
 (h.get? a=some { cls:=.type "list",data:=.seq vs.toArray }∨h.get? a=some { cls:=.type "tuple",data:=.seq vs.toArray })
theorem x8.mono{h:Heap}{A B:List Addr}{a:Addr}(k:∀a∈A,a∈B)(x:x8 h A a):x8 h B a:=by
 obtain⟨vs,h1,h2,h3⟩:=x
 exact⟨vs,h1,λu hu=>(h2 u hu).mono k,h3⟩
theorem jY{P:Params}{h:Heap}:∀{vs:List Value}{ds:List WData},WellAll P h vs ds->vs.length=ds.length
 |_,_,.nil=>rfl
 |_,_,.cons _ b=>by
  show _+1=_+1
  rw[jY b]
theorem Wa{P:Params}{h:Heap}{v:Value}{ds:List WData}(x:Well P h v (.list ds)):∃(a:Addr)(vs:List Value),v=.ref a/\h.get? a=some { cls:=.type "list",data:=.seq vs.toArray }/\WellAll P h vs ds:=by
 cases x with
 |list ho hall=>exact⟨_,_,rfl,ho,hall⟩
theorem X9{P:Params}{h:Heap}{v:Value}{ds:List WData}(x:Well P h v (.tuple ds)):∃(a:Addr)(vs:List Value),v=.ref a/\h.get? a=some { cls:=.type "tuple",data:=.seq vs.toArray }/\WellAll P h vs ds:=by
 cases x with
 |tuple ho hall=>exact⟨_,_,rfl,ho,hall⟩
theorem Wb{P:Params}{h:Heap}{us:List Value}{d:WData}{ds:List WData}(x:WellAll P h us (d::ds)):∃(v:Value)(vs:List Value),us=v::vs/\Well P h v d/\WellAll P h vs ds:=by
 cases x with
 |cons a b=>exact⟨_,_,rfl,a,b⟩
theorem Jw{n:Nat}(h:n<=1048576):n<=sizeLine:=Nat.le_trans h (by decide)
section
variable{P:Params}{h:Heap}
mutual
theorem zf6:∀(d:WData)(v:Value),Well P h v d->plW d=true->d.weight<=1048576->∃A:List Addr,OkU A v/\∀a∈A,x8 h A a
 |.none,_,x,_,_=>by
  cases x
  exact⟨[],trivial,λa m=>absurd m (by simp)⟩
 |.bool b,_,x,_,_=>by
  cases x
  exact⟨[],trivial,λa m=>absurd m (by simp)⟩
 |.int i,_,x,_,_=>by
  cases x
  exact⟨[],trivial,λa m=>absurd m (by simp)⟩
 |.str s,_,x,_,_=>by
  cases x
  exact⟨[],trivial,λa m=>absurd m (by simp)⟩
 |.bytes b,_,x,_,_=>by
  cases x
  exact⟨[],trivial,λa m=>absurd m (by simp)⟩
 |.list ds,_,x,p,z=>by
  obtain⟨a,vs,rfl,ho,hall⟩:=Wa x
  have z2:WData.weightAll ds<=1048576:=z
  obtain⟨A,h1,h2⟩:=Zn ds _ hall p λd hd=>Nat.le_trans (Zs hd) z2
  have k:∀b∈A,b∈a::A:=λb hb=>List.mem_cons_of_mem _ hb
  refine⟨a::A,List.mem_cons_self ..,λb hb=>?_⟩
  rcases List.mem_cons.mp hb with e|m
  .rw[e]
   exact⟨vs,Jw (by rw[jY hall];exact Nat.le_trans (PySem.W.length_le_weightAllW ds) z2),λu hu=>(h1 u hu).mono k,.inl ho⟩
  .exact(h2 b m).mono k
 |.tuple ds,_,x,p,z=>by
  obtain⟨a,vs,rfl,ho,hall⟩:=X9 x
  have z2:WData.weightAll ds<=1048576:=z
  obtain⟨A,h1,h2⟩:=Zn ds _ hall p λd hd=>Nat.le_trans (Zs hd) z2
  have k:∀b∈A,b∈a::A:=λb hb=>List.mem_cons_of_mem _ hb
  refine⟨a::A,List.mem_cons_self ..,λb hb=>?_⟩
  rcases List.mem_cons.mp hb with e|m
  .rw[e]
   exact⟨vs,Jw (by rw[jY hall];exact Nat.le_trans (PySem.W.length_le_weightAllW ds) z2),λu hu=>(h1 u hu).mono k,.inr ho⟩
  .exact(h2 b m).mono k
 |.float _,_,_,p,_=>Bool.noConfusion (show false=true from p)
 |.dict _,_,_,p,_=>Bool.noConfusion (show false=true from p)
 |.bytearray _,_,_,p,_=>Bool.noConfusion (show false=true from p)
 |.set _,_,_,p,_=>Bool.noConfusion (show false=true from p)
 |.frozenset _,_,_,p,_=>Bool.noConfusion (show false=true from p)
 |.obj _ _,_,_,p,_=>Bool.noConfusion (show false=true from p)
theorem Zn:∀(ds:List WData)(vs:List Value),WellAll P h vs ds->xU ds=true->(∀d∈ds,d.weight<=1048576)->∃A:List Addr,(∀u∈vs,OkU A u)/\∀a∈A,x8 h A a
 |[],_,x,_,_=>by
  cases x
  exact⟨[],λu m=>absurd m (by simp),λa m=>absurd m (by simp)⟩
 |d::ds,_,x,p,z=>by
  obtain⟨v,vs,rfl,x1,x2⟩:=Wb x
  have q:plW d=true/\xU ds=true:=Bool.and_eq_true_iff.mp p
  obtain⟨A,a1,a2⟩:=zf6 d v x1 q.1 (z d (List.mem_cons_self ..))
  obtain⟨B,b1,b2⟩:=Zn ds vs x2 q.2 λe he=>z e (List.mem_cons_of_mem _ he)
  have kA:∀b∈A,b∈A++B:=λb hb=>List.mem_append.mpr (.inl hb)
  have kB:∀b∈B,b∈A++B:=λb hb=>List.mem_append.mpr (.inr hb)
  refine⟨A++B,λu hu=>?_,λb hb=>?_⟩
  .rcases List.mem_cons.mp hu with e|m
   .rw[e]
    exact a1.mono kA
   .exact(b1 u m).mono kB
  .rcases List.mem_append.mp hb with m|m
   .exact(a2 b m).mono kA
   .exact(b2 b m).mono kB
end
end
def kR(o:Obj):Option HO:=match o.data with
 |.seq vs _=>if (o.cls == Value.type "list")=true then some (.frz o (.lst (vs.toList.map toV))) else some (.frz o (.tup (vs.toList.map toV)))
 |_=>none
def yU(K:PySem.W.Frag)(h:Heap)(A:List Addr):Hp:=λb=>if b∈A then (if (K.lookup b).isNone=true then (h.get? b).bind kR else none) else none
def jT(H:Hp):Prop:=∀b,H b=none∨∃o u,H b=some (.frz o u)
theorem J6(vs:List Value):kR { cls:=.type "list",data:=.seq vs.toArray }=some (.frz { cls:=.type "list",data:=.seq vs.toArray } (.lst (vs.map toV))):=by
 show(if (Value.type "list" == Value.type "list")=true then some (HO.frz { cls:=.type "list",data:=.seq vs.toArray } (.lst (vs.toArray.toList.map toV))) else some (HO.frz { cls:=.type "list",data:=.seq vs.toArray } (.tup (vs.toArray.toList.map toV))))=_
 rw[if_pos (beq_self_eq_true _)]
theorem J5(vs:List Value):kR { cls:=.type "tuple",data:=.seq vs.toArray }=some (.frz { cls:=.type "tuple",data:=.seq vs.toArray } (.tup (vs.map toV))):=by
 show(if (Value.type "tuple" == Value.type "list")=true then some (HO.frz { cls:=.type "tuple",data:=.seq vs.toArray } (.lst (vs.toArray.toList.map toV))) else some (HO.frz { cls:=.type "tuple",data:=.seq vs.toArray } (.tup (vs.toArray.toList.map toV))))=_
 rw[if_neg (by decide)]
section
variable{P:Program}{w:World}{K:PySem.W.Frag}{h:Heap}{A:List Addr}
theorem Zm{b:Addr}{o:Obj}(hb:b∈A)(hk:K.lookup b=none)(e:h.get? b=some o):yU K h A b=kR o:=by
 unfold yU
 rw[if_pos hb,hk,if_pos (show(none:Option Obj).isNone=true from rfl),e]<;>rfl
theorem zdo{b:Addr}{u:HO}(q:yU K h A b=some u):b∈A/\K.lookup b=none:=by
 unfold yU at q
 by_cases hb:b∈A
 .rw[if_pos hb] at q
  cases hk:K.lookup b with
  |none=>exact⟨hb,rfl⟩
  |some o=>
   rw[hk,if_neg (by simp)] at q
   cases q
 .rw[if_neg hb] at q
  cases q
theorem Zl(ar:∀a∈A,x8 h A a){b:Addr}{u:HO}(q:yU K h A b=some u):K.lookup b=none/\∃vs:List Value,vs.length<=sizeLine/\(∀u∈vs,OkU A u) /\
  ((h.get? b=some { cls:=.type "list",data:=.seq vs.toArray }/\u=.frz { cls:=.type "list",data:=.seq vs.toArray } (.lst (vs.map toV))) ∨
   (h.get? b=some { cls:=.type "tuple",data:=.seq vs.toArray }/\u=.frz { cls:=.type "tuple",data:=.seq vs.toArray } (.tup (vs.map toV)))):=by
 obtain⟨hb,hk⟩:=zdo q
 obtain⟨vs,h1,h2,h3⟩:=ar b hb
 refine⟨hk,vs,h1,h2,?_⟩
 rcases h3 with e|e
 .rw[Zm hb hk e,J6] at q
  exact .inl ⟨e,(Option.some.inj q).symm⟩
 .rw[Zm hb hk e,J5] at q
  exact .inr ⟨e,(Option.some.inj q).symm⟩
theorem zf4(ar:∀a∈A,x8 h A a):jT (yU K h A):=λb=>by
 cases q:yU K h A b with
 |none=>exact .inl rfl
 |some u=>
  obtain⟨_,vs,_,_,⟨_,e⟩|⟨_,e⟩⟩:=Zl ar q
  .exact .inr ⟨_,_,by rw[e]⟩
  .exact .inr ⟨_,_,by rw[e]⟩
theorem zf5(ar:∀a∈A,x8 h A a):HOk P w (yU K h A) h:=λb u q=>by
 obtain⟨_,vs,h1,h2,⟨e,rfl⟩|⟨e,rfl⟩⟩:=Zl ar q
 .exact⟨e,by rw[List.length_map];exact h1,vs,_,ud h2,e⟩
 .exact⟨e,by rw[List.length_map];exact h1,vs,ud h2,_,e,rfl,_,rfl⟩
theorem qK{c c':Value}{vs us:List Value}(e:(some { cls:=c,data:=.seq vs.toArray }:Option Obj)=some { cls:=c',data:=.seq us.toArray }):c=c'/\vs=us:=by
 have e1:=Option.some.inj e
 have e2:c=c':=congrArg Obj.cls e1
 have e3:Data.seq vs.toArray=Data.seq us.toArray:=congrArg Obj.data e1
 injection e3 with e4
 refine⟨e2,?_⟩
 have e5:=congrArg Array.toList e4
 simpa using e5
theorem zf3(KX:K.In h)(ar:∀a∈A,x8 h A a){a:Addr}{vs:List Value}(ha:a∈A)(e:h.get? a=some { cls:=.type "list",data:=.seq vs.toArray }):(∀u∈vs,OkU A u)/\SqL K (yU K h A) a (vs.map toV):=by
 obtain⟨us,h1,h2,h3⟩:=ar a ha
 have hu:us=vs:=by
  rcases h3 with q|q
  .rw[e] at q
   exact(qK q).2.symm
  .rw[e] at q
   exact absurd (Value.type.inj (qK q).1) (by decide)
 subst hu
 refine⟨h2,?_⟩
 cases hk:K.lookup a with
 |none=>exact .inl (.inr ⟨_,by rw[Zm ha hk e,J6]⟩)
 |some o=>
  have e2:=KX a o hk
  rw[e] at e2
  obtain rfl:=Option.some.inj e2
  exact .inr ⟨_,us.toArray,_,hk,rfl,rfl,rfl,by rw[List.size_toArray];exact h1,by simpa using ud h2⟩
theorem zf2(KX:K.In h)(ar:∀a∈A,x8 h A a){a:Addr}{vs:List Value}(ha:a∈A)(e:h.get? a=some { cls:=.type "tuple",data:=.seq vs.toArray }):(∀u∈vs,OkU A u)/\SqT K (yU K h A) a (vs.map toV):=by
 obtain⟨us,h1,h2,h3⟩:=ar a ha
 have hu:us=vs:=by
  rcases h3 with q|q
  .rw[e] at q
   exact absurd (Value.type.inj (qK q).1) (by decide)
  .rw[e] at q
   exact(qK q).2.symm
 subst hu
 refine⟨h2,?_⟩
 cases hk:K.lookup a with
 |none=>exact .inl (.inr ⟨_,by rw[Zm ha hk e,J5]⟩)
 |some o=>
  have e2:=KX a o hk
  rw[e] at e2
  obtain rfl:=Option.some.inj e2
  exact .inr ⟨_,us.toArray,_,hk,rfl,rfl,by rw[List.size_toArray];exact h1,by simpa using ud h2⟩
mutual
theorem zeN{Pm:Params}(KX:K.In h)(ar:∀a∈A,x8 h A a):∀(d:WData)(v:Value),Well Pm h v d->plW d=true->OkU A v->Dw K (yU K h A) (toV v) d
 |.none,_,x,_,_=>by
  cases x
  exact .non
 |.bool b,_,x,_,_=>by
  cases x
  exact .bl b
 |.int i,_,x,_,_=>by
  cases x
  exact .int i
 |.str s,_,x,_,_=>by
  cases x
  exact .str s
 |.bytes b,_,x,_,_=>by
  cases x
  have z:=Dw.byt (K:=K) (H:=yU K h A) b.toArray
  exact z
 |.list ds,_,x,p,hu=>by
  obtain⟨a,vs,rfl,ho,hall⟩:=Wa x
  obtain⟨h2,hs⟩:=zf3 KX ar hu ho
  exact .lst hs (kX KX ar ds _ hall p h2)
 |.tuple ds,_,x,p,hu=>by
  obtain⟨a,vs,rfl,ho,hall⟩:=X9 x
  obtain⟨h2,hs⟩:=zf2 KX ar hu ho
  exact .tup hs (kX KX ar ds _ hall p h2)
 |.float _,_,_,p,_=>Bool.noConfusion (show false=true from p)
 |.dict _,_,_,p,_=>Bool.noConfusion (show false=true from p)
 |.bytearray _,_,_,p,_=>Bool.noConfusion (show false=true from p)
 |.set _,_,_,p,_=>Bool.noConfusion (show false=true from p)
 |.frozenset _,_,_,p,_=>Bool.noConfusion (show false=true from p)
 |.obj _ _,_,_,p,_=>Bool.noConfusion (show false=true from p)
theorem kX{Pm:Params}(KX:K.In h)(ar:∀a∈A,x8 h A a):∀(ds:List WData)(vs:List Value),WellAll Pm h vs ds->xU ds=true->(∀u∈vs,OkU A u)->x6 K (yU K h A) (vs.map toV) ds
 |[],_,x,_,_=>by
  cases x
  exact .nil
 |d::ds,_,x,p,hu=>by
  obtain⟨v,vs,rfl,x1,x2⟩:=Wb x
  have q:plW d=true/\xU ds=true:=Bool.and_eq_true_iff.mp p
  exact .cons (zeN KX ar d v x1 q.1 (hu _ (List.mem_cons_self ..))) (kX KX ar ds vs x2 q.2 λu m=>hu u (List.mem_cons_of_mem _ m))
end
end
theorem zbs{P:Program}{w:World}{K:PySem.W.Frag}{mg mb:Str->Option Value}{CX:CXT}{k:Nat}{fa:Addr}{fd:FuncData}{ps:List Str}{sp:Sp}{s₁:Shared}{vals:List Value}{ds:List WData}{R:PySem.W.WRecords}{cl:Str->Option Addr}{d0:WData}
  (KX:K.In s₁.heap) (hns:s₁.heap.Ns mainGlobals mg) (hb:s₁.heap.Ns builtinsNs mb) (hbb:∀x:Str,x≠"__name__"->mb x=bootBuiltins x) (hlim:s₁.heap.NoLimit) (hg:s₁.gens=#[])
  (hwl:WellAll w.params s₁.heap vals ds) (hpl:xU ds=true) (hwt:∀d∈ds,d.weight<=1048576) (hr:Room k callerA)
  (F:∀base:Heap,K.In base->base.Ns mainGlobals mg->zB P w K mg base CX k fa fd ps sp) (hbind:∀(s:Shared)(us:List Value),us.length=ps.length->BindsTo s fd ⟨us,[]⟩ (ps.zip us)) (hlen:ds.length=ps.length)
  (hsp:∀(H:Hp)(xs:List V),jT H->x6 K H xs ds->sp xs H (λv H'=>Dw K H' v d0) λ_ _ _=>False)
  (hCX:∀H e s',CX [] H s₁ (λ_ _ _=>False) e s'->False) :
  codeAny (model P w) callerA (.call (.ref fa) ⟨vals,[]⟩) (λr s'=>∃u as,r=.ok (.ret u)/\ReadsW R cl s'.heap u d0 as/\OldK s₁.heap s'.heap/\s'.os=s₁.os/\AllBare s'.gens) s₁:=by
 obtain⟨A,ho,ar⟩:=Zn ds vals hwl hpl hwt
 have hO:jT (yU K s₁.heap A):=zf4 ar
 have hok:HOk P w (yU K s₁.heap A) s₁.heap:=zf5 ar
 have hS:=kX KX ar ds vals hwl hpl ho
 have hV:=ud ho
 have hK:∀b u,yU K s₁.heap A b=some u->K.lookup b=none:=λb u q=>(Zl ar q).1
 have noA:∀{b:Addr}{o:Obj}{es:Array DictEntry}{ep:Nat},s₁.heap.get? b=some o->o.data=.dict es ep->yU K s₁.heap A b=none:=λ{b o es ep} e d=>by
  cases q:yU K s₁.heap A b with
  |none=>rfl
  |some u=>
   obtain⟨_,vs,_,_,⟨e2,_⟩|⟨e2,_⟩⟩:=Zl ar q
   .rw[e2] at e
    cases e
    have d':Data.seq vs.toArray _=Data.dict es ep:=d
    cases d'
   .rw[e2] at e
    cases e
    have d':Data.seq vs.toArray _=Data.dict es ep:=d
    cases d'
 generalize yU K s₁.heap A=H at hO hok hS hK noA
 have base_of:∀{b:Addr}{o:Obj},s₁.heap.get? b=some o->H b=none->(wZ s₁.heap H).get? b=some o:=λe n=>zew e n
 have nsK:∀{b:Addr}{m:Str->Option Value},s₁.heap.Ns b m->(wZ s₁.heap H).Ns b m:=λ{b m} ⟨o,es,ep,e,d,r⟩=>⟨o,es,ep,base_of e (noA e d),d,r⟩
 have nK:∀b o,K.lookup b=some o->H b=none:=λb o e=>by
  cases q:H b with
  |none=>rfl
  |some u=>
   rw[hK b u q] at e
   cases e
 have hKb:K.In (wZ s₁.heap H):=λb o e=>base_of (KX b o e) (nK b o e)
 have hM:Mod K mg (wZ s₁.heap H):=⟨hKb,nsK hns,⟨mb,nsK hb,hbb⟩,let ⟨mc,h1,h2⟩:=hlim;⟨mc,nsK h1,h2⟩⟩
 have e0:Env0 P w K mg (wZ s₁.heap H) callerA [] s₁ H:=⟨rfl,hM,λb o e=>zdn e,Nat.le_of_eq (zev _ _),trivial,λb hb=>absurd (show b∈([]:List Addr) from hb) (by simp),hok,.of_eq hg⟩
 have hl:vals.length=ps.length:=by rw[jY hwl];exact hlen
 refine codeAny_mono ((F _ hKb (nsK hns)).run callerA [] s₁ H ⟨vals,[]⟩ vals (vals.map toV) _ _ hr e0 (hbind s₁ vals hl) hV (hsp H _ hO hS)) λr s' x=>?_
 cases r with
 |error e=>exact(hCX H e s' x).elim
 |ok fl=>
  cases fl with
  |next=>exact False.elim x
  |brk=>exact False.elim x
  |cont=>exact False.elim x
  |ret u=>
   obtain⟨v,H',os,bare,un,hok',r',q⟩:=x
   have kept:∀b o,s₁.heap.get? b=some o->s'.heap.get? b=some o:=λb o e=>by
    cases q2:H b with
    |none=>exact un.keep b o e q2 (by intro z;exact absurd (show b∈([]:List Addr) from z) (by simp)) (by simp)
    |some u2=>
     rcases hO b with z|⟨ob,u3,z⟩
     .rw[q2] at z
      cases z
     .have z2:=un.frzs b ob _ z
      obtain⟨e1,_⟩:=hok b _ z
      obtain⟨e2,_⟩:=hok' b _ z2
      rw[e] at e1
      cases e1
      exact e2
   have KX':K.In s'.heap:=λb o e=>kept b o (KX b o e)
   obtain⟨as,hrd⟩:=Dw.reads (R:=R) (cl:=cl) hok' KX' d0 v u q r'
   exact⟨u,as,rfl,hrd,OldK.of_keep kept,os,bare⟩
theorem zd6{ds:List WData}(h:WData.layableAll ds=true):∀d∈ds,d.weight<=1048576:=λd hd=>
 (PySem.W.layableW_iff.mp (List.all_eq_true.mp h d hd)).2.2
theorem Qi:∀(cs:List Codec)(a:Codec.denoteAll cs),(Codec.encAll cs a).length=cs.length
 |[],_=>rfl
 |c::cs,a=>by
  show(Codec.encAll cs a.2).length+1=cs.length+1
  rw[Qi cs a.2]
theorem zae{r:OpenSpec}{k:Nat}{q:Program}{loose:List Str}{XP:(Str->Option Value)->Heap->Prop}{YP:World->Heap->Prop}{d:DefRec}{K:Params->PySem.W.Frag}{CX:World->CXT}{ps:List Str}{sp:World->Sp}
  (hwell:r.wellSaid=true) (hdf:d.params.defaults=[]) (hlen:r.args.length=ps.length) (hr:Room k callerA)
  (hY:∀(w:World)(h:Heap),YP w h->(K w.params).In h)
  (F:∀(w:World)(mg:Str->Option Value)(fa:Addr)(h:Heap),YP w h->(K w.params).In h->h.Ns mainGlobals mg->mg d.name=some (.ref fa) ->
   ∃fd:FuncData,(∀(s:Shared)(us:List Value),us.length=ps.length->BindsTo s fd ⟨us,[]⟩ (ps.zip us)) /\
    ∀base:Heap,(K w.params).In base->base.Ns mainGlobals mg->zB r.prog w (K w.params) mg base (CX w) k fa fd ps (sp w))
  (hsp:∀(w:World)(H:Hp)(xs:List V)(a:Codec.denoteAll r.args),jT H->Codec.withinAll r.args a=true->Codec.app r.args r.asked a=true->x6 (K w.params) H xs (Codec.encAll r.args a) ->
   sp w xs H (λv H'=>Dw (K w.params) H' v (r.ret.enc (Codec.app r.args r.f a))) λ_ _ _=>False)
  (hCX:∀(w:World)(H:Hp)(s:Shared)(e:Value)(s':Shared),CX w [] H s (λ_ _ _=>False) e s'->False) :
  PySem.W.WalkOS q loose XP YP r d [] (λf vs=>PySem.call f vs):=by
 intro w s_0 s₁ mg mb G Y fa o pm cd doc dV kV ho hd hcd hD hmg hg args vals as hpre hlay hrd hwl hlo
 obtain⟨a,e1,e2⟩:=PySem.W.os_pre_some hpre
 obtain⟨e3,hwi⟩:=Codec.encAll_of_decAll r.args args a e1
 subst e3
 have KX:=hY w _ Y
 obtain⟨fd,hb,hF⟩:=F w mg fa _ Y KX G.T.g hmg
 refine PySem.W.enter_call (codeAny_mono (zbs (R:=[]) (cl:=classAt s_0.heap) (d0:=r.ret.enc (Codec.app r.args r.f a)) KX G.T.g G.T.b G.T.builtins G.T.nolimit hg hwl (VG _ _) (zd6 hlay) hr hF hb (by rw[Qi];exact hlen)
  (λH xs hO hS=>hsp w H xs a hO hwi e2 hS) λH e s'=>hCX w H s₁ e s') λr' s' hq=>?_)
 obtain⟨u,as',rfl,h1,h2,h3,h4⟩:=hq
 exact⟨.inl ⟨u,_,as',rfl,λ_=>rfl,h1,(OpenSpec.post_iff hwell hwi _ _).mpr rfl,λz=>Bool.noConfusion (show false=true from z)⟩,h2,h3,h4⟩
theorem zad{r:OpenSpec}{k:Nat}{q:Program}{loose:List Str}{XP:(Str->Option Value)->Heap->Prop}{YP:World->Heap->Prop}{d:DefRec}{K:Params->PySem.W.Frag}{CX:CXT}{ps:List Str}{sp:PySem.W.Frag->Sp}
  (hwell:r.wellSaid=true) (hdf:d.params.defaults=[]) (hlen:r.args.length=ps.length) (hr:Room k callerA)
  (hY:∀(w:World)(h:Heap),YP w h->(K w.params).In h)
  (F:∀(w:World)(mg:Str->Option Value)(fa:Addr)(h:Heap),YP w h->(K w.params).In h->h.Ns mainGlobals mg->mg d.name=some (.ref fa) ->
   ∃fd:FuncData,(∀(s:Shared)(us:List Value),us.length=ps.length->BindsTo s fd ⟨us,[]⟩ (ps.zip us)) /\
    ∀base:Heap,(K w.params).In base->base.Ns mainGlobals mg->zB r.prog w (K w.params) mg base CX k fa fd ps (sp (K w.params)))
  (hsp:∀(K:PySem.W.Frag)(H:Hp)(xs:List V)(a:Codec.denoteAll r.args),jT H->Codec.withinAll r.args a=true->Codec.app r.args r.asked a=true->x6 K H xs (Codec.encAll r.args a) ->
   sp K xs H (λv H'=>Dw K H' v (r.ret.enc (Codec.app r.args r.f a))) λ_ _ _=>False)
  (hCX:∀(H:Hp)(s:Shared)(e:Value)(s':Shared),CX [] H s (λ_ _ _=>False) e s'->False) :
  PySem.W.WalkOS q loose XP YP r d [] (λf vs=>PySem.call f vs) :=
 zae (K:=K) (CX:=λ_=>CX) (sp:=λw=>sp (K w.params)) hwell hdf hlen hr hY F (λw H xs a h1 h2 h3 h4=>hsp (K w.params) H xs a h1 h2 h3 h4) λ_ H s e s'=>hCX H s e s'
end L2
end
section
set_option autoImplicit false
set_option linter.all false
namespace GP
open Md07
section lists
variable{α:Type} [BEq α] [LawfulBEq α]
theorem xW:∀{l₁ l₂:List α},l₁.Nodup->(∀x,x∈l₁->x∈l₂)->l₁.length<=l₂.length
 |[],_,_,_=>Nat.zero_le _
 |a::t,l₂,h,s=>by
  have ha:a∈l₂:=s a (List.mem_cons_self)
  have h':=List.nodup_cons.mp h
  have st:∀x,x∈t->x∈l₂.erase a:=λx hx=>by
   have hne:x≠a:=λe=>h'.1 (e ▸ hx)
   exact(List.mem_erase_of_ne hne).mpr (s x (List.mem_cons_of_mem _ hx))
  have:=xW h'.2 st
  rw[List.length_erase_of_mem ha] at this
  have hl:0<l₂.length:=List.length_pos_of_mem ha
  simp only[List.length_cons];omega
theorem uq:∀{l₁ l₂:List α},l₁.Nodup->(∀x,x∈l₁->x∈l₂)->l₂.length<=l₁.length->l₁.Perm l₂
 |[],l₂,_,_,hl=>by
  have:l₂=[]:=List.length_eq_zero_iff.mp (by simpa using hl)
  subst this;exact List.Perm.refl _
 |a::t,l₂,h,s,hl=>by
  have ha:a∈l₂:=s a (List.mem_cons_self)
  have h':=List.nodup_cons.mp h
  have st:∀x,x∈t->x∈l₂.erase a:=λx hx=>by
   have hne:x≠a:=λe=>h'.1 (e ▸ hx)
   exact(List.mem_erase_of_ne hne).mpr (s x (List.mem_cons_of_mem _ hx))
  have hp:=uq h'.2 st (by rw[List.length_erase_of_mem ha];simp only[List.length_cons] at hl;omega)
  exact(List.Perm.cons a hp).trans (List.perm_cons_erase ha).symm
theorem YO{l₁ l₂:List α}(h₁:l₁.Nodup)(h₂:l₂.Nodup)(s:∀x,x∈l₁↔x∈l₂):l₁.Perm l₂ :=
 uq h₁ (λx h=>(s x).mp h) (xW h₂ λx h=>(s x).mpr h)
end lists
def Pm(n:Nat)(p:Row):Prop:=p.length=n/\∀i,i<n->i∈p
theorem xY{n:Nat}{p:Row}:isPerm n p=true↔Pm n p:=by
 unfold isPerm Pm
 rw[Bool.and_eq_true,beq_iff_eq,List.all_eq_true]
 constructor
 .rintro ⟨a,b⟩
  exact⟨a,λi hi=>by have:=b i (List.mem_range.mpr hi);exact List.contains_iff_mem.mp this⟩
 .rintro ⟨a,b⟩
  exact⟨a,λi hi=>List.contains_iff_mem.mpr (b i (List.mem_range.mp hi))⟩
theorem Pm.perm{n:Nat}{p:Row}(h:Pm n p):(List.range n).Perm p :=
 uq List.nodup_range (λx hx=>h.2 x (List.mem_range.mp hx)) (by rw[h.1,List.length_range];exact Nat.le_refl _)
theorem Pm.nodup{n:Nat}{p:Row}(h:Pm n p):p.Nodup:=h.perm.nodup_iff.mp List.nodup_range
theorem Pm.lt{n:Nat}{p:Row}(h:Pm n p){x:Nat}(hx:x∈p):x<n:=List.mem_range.mp (h.perm.mem_iff.mpr hx)
theorem Pm.of_nodup{n:Nat}{p:Row}(hl:p.length=n)(nd:p.Nodup)(lt:∀x,x∈p->x<n):Pm n p :=
 ⟨hl,λi hi=>((uq nd (λx hx=>List.mem_range.mpr (lt x hx)) (by rw[hl,List.length_range];exact Nat.le_refl _)).mem_iff (a:=i)).mpr (List.mem_range.mpr hi)⟩
theorem yk{p:Row}{i:Nat}(h:i<p.length):at_ p i=p[i]:=by
 unfold at_;rw[List.getD_eq_getElem?_getD,List.getElem?_eq_getElem h];rfl
theorem jR{p:Row}{i:Nat}(h:i<p.length):at_ p i∈p:=by rw[yk h];exact List.getElem_mem h
theorem Pm.at_lt{n:Nat}{p:Row}(h:Pm n p){i:Nat}(hi:i<n):at_ p i<n:=h.lt (jR (by rw[h.1];exact hi))
theorem Pm.at_inj{n:Nat}{p:Row}(h:Pm n p){i j:Nat}(hi:i<n)(hj:j<n)(e:at_ p i=at_ p j):i=j:=by
 have h1:i<p.length:=by rw[h.1];exact hi
 have h2:j<p.length:=by rw[h.1];exact hj
 rw[yk h1,yk h2] at e
 have nd:=List.pairwise_iff_getElem.mp (List.nodup_iff_pairwise_ne.mp h.nodup)
 rcases Nat.lt_trichotomy i j with hlt|heq|hgt
 .exact absurd e (nd i j h1 h2 hlt)
 .exact heq
 .exact absurd e.symm (nd j i h2 h1 hgt)
theorem Pm.at_surj{n:Nat}{p:Row}(h:Pm n p){j:Nat}(hj:j<n):∃i,i<n/\at_ p i=j:=by
 obtain⟨i,hi,e⟩:=List.getElem_of_mem (h.2 j hj)
 exact⟨i,by rw[<- h.1];exact hi,by rw[yk hi];exact e⟩
theorem xR{n:Nat}{p q:Row}(hp:p.length=n)(hq:q.length=n)(e:∀i,i<n->at_ p i=at_ q i):p=q:=by
 apply List.ext_getElem (by rw[hp,hq])
 intro i h1 h2
 have:=e i (by rw[<- hp];exact h1)
 rwa [yk h1,yk h2] at this
theorem Pm.of_at{n:Nat}{p:Row}(hl:p.length=n)(lt:∀i,i<n->at_ p i<n)(inj:∀i j,i<n->j<n->at_ p i=at_ p j->i=j):Pm n p:=by
 apply Pm.of_nodup hl
 .rw[List.nodup_iff_pairwise_ne,List.pairwise_iff_getElem]
  intro i j hi hj hij e
  have:=inj i j (by omega) (by omega) (by rw[yk hi,yk hj];exact e)
  omega
 .intro x hx
  obtain⟨i,hi,e⟩:=List.getElem_of_mem hx
  have:=lt i (by omega)
  rw[yk hi,e] at this;exact this
theorem yf{p q:Row}:(then_ p q).length=p.length:=by unfold then_;rw[List.length_map]
theorem zJ{p q:Row}{i:Nat}(h:i<p.length):at_ (then_ p q) i=at_ q (at_ p i):=by
 rw[yk (by rw[yf];exact h),yk h];unfold then_;rw[List.getElem_map]
theorem wo{n:Nat}:(none_ n).length=n:=by unfold none_;exact List.length_range
theorem at_none{n i:Nat}(h:i<n):at_ (none_ n) i=i:=by
 rw[yk (by rw[wo];exact h)];unfold none_;exact List.getElem_range _
theorem Pm.none{n:Nat}:Pm n (none_ n):=⟨wo,λi hi=>List.mem_range.mpr hi⟩
theorem Pm.then{n:Nat}{p q:Row}(hp:Pm n p)(hq:Pm n q):Pm n (then_ p q):=by
 apply Pm.of_at (by rw[yf,hp.1])
 .intro i hi
  rw[zJ (by rw[hp.1];exact hi)];exact hq.at_lt (hp.at_lt hi)
 .intro i j hi hj e
  rw[zJ (by rw[hp.1];exact hi),zJ (by rw[hp.1];exact hj)] at e
  exact hp.at_inj hi hj (hq.at_inj (hp.at_lt hi) (hp.at_lt hj) e)
theorem yz{n:Nat}{p q r:Row}(hp:Pm n p)(hq:Pm n q):then_ (then_ p q) r=then_ p (then_ q r):=by
 apply xR (n:=n) (by rw[yf,yf,hp.1]) (by rw[yf,hp.1])
 intro i hi
 rw[zJ (by rw[yf,hp.1];exact hi),zJ (by rw[hp.1];exact hi),zJ (by rw[hp.1];exact hi),zJ (by rw[hq.1];exact hp.at_lt hi)]
theorem yL{n:Nat}{p:Row}(hp:Pm n p):then_ p (none_ n)=p:=by
 apply xR (n:=n) (by rw[yf,hp.1]) hp.1
 intro i hi
 rw[zJ (by rw[hp.1];exact hi),at_none (hp.at_lt hi)]
theorem wn{n:Nat}{p:Row}(hp:Pm n p):then_ (none_ n) p=p:=by
 apply xR (n:=n) (by rw[yf,wo]) hp.1
 intro i hi
 rw[zJ (by rw[wo];exact hi),at_none hi]
def inv(p:Row):Row:=(List.range p.length).map λj=>p.idxOf j
theorem vw{p:Row}:(inv p).length=p.length:=by unfold inv;rw[List.length_map,List.length_range]
theorem yK{n:Nat}{p:Row}(hp:Pm n p){i:Nat}(hi:i<n):at_ (inv p) (at_ p i)=i:=by
 have h1:i<p.length:=by rw[hp.1];exact hi
 rw[yk (by rw[vw,hp.1];exact hp.at_lt hi)]
 unfold inv
 rw[List.getElem_map,List.getElem_range]
 rw[yk h1]
 exact List.Nodup.idxOf_getElem hp.nodup i h1
theorem jS{n:Nat}{p:Row}(hp:Pm n p){j:Nat}(hj:j<n):at_ p (at_ (inv p) j)=j:=by
 obtain⟨i,hi,e⟩:=hp.at_surj hj
 rw[<- e,yK hp hi]
theorem Pm.inv{n:Nat}{p:Row}(hp:Pm n p):Pm n (inv p):=by
 apply Pm.of_at (by rw[vw,hp.1])
 .intro j hj
  obtain⟨i,hi,e⟩:=hp.at_surj hj
  rw[<- e,yK hp hi];exact hi
 .intro i j hi hj e
  have h1:=jS hp hi
  rw[e,jS hp hj] at h1;exact h1.symm
theorem Zu{n:Nat}{p:Row}(hp:Pm n p):then_ p (inv p)=none_ n:=by
 apply xR (n:=n) (by rw[yf,hp.1]) wo
 intro i hi
 rw[zJ (by rw[hp.1];exact hi),yK hp hi,at_none hi]
theorem uL{n:Nat}{p:Row}(hp:Pm n p):then_ (inv p) p=none_ n:=by
 apply xR (n:=n) (by rw[yf,vw,hp.1]) wo
 intro i hi
 rw[zJ (by rw[vw,hp.1];exact hi),jS hp hi,at_none hi]
theorem jZ{n:Nat}{p q r:Row}(hp:Pm n p)(hq:Pm n q)(hr:Pm n r)(e:then_ p r=then_ q r):p=q:=by
 have:=congrArg (λx=>then_ x (GP.inv r)) e
 simp only[yz hp hr,yz hq hr,Zu hr,yL hp,yL hq] at this
 exact this
theorem Wi{n:Nat}{p q r:Row}(hp:Pm n p)(hq:Pm n q)(hr:Pm n r)(e:then_ r p=then_ r q):p=q:=by
 have:=congrArg (λx=>then_ (GP.inv r) x) e
 simp only[<- yz hr.inv hr,uL hr,wn hp,wn hq] at this
 exact this
theorem JY{n:Nat}{p q:Row}(hp:Pm n p)(hq:Pm n q)(e:then_ p q=none_ n):q=GP.inv p:=by
 apply Wi hq hp.inv hp
 rw[e,Zu hp]
def yH(kin:Nat->Nat):Nat->Nat
 |0=>1
 |m+1=>yH kin m*((List.range (m+1)).filter λj=>kin j == kin m).length
def uU(kin:Nat->Nat):Nat->List Nat->List Row
 |0,_=>[[]]
 |m+1,S=>(S.filter λv=>kin v == kin m).flatMap λv=>(uU kin m (S.erase v)).map λr=>r++[v]
theorem XF{α β:Type}(f:α->List β)(c:Nat):∀(l:List α),(∀x,x∈l->(f x).length=c)->(l.flatMap f).length=l.length*c
 |[],_=>by simp
 |a::t,h=>by
  rw[List.flatMap_cons,List.length_append,XF f c t (λx hx=>h x (List.mem_cons_of_mem _ hx)),h a List.mem_cons_self,List.length_cons,Nat.succ_mul,Nat.add_comm]
theorem zeH{S:List Nat}(P:Nat->Bool){v:Nat}(hv:v∈S):((S.erase v).filter P).length+(if P v then 1 else 0)=(S.filter P).length:=by
 have:=(List.perm_cons_erase hv).filter P
 rw[this.length_eq,List.filter_cons]
 split<;>simp
theorem Q1(kin:Nat->Nat):∀(m:Nat)(S:List Nat),(∀c,(S.filter λv=>kin v == c).length=((List.range m).filter λj=>kin j == c).length)->(uU kin m S).length=yH kin m
 |0,_,_=>rfl
 |m+1,S,h=>by
  unfold uU yH
  rw[XF _ (yH kin m),h (kin m),Nat.mul_comm]
  intro v hv
  rw[List.length_map]
  apply Q1
  intro c
  have hvS:=(List.mem_filter.mp hv)
  have e1:=zeH (λv=>kin v == c) hvS.1
  have e2:=h c
  rw[List.range_succ,List.filter_append,List.length_append] at e2
  have e3:kin v=kin m:=by simpa using hvS.2
  have e4:(List.filter (λj=>kin j == c) [m]).length=if kin m == c then 1 else 0:=by
   rw[List.filter_cons];split<;>simp
  rw[e4] at e2
  simp only[e3] at e1
  omega
theorem Jp(kin:Nat->Nat):∀(m:Nat)(S:List Nat)(r:Row),r.length=m->r.Nodup->(∀x,x∈r->x∈S)->(∀i,i<m->kin (at_ r i)=kin i)->r∈uU kin m S
 |0,S,r,hl,_,_,_=>by
  have:r=[]:=List.length_eq_zero_iff.mp hl
  subst this;unfold uU;exact List.mem_singleton.mpr rfl
 |m+1,S,r,hl,nd,sub,hk=>by
  have hne:r≠[]:=by intro e;subst e;simp at hl
  have er:r=r.dropLast++[r.getLast hne]:=(List.dropLast_concat_getLast hne).symm
  generalize hv:r.getLast hne=v at er
  generalize hd:r.dropLast=d at er
  have dl:d.length=m:=by rw[<- hd,List.length_dropLast,hl];rfl
  unfold uU
  rw[List.mem_flatMap]
  subst er
  have nd':=List.nodup_append.mp nd
  have hvd:v∉d:=λh=>nd'.2.2 v h v (List.mem_singleton.mpr rfl) rfl
  have av:at_ (d++[v]) m=v:=by
   rw[yk (by rw[List.length_append,dl];simp)]
   simp[List.getElem_append,dl]
  refine⟨v,List.mem_filter.mpr ⟨sub v (List.mem_append_right _ (List.mem_singleton.mpr rfl)),?_⟩,List.mem_map.mpr ⟨d,?_,rfl⟩⟩
  .have:=hk m (Nat.lt_succ_self m)
   rw[av] at this;simp[this]
  .apply Jp kin m (S.erase v) d dl nd'.1
   .intro x hx
    have hxv:x≠v:=λe=>hvd (e ▸ hx)
    exact(List.mem_erase_of_ne hxv).mpr (sub x (List.mem_append_left _ hx))
   .intro i hi
    have:=hk i (Nat.lt_succ_of_lt hi)
    have e2:at_ (d++[v]) i=at_ d i:=by
     rw[yk (by rw[List.length_append,dl];simp;omega),yk (by omega)]
     exact List.getElem_append_left (by omega)
    rwa [e2] at this
theorem Xn{n:Nat}(kin:Nat->Nat)(L:List Row)(nd:L.Nodup)(h:∀p,p∈L->Pm n p/\∀i,i<n->kin (at_ p i)=kin i):L.length<=yH kin n:=by
 rw[<- Q1 kin n (List.range n) (λ_=>rfl)]
 apply xW nd
 intro p hp
 obtain⟨pm,hk⟩:=h p hp
 exact Jp kin n _ p pm.1 pm.nodup (λx hx=>List.mem_range.mpr (pm.lt hx)) hk
theorem Jo:∀n,yH (λ_=>0) n=factorial n
 |0=>rfl
 |n+1=>by
  unfold yH factorial
  rw[Jo n]
  have:((List.range (n+1)).filter λ_=>(0:Nat) == 0)=List.range (n+1):=List.filter_eq_self.mpr (λ_ _=>rfl)
  rw[this,List.length_range,Nat.mul_comm]
theorem YQ{n:Nat}(L:List Row)(nd:L.Nodup)(h:∀p,p∈L->Pm n p):L.length<=factorial n:=by
 rw[<- Jo]
 exact Xn (λ_=>0) L nd λp hp=>⟨h p hp,λ_ _=>rfl⟩
end GP
end
section
set_option autoImplicit false
set_option linter.all false
namespace GP
open Md07
theorem Made.perm{n:Nat}{s:List Row}(hs:∀p,p∈s->Pm n p){p:Row}(h:Made n s p):Pm n p:=by
 induction h with
 |none_=>exact Pm.none
 |more _ hq ih=>exact ih.then (hs _ hq)
theorem Made.gen{n:Nat}{s:List Row}(hs:∀p,p∈s->Pm n p){p:Row}(h:p∈s):Made n s p:=by
 have:=Made.more (n:=n) (s:=s) Made.none_ h
 rwa [wn (hs p h)] at this
theorem Made.mul{n:Nat}{s:List Row}(hs:∀p,p∈s->Pm n p){p q:Row}(hp:Made n s p)(hq:Made n s q):Made n s (then_ p q):=by
 induction hq with
 |none_=>rw[yL (Made.perm hs hp)];exact hp
 |more h1 h2 ih=>
  rw[<- yz (Made.perm hs hp) (Made.perm hs h1)]
  exact Made.more ih h2
theorem Made.mono{n:Nat}{s t:List Row}(ht:∀p,p∈t->Pm n p)(h:∀p,p∈s->Made n t p){p:Row}(hp:Made n s p):Made n t p:=by
 induction hp with
 |none_=>exact Made.none_
 |more _ h2 ih=>exact Made.mul ht ih (h _ h2)
theorem Made.sub{n:Nat}{s:List Row}{M:Row->Prop}(h1:M (none_ n))(h2:∀p q,M p->q∈s->M (then_ p q)){p:Row}(h:Made n s p):M p:=by
 induction h with
 |none_=>exact h1
 |more _ hq ih=>exact h2 _ _ ih hq
theorem zdE{gens all:List Row}{p r:Row}:r∈((gens.map λ(q:Row)=>then_ p q).filter λ(r:Row)=>!all.contains r).eraseDups↔(∃q,q∈gens/\then_ p q=r)/\r∉all:=by
 rw[List.mem_eraseDups,List.mem_filter,List.mem_map]
 simp
theorem XH{α:Type} [BEq α] [LawfulBEq α]:∀(k:Nat)(l:List α),l.length<=k->l.eraseDups.Nodup
 |_,[],_=>by simp
 |0,a::t,h=>by simp at h
 |k+1,a::t,h=>by
  rw[List.eraseDups_cons,List.nodup_cons]
  refine⟨?_,XH k _ ?_⟩
  .rw[List.mem_eraseDups,List.mem_filter]
   rintro ⟨_,h2⟩
   simp at h2
  .exact Nat.le_trans (List.length_filter_le _ _) (by simpa using h)
theorem Qw{n:Nat}{gens:List Row}(hg:∀p,p∈gens->Pm n p):∀(f:Nat)(all todo:List Row),all.Nodup->(∀p,p∈todo->p∈all)->(∀p,p∈all->Made n gens p)->none_ n∈all ->
  (∀p q,p∈all->p∉todo->q∈gens->then_ p q∈all)->factorial n+todo.length<f+all.length ->
  (closed gens f all todo).Nodup/\∀p,p∈closed gens f all todo↔Made n gens p
 |0,all,todo,nd,sub,made,one,cl,fuel=>by
  exfalso
  have:=YQ all nd (λp hp=>Made.perm hg (made p hp))
  omega
 |f+1,all,[],nd,sub,made,one,cl,fuel=>by
  unfold closed
  refine⟨nd,λp=>⟨made p,λh=>?_⟩⟩
  exact Made.sub (M:=λr=>r∈all) one (λp q hp hq=>cl p q hp (List.not_mem_nil) hq) h
 |f+1,all,p::todo,nd,sub,made,one,cl,fuel=>by
  unfold closed
  generalize hnew:((gens.map λ(q:Row)=>then_ p q).filter λ(r:Row)=>!all.contains r).eraseDups=new
  have hm:∀r,r∈new↔(∃q,q∈gens/\then_ p q=r)/\r∉all:=λr=>by rw[<- hnew];exact zdE
  have ndn:new.Nodup:=by rw[<- hnew];exact XH _ _ (Nat.le_refl _)
  have hp:p∈all:=sub p List.mem_cons_self
  apply Qw hg f (all++new) (todo++new)
  .rw[List.nodup_append]
   refine⟨nd,ndn,λa ha b hb e=>?_⟩
   subst e
   exact((hm a).mp hb).2 ha
  .intro r hr
   rcases List.mem_append.mp hr with h|h
   .exact List.mem_append_left _ (sub r (List.mem_cons_of_mem _ h))
   .exact List.mem_append_right _ h
  .intro r hr
   rcases List.mem_append.mp hr with h|h
   .exact made r h
   .obtain⟨⟨q,hq,e⟩,_⟩:=(hm r).mp h
    rw[<- e]
    exact Made.more (made p hp) hq
  .exact List.mem_append_left _ one
  .intro a q ha hat hq
   have hat1:a∉todo:=λh=>hat (List.mem_append_left _ h)
   have hat2:a∉new:=λh=>hat (List.mem_append_right _ h)
   have ha':a∈all:=by
    rcases List.mem_append.mp ha with h|h
    .exact h
    .exact absurd h hat2
   by_cases e:a=p
   .subst e
    by_cases hin:then_ a q∈all
    .exact List.mem_append_left _ hin
    .exact List.mem_append_right _ ((hm _).mpr ⟨⟨q,hq,rfl⟩,hin⟩)
   .apply List.mem_append_left
    apply cl a q ha' _ hq
    intro h
    rcases List.mem_cons.mp h with h|h
    .exact e h
    .exact hat1 h
  .simp only[List.length_append,List.length_cons] at *
   omega
theorem xX{n:Nat}{gens:List Row}(hg:∀p,p∈gens->Pm n p):(made n gens).Nodup/\∀p,p∈made n gens↔Made n gens p:=by
 unfold made
 apply Qw hg
 .simp
 .intro p h;exact h
 .intro p h
  rw[List.mem_singleton] at h
  subst h;exact Made.none_
 .exact List.mem_singleton.mpr rfl
 .intro p q h1 h2;exact absurd h1 h2
 .simp
structure Grp(n:Nat)(g:List Row):Prop where
 nd:g.Nodup
 pm:∀p,p∈g->Pm n p
 one:none_ n∈g
 mul:∀p q,p∈g->q∈g->then_ p q∈g
theorem Grp.invr{n:Nat}{g:List Row}(G:Grp n g){p:Row}(hp:p∈g):inv p∈g:=by
 have nd:(g.map λq=>then_ p q).Nodup:=by
  rw[List.nodup_iff_pairwise_ne,List.pairwise_map]
  apply List.Pairwise.imp_of_mem _ (List.nodup_iff_pairwise_ne.mp G.nd)
  intro a b ha hb hab e
  exact hab (Wi (G.pm a ha) (G.pm b hb) (G.pm p hp) e)
 have pe:=uq nd (l₂:=g) (λx hx=>by
  obtain⟨q,hq,e⟩:=List.mem_map.mp hx
  rw[<- e];exact G.mul p q hp hq) (by rw[List.length_map];exact Nat.le_refl _)
 obtain⟨q,hq,e⟩:=List.mem_map.mp (pe.mem_iff.mpr G.one)
 rw[<- JY (G.pm p hp) (G.pm q hq) e]
 exact hq
theorem Grp.of_made{n:Nat}{s:List Row}(hs:∀p,p∈s->Pm n p):Grp n (made n s):=by
 obtain⟨nd,mem⟩:=xX hs
 refine⟨nd,λp h=>Made.perm hs ((mem p).mp h),(mem _).mpr Made.none_,λp q hp hq=>(mem _).mpr (Made.mul hs ((mem p).mp hp) ((mem q).mp hq))⟩
theorem Made.inv{n:Nat}{s:List Row}(hs:∀p,p∈s->Pm n p){p:Row}(h:Made n s p):Made n s (GP.inv p):=by
 obtain⟨nd,mem⟩:=xX hs
 exact(mem _).mp ((Grp.of_made hs).invr ((mem p).mpr h))
structure Good(o:Obj):Prop where
 lo:1<=o.n
 hi:o.n<=34
 gens:∀p,p∈o.gens->Pm o.n p
 nd:o.g.Nodup
 mem:∀p,p∈o.g↔Made o.n o.gens p
theorem Good.grp{o:Obj}(G:Good o):Grp o.n o.g :=
 ⟨G.nd,λp h=>Made.perm G.gens ((G.mem p).mp h),(G.mem _).mpr Made.none_,λp q hp hq=>(G.mem _).mpr (Made.mul G.gens ((G.mem p).mp hp) ((G.mem q).mp hq))⟩
theorem Good.alone{n:Nat}(h1:1<=n)(h2:n<=34):Good (alone n):=by
 refine⟨h1,h2,λp h=>?_,?_,λp=>?_⟩
 .exact absurd h List.not_mem_nil
 .show[none_ n].Nodup;simp
 .show p∈[none_ n]↔Made n [] p
  rw[List.mem_singleton]
  constructor
  .rintro rfl;exact Made.none_
  .intro h
   cases h with
   |none_=>rfl
   |more _ hq=>exact absurd hq List.not_mem_nil
theorem Good.made{n:Nat}{s:List Row}(h1:1<=n)(h2:n<=34)(hs:∀p,p∈s->Pm n p):Good ⟨n,s,made n s⟩ :=
 ⟨h1,h2,hs,(xX hs).1,(xX hs).2⟩
theorem Good.self{n:Nat}{g:List Row}(h1:1<=n)(h2:n<=34)(G:Grp n g):Good ⟨n,g,g⟩:=by
 refine⟨h1,h2,G.pm,G.nd,λp=>⟨λh=>Made.gen G.pm h,λh=>?_⟩⟩
 exact Made.sub (M:=λr=>r∈g) G.one (λp q hp hq=>G.mul p q hp hq) h
theorem Grp.fix{n:Nat}{g:List Row}(G:Grp n g){i:Nat}(hi:i<n):Grp n (g.filter λ(p:Row)=>(at_ p i:Int) == (i:Int)):=by
 have hm:∀p,p∈(g.filter λ(p:Row)=>(at_ p i:Int) == (i:Int))↔p∈g/\at_ p i=i:=λp=>by
  rw[List.mem_filter];simp[Int.ofNat_inj]
 refine⟨G.nd.filter _,λp h=>G.pm p ((hm p).mp h).1,(hm _).mpr ⟨G.one,at_none hi⟩,λp q hp hq=>?_⟩
 obtain⟨p1,p2⟩:=(hm p).mp hp
 obtain⟨q1,q2⟩:=(hm q).mp hq
 refine(hm _).mpr ⟨G.mul p q p1 q1,?_⟩
 rw[zJ (by rw[(G.pm p p1).1];exact hi),p2,q2]
end GP
end
section
set_option autoImplicit false
set_option linter.all false
namespace GP
open Md07
theorem wr{β:Type}{x:Nat}{t:β}:∀{T:List (Nat×β)},T.lookup x=some t->(x,t)∈T
 |[],h=>by simp at h
 |(y,u)::T,h=>by
  rw[List.lookup_cons] at h
  by_cases e:x=y
  .subst e;simp at h;subst h;exact List.mem_cons_self
  .have:(x == y)=false:=by simp[e]
   rw[this] at h
   exact List.mem_cons_of_mem _ (wr h)
theorem yN{β:Type}{x:Nat}{t:β}:∀{T:List (Nat×β)},(T.map Prod.fst).Nodup->(x,t)∈T->T.lookup x=some t
 |[],_,h=>by simp at h
 |(y,u)::T,nd,h=>by
  rw[List.map_cons,List.nodup_cons] at nd
  rw[List.lookup_cons]
  rcases List.mem_cons.mp h with h|h
  .cases h;simp
  .have:x≠y:=λe=>nd.1 (e ▸ List.mem_map.mpr ⟨_,h,rfl⟩)
   have:(x == y)=false:=by simp[this]
   rw[this]
   exact yN nd.2 h
theorem uE{β:Type}{x:Nat}:∀{T:List (Nat×β)},T.lookup x=none↔x∉T.map Prod.fst
 |[]=>by simp
 |(y,u)::T=>by
  rw[List.lookup_cons,List.map_cons,List.mem_cons]
  by_cases e:x=y
  .subst e;simp
  .have:(x == y)=false:=by simp[e]
   rw[this]
   simp only[e,false_or]
   exact uE
theorem jC{β:Type}{x:Nat}{t u:β}{T:List (Nat×β)}(nd:(T.map Prod.fst).Nodup)(h1:(x,t)∈T)(h2:(x,u)∈T):t=u:=by
 have a:=yN nd h1
 have b:=yN nd h2
 rw[a] at b;exact Option.some.inj b
abbrev Tv:=List (Nat×Row)
abbrev Chain:=List (Nat×Tv)
structure WfL(n:Nat)(F:List Nat)(b:Nat)(T:Tv):Prop where
 lt:b<n
 nd:(T.map Prod.fst).Nodup
 one:(b,none_ n)∈T
 pm:∀x t,(x,t)∈T->Pm n t
 fx:∀x t,(x,t)∈T->∀j,j∈F->at_ t j=j
 tk:∀x t,(x,t)∈T->at_ t b=x
theorem WfL.key{n:Nat}{F:List Nat}{b:Nat}{T:Tv}(w:WfL n F b T){x:Nat}{t:Row}(h:(x,t)∈T):x<n:=by
 rw[<- w.tk x t h];exact(w.pm x t h).at_lt w.lt
def WfC(n:Nat):List Nat->Chain->Prop
 |F,[]=>∀x,x<n->x∈F
 |F,(b,T)::rest=>WfL n F b T/\WfC n (b::F) rest
def mems(n:Nat):Chain->List Row
 |[]=>[none_ n]
 |(_,T)::rest=>T.flatMap λxt=>(mems n rest).map λh=>then_ h xt.2
def size:Chain->Nat
 |[]=>1
 |(_,T)::rest=>T.length*size rest
theorem vV(n:Nat):∀C:Chain,(mems n C).length=size C
 |[]=>rfl
 |(_,T)::rest=>by
  unfold mems size
  rw[XF _ (size rest)]
  intro x _
  rw[List.length_map,vV n rest]
theorem yi{n:Nat}{b:Nat}{T:Tv}{rest:Chain}{p:Row}:p∈mems n ((b,T)::rest)↔∃x t h,(x,t)∈T/\h∈mems n rest/\p=then_ h t:=by
 show p∈(T.flatMap λxt=>(mems n rest).map λh=>then_ h xt.2)↔_
 rw[List.mem_flatMap]
 constructor
 .rintro ⟨⟨x,t⟩,h1,h2⟩
  obtain⟨h,h3,h4⟩:=List.mem_map.mp h2
  exact⟨x,t,h,h1,h3,h4.symm⟩
 .rintro ⟨x,t,h,h1,h2,h3⟩
  exact⟨(x,t),h1,List.mem_map.mpr ⟨h,h2,h3.symm⟩⟩
theorem yb{n:Nat}:∀{C:Chain}{F:List Nat},(∀j,j∈F->j<n)->WfC n F C->∀p,p∈mems n C->Pm n p/\∀j,j∈F->at_ p j=j
 |[],F,hF,_,p,h=>by
  have:p=none_ n:=List.mem_singleton.mp h
  subst this
  exact⟨Pm.none,λj hj=>at_none (hF j hj)⟩
 |(b,T)::rest,F,hF,w,p,hp=>by
  obtain⟨x,t,h,h1,h2,rfl⟩:=yi.mp hp
  obtain⟨w1,w2⟩:=w
  have hF':∀j,j∈b::F->j<n:=λj hj=>by
   rcases List.mem_cons.mp hj with e|e
   .rw[e];exact w1.lt
   .exact hF j e
  obtain⟨q1,q2⟩:=yb hF' w2 h h2
  refine⟨q1.then (w1.pm x t h1),λj hj=>?_⟩
  rw[zJ (by rw[q1.1];exact hF j hj),q2 j (List.mem_cons_of_mem _ hj),w1.fx x t h1 j hj]
theorem xb{n b:Nat}{F:List Nat}(hF:∀j,j∈F->j<n)(hb:b<n):∀j,j∈b::F->j<n:=λj hj=>by
 rcases List.mem_cons.mp hj with e|e
 .rw[e];exact hb
 .exact hF j e
theorem vb{n b:Nat}{T:Tv}{rest:Chain}{F:List Nat}(hF:∀j,j∈F->j<n)(w:WfC n F ((b,T)::rest)){x:Nat}{t h:Row}(ht:(x,t)∈T)(hh:h∈mems n rest):at_ (then_ h t) b=x:=by
 obtain⟨q1,q2⟩:=yb (xb hF w.1.lt) w.2 h hh
 rw[zJ (by rw[q1.1];exact w.1.lt),q2 b List.mem_cons_self,w.1.tk x t ht]
theorem Xf{n b:Nat}{T:Tv}{rest:Chain}{F:List Nat}(hF:∀j,j∈F->j<n)(w:WfC n F ((b,T)::rest)){p:Row}(hp:Pm n p):p∈mems n ((b,T)::rest)↔∃t,(at_ p b,t)∈T/\then_ p (inv t)∈mems n rest:=by
 rw[yi]
 constructor
 .rintro ⟨x,t,h,h1,h2,rfl⟩
  have e:=vb hF w h1 h2
  have q1:=(yb (xb hF w.1.lt) w.2 h h2).1
  refine⟨t,by rw[e];exact h1,?_⟩
  rw[yz q1 (w.1.pm x t h1),Zu (w.1.pm x t h1),yL q1]
  exact h2
 .rintro ⟨t,h1,h2⟩
  have pt:=w.1.pm _ t h1
  refine⟨_,t,_,h1,h2,?_⟩
  rw[yz hp pt.inv,uL pt,yL hp]
theorem vU{n:Nat}:∀{C:Chain}{F:List Nat},(∀j,j∈F->j<n)->WfC n F C->(mems n C).Nodup
 |[],F,hF,_=>by unfold mems;simp
 |(b,T)::rest,F,hF,w=>by
  have hF':=xb hF w.1.lt
  have ih:=vU hF' w.2
  unfold mems
  rw[List.nodup_iff_pairwise_ne,List.pairwise_flatMap]
  constructor
  .rintro ⟨x,t⟩ hx
   rw[List.pairwise_map]
   apply List.Pairwise.imp_of_mem _ (List.nodup_iff_pairwise_ne.mp ih)
   intro a c ha hc hac e
   exact hac (jZ (yb hF' w.2 a ha).1 (yb hF' w.2 c hc).1 (w.1.pm x t hx) e)
  .have nd:=w.1.nd
   rw[List.nodup_iff_pairwise_ne,List.pairwise_map] at nd
   apply List.Pairwise.imp_of_mem _ nd
   rintro ⟨x,t⟩ ⟨y,u⟩ hx hy hxy p hp q hq e
   obtain⟨h1,a1,rfl⟩:=List.mem_map.mp hp
   obtain⟨h2,a2,rfl⟩:=List.mem_map.mp hq
   have e1:=vb hF w hx a1
   have e2:=vb hF w hy a2
   have:x=y:=by rw[<- e1,<- e2];exact congrArg (λr=>at_ r b) e
   exact hxy this
theorem jy{n:Nat}:∀{C:Chain}{F:List Nat},WfC n F C->none_ n∈mems n C
 |[],F,_=>List.mem_singleton.mpr rfl
 |(b,T)::rest,F,w=>yi.mpr ⟨b,none_ n,none_ n,w.1.one,jy w.2,(wn Pm.none).symm⟩
theorem vp{n b:Nat}{T:Tv}{rest:Chain}{F:List Nat}(hF:∀j,j∈F->j<n)(w:WfC n F ((b,T)::rest)){p:Row}:p∈mems n rest↔p∈mems n ((b,T)::rest)/\at_ p b=b:=by
 have hF':=xb hF w.1.lt
 constructor
 .intro h
  obtain⟨q1,q2⟩:=yb hF' w.2 p h
  exact⟨yi.mpr ⟨b,none_ n,p,w.1.one,h,(yL q1).symm⟩,q2 b List.mem_cons_self⟩
 .rintro ⟨h0,e⟩
  obtain⟨x,t,h,h1,h2,rfl⟩:=yi.mp h0
  have e2:=vb hF w h1 h2
  rw[e] at e2
  subst e2
  have:=jC w.1.nd h1 w.1.one
  subst this
  rw[yL (yb hF' w.2 h h2).1];exact h2
theorem zdD{n b:Nat}{T:Tv}{rest:Chain}{F:List Nat}(hF:∀j,j∈F->j<n)(w:WfC n F ((b,T)::rest)){p:Row}(h:p∈mems n rest):p∈mems n ((b,T)::rest) :=
 ((vp hF w).mp h).1
theorem jx{n b:Nat}{T:Tv}{rest:Chain}{F:List Nat}(w:WfC n F ((b,T)::rest)){x:Nat}{t:Row}(h:(x,t)∈T):t∈mems n ((b,T)::rest) :=
 yi.mpr ⟨x,t,none_ n,h,jy w.2,(wn (w.1.pm x t h)).symm⟩
def sift:Chain->Row->Bool
 |[],_=>true
 |(b,T)::rest,p=>if at_ p b=b then sift rest p else match T.lookup (at_ p b) with
  |none=>false
  |some t=>sift rest (then_ p (inv t))
theorem vP{n:Nat}:∀{C:Chain}{F:List Nat}{p:Row},(∀j,j∈F->j<n)->WfC n F C->Pm n p->(∀j,j∈F->at_ p j=j)->(sift C p=true↔p∈mems n C)
 |[],F,p,hF,w,hp,hf=>by
  unfold sift mems
  simp only[true_iff]
  rw[List.mem_singleton]
  exact xR hp.1 wo λi hi=>by rw[hf i (w i hi),at_none hi]
 |(b,T)::rest,F,p,hF,w,hp,hf=>by
  have hF':=xb hF w.1.lt
  unfold sift
  by_cases e:at_ p b=b
  .rw[if_pos e,vP hF' w.2 hp (λj hj=>by
    rcases List.mem_cons.mp hj with q|q
    .rw[q];exact e
    .exact hf j q),vp hF w]
   exact⟨λh=>h.1,λh=>⟨h,e⟩⟩
  .rw[if_neg e,Xf hF w hp]
   cases q:T.lookup (at_ p b) with
   |none=>
    simp only[Bool.false_eq_true,false_iff]
    rintro ⟨t,h1,_⟩
    rw[yN w.1.nd h1] at q;cases q
   |some t=>
    have ht:=wr q
    have pt:=w.1.pm _ t ht
    have fixes:∀j,j∈b::F->at_ (then_ p (inv t)) j=j:=λj hj=>by
     rw[zJ (by rw[hp.1];exact hF' j hj)]
     rcases List.mem_cons.mp hj with z|z
     .rw[z]
      have:=yK pt w.1.lt
      rw[w.1.tk _ t ht] at this;exact this
     .rw[hf j z]
      have:=yK pt (hF j z)
      rw[w.1.fx _ t ht j z] at this;exact this
    show sift rest (then_ p (inv t))=true↔_
    rw[vP hF' w.2 (hp.then pt.inv) fixes]
    constructor
    .intro h;exact⟨t,ht,h⟩
    .rintro ⟨u,h1,h2⟩
     rw[jC w.1.nd ht h1];exact h2
theorem zbD{n b:Nat}{T:Tv}{rest:Chain}{F:List Nat}(hF:∀j,j∈F->j<n)(w:WfC n F ((b,T)::rest))(mulH:∀p q,p∈mems n rest->q∈mems n rest->then_ p q∈mems n rest)
  {ms:List Row} (hm:∀m,m∈ms->Pm n m) (res:∀x t m,(x,t)∈T->m∈ms->∃u,(at_ m x,u)∈T/\then_ (then_ t m) (inv u)∈mems n rest) {p m:Row} (hp:p∈mems n ((b,T)::rest)) (hmm:m∈ms):then_ p m∈mems n ((b,T)::rest):=by
 obtain⟨x,t,h,h1,h2,rfl⟩:=yi.mp hp
 obtain⟨u,h3,h4⟩:=res x t m h1 hmm
 have ph:=(yb (xb hF w.1.lt) w.2 h h2).1
 have pt:=w.1.pm x t h1
 have pu:=w.1.pm _ u h3
 have pm:=hm m hmm
 refine yi.mpr ⟨_,u,_,h3,mulH _ _ h2 h4,?_⟩
 rw[yz ph ((pt.then pm).then pu.inv),yz (pt.then pm) pu.inv,uL pu,yL (pt.then pm),yz ph pt]
theorem zdK{n b:Nat}{T:Tv}{rest:Chain}{F:List Nat}(hF:∀j,j∈F->j<n)(w:WfC n F ((b,T)::rest))(mulH:∀p q,p∈mems n rest->q∈mems n rest->then_ p q∈mems n rest)
  {ms:List Row} (hm:∀m,m∈ms->Pm n m) (res:∀x t m,(x,t)∈T->m∈ms->∃u,(at_ m x,u)∈T/\then_ (then_ t m) (inv u)∈mems n rest) {p:Row} (hp:Made n ms p):p∈mems n ((b,T)::rest) :=
 Made.sub (M:=λr=>r∈mems n ((b,T)::rest)) (jy w) (λp q hp hq=>zbD hF w mulH hm res hp hq) hp
end GP
end
section
set_option autoImplicit false
set_option linter.all false
namespace GP
open Md07
theorem uR:∀{q r:Row},q.length=r.length->(before q r=true↔∃i,i<q.length/\(∀j,j<i->at_ q j=at_ r j)/\at_ q i<at_ r i)
 |[],[],_=>by simp[before]
 |[],_::_,h=>by simp at h
 |_::_,[],h=>by simp at h
 |x::a,y::b,h=>by
  have hl:a.length=b.length:=by simpa using h
  unfold before
  rw[Bool.or_eq_true,Bool.and_eq_true,decide_eq_true_iff,beq_iff_eq,uR hl]
  constructor
  .rintro (h|⟨e,i,h1,h2,h3⟩)
   .exact⟨0,by simp,λj hj=>absurd hj (Nat.not_lt_zero _),h⟩
   .refine⟨i+1,by simpa using h1,λj hj=>?_,h3⟩
    cases j with
    |zero=>exact e
    |succ j=>exact h2 j (Nat.lt_of_succ_lt_succ hj)
  .rintro ⟨i,h1,h2,h3⟩
   cases i with
   |zero=>exact .inl h3
   |succ i=>
    refine .inr ⟨h2 0 (Nat.succ_pos _),i,by simpa using h1,λj hj=>h2 (j+1) (Nat.succ_lt_succ hj),h3⟩
theorem v8{q r:Row}{i:Nat}(hl:q.length=r.length)(hi:i<q.length)(ag:∀j,j<i->at_ q j=at_ r j)(h:at_ q i<at_ r i):before q r=true:=(uR hl).mpr ⟨i,hi,ag,h⟩
theorem zft{q r:Row}{i:Nat}(hl:q.length=r.length)(ag:∀j,j<i->at_ q j=at_ r j)(h:at_ r i<at_ q i):before q r=false:=by
 cases e:before q r with
 |false=>rfl
 |true=>
  obtain⟨k,_,h2,h3⟩:=(uR hl).mp e
  rcases Nat.lt_trichotomy k i with a|a|a
  .rw[ag k a] at h3;omega
  .subst a;omega
  .rw[h2 i a] at h;omega
theorem Zi(q:Row):before q q=false:=by
 cases e:before q q with
 |false=>rfl
 |true=>obtain⟨i,_,_,h⟩:=(uR rfl).mp e;omega
theorem XZ{p q r:Row}(h1:p.length=q.length)(h2:q.length=r.length)(a:before p q=true)(b:before q r=true):before p r=true:=by
 obtain⟨i,i1,i2,i3⟩:=(uR h1).mp a
 obtain⟨j,j1,j2,j3⟩:=(uR h2).mp b
 rcases Nat.lt_trichotomy i j with x|x|x
 .exact v8 (h1.trans h2) i1 (λk hk=>by rw[i2 k hk,j2 k (by omega)]) (by rw[<- j2 i x];exact i3)
 .subst x;exact v8 (h1.trans h2) i1 (λk hk=>by rw[i2 k hk,j2 k hk]) (by omega)
 .exact v8 (i:=j) (h1.trans h2) (by omega) (λk hk=>by rw[i2 k (by omega),j2 k hk]) (by rw[i2 j x];exact j3)
theorem Qe:∀(k:Nat){q r:Row},(∃i,i<k/\at_ q i≠at_ r i)->∃i,i<k/\(∀j,j<i->at_ q j=at_ r j)/\at_ q i≠at_ r i
 |0,q,r,⟨i,h,_⟩=>absurd h (Nat.not_lt_zero _)
 |k+1,q,r,⟨i,h,d⟩=>by
  by_cases e:∃i,i<k/\at_ q i≠at_ r i
  .obtain⟨i,a,b,c⟩:=Qe k e
   exact⟨i,by omega,b,c⟩
  .have hi:i=k:=by
    rcases Nat.lt_or_ge i k with z|z
    .exact absurd ⟨i,z,d⟩ e
    .omega
   subst hi
   refine⟨i,by omega,λj hj=>?_,d⟩
   rcases Nat.decEq (at_ q j) (at_ r j) with z|z
   .exact absurd ⟨j,hj,z⟩ e
   .exact z
theorem QL{q r:Row}(hl:q.length=r.length)(hne:q≠r):before q r=true∨before r q=true:=by
 have:∃i,i<q.length/\at_ q i≠at_ r i:=by
  rcases Classical.em (∃i,i<q.length/\at_ q i≠at_ r i) with z|z
  .exact z
  .exfalso;apply hne
   apply xR (n:=q.length) rfl hl.symm
   intro i hi
   rcases Nat.decEq (at_ q i) (at_ r i) with y|y
   .exact absurd ⟨i,hi,y⟩ z
   .exact y
 obtain⟨i,a,b,c⟩:=Qe _ this
 rcases Nat.lt_or_ge (at_ q i) (at_ r i) with z|z
 .exact .inl (v8 hl a b z)
 .exact .inr (v8 hl.symm (by omega) (λj hj=>(b j hj).symm) (by omega))
def tOf(T:Tv)(y:Nat):Row:=(T.lookup y).getD []
theorem vK{T:Tv}(nd:(T.map Prod.fst).Nodup){y:Nat}{t:Row}(h:(y,t)∈T):tOf T y=t:=by
 unfold tOf;rw[yN nd h];rfl
def xo:Chain->Row->Row->Nat
 |[],_,_=>0
 |(b,T)::rest,c,r=>size rest*(T.filter λyt=>decide (at_ c yt.1<at_ r b)).length+xo rest (then_ (tOf T (at_ (inv c) (at_ r b))) c) r
def Std:Nat->Chain->Prop
 |_,[]=>True
 |i,(b,_)::rest=>b=i/\Std (i+1) rest
theorem Wq{A R y0:Nat}{P:Nat×Row->Bool}:∀{T:Tv},y0∉T.map Prod.fst->(T.map λyt=>if P yt then A else if yt.1=y0 then R else 0).sum=A*(T.filter P).length
 |[],_=>by simp
 |(y,t)::T,h=>by
  rw[List.map_cons,List.mem_cons,not_or] at h
  rw[List.map_cons,List.sum_cons,Wq h.2,List.filter_cons]
  have hy:¬(y=y0):=λe=>h.1 e.symm
  simp only[hy,if_false]
  split
  .rw[List.length_cons,Nat.mul_succ,Nat.add_comm]
  .rw[Nat.zero_add]
theorem Wp{A R y0:Nat}{P:Nat×Row->Bool}:∀{T:Tv},(T.map Prod.fst).Nodup->y0∈T.map Prod.fst->(∀t,P (y0,t)=false)->(T.map λyt=>if P yt then A else if yt.1=y0 then R else 0).sum=A*(T.filter P).length+R
 |[],_,h,_=>by simp at h
 |(y,t)::T,nd,h,hP=>by
  rw[List.map_cons,List.nodup_cons] at nd
  rw[List.map_cons,List.mem_cons] at h
  rw[List.map_cons,List.sum_cons,List.filter_cons]
  by_cases e:y=y0
  .subst e
   rw[Wq nd.1,hP t]
   simp only[Bool.false_eq_true,if_false,if_true]
   omega
  .have h':y0∈T.map Prod.fst:=by
    rcases h with z|z
    .exact absurd z.symm e
    .exact z
   rw[Wp nd.2 h' hP]
   simp only[e,if_false]
   split
   .rw[List.length_cons,Nat.mul_succ];omega
   .omega
theorem jz{α:Type}{f g:α->Nat}:∀{l:List α},(∀x,x∈l->f x=g x)->(l.map f).sum=(l.map g).sum
 |[],_=>rfl
 |a::t,h=>by
  rw[List.map_cons,List.map_cons,List.sum_cons,List.sum_cons,h a List.mem_cons_self,jz λx hx=>h x (List.mem_cons_of_mem _ hx)]
theorem zfd{α:Type}{P:α->Bool}{l:List α}(h:∀x,x∈l->P x=true):l.countP P=l.length:=List.countP_eq_length.mpr h
theorem XO{α:Type}{P:α->Bool}{l:List α}(h:∀x,x∈l->P x=false):l.countP P=0:=List.countP_eq_zero.mpr λx hx=>by rw[h x hx];simp
theorem VA{n:Nat}:∀{C:Chain}{i:Nat}{F:List Nat},(∀j,j∈F↔j<i)->i<=n->WfC n F C->Std i C->∀{c h0:Row},Pm n c->h0∈mems n C ->
  (mems n C).countP (λh=>before (then_ h c) (then_ h0 c))=xo C c (then_ h0 c)
 |[],i,F,hF,hi,w,s,c,h0,hc,hh=>by
  have:h0=none_ n:=List.mem_singleton.mp hh
  subst this
  unfold mems xo
  apply XO
  intro x hx
  rw[List.mem_singleton.mp hx,Zi]
 |(b,T)::rest,i,F,hF,hi,w,s,c,h0,hc,hh=>by
  obtain⟨rfl,s'⟩:=s
  have hFn:∀j,j∈F->j<n:=λj hj=>by have:=(hF j).mp hj;omega
  have hFn':=xb hFn w.1.lt
  obtain⟨y0,t0,h1,ht0,hh1,e0⟩:=yi.mp hh
  have p0:=(yb hFn w h0 hh)
  have ph1:=(yb hFn' w.2 h1 hh1)
  have pt0:=w.1.pm _ t0 ht0
  have hy0:y0<n:=w.1.key ht0
  have at0:at_ h0 b=y0:=by rw[e0];exact vb hFn w ht0 hh1
  have rb:at_ (then_ h0 c) b=at_ c y0:=by rw[zJ (by rw[p0.1.1];exact w.1.lt),at0]
  have elem:∀y t h,(y,t)∈T->h∈mems n rest->at_ (then_ (then_ h t) c) b=at_ c y/\(∀j,j<b->at_ (then_ (then_ h t) c) j=at_ (then_ h0 c) j)/\(then_ (then_ h t) c).length=(then_ h0 c).length:=λy t h ht hh'=>by
   have mm:then_ h t∈mems n ((b,T)::rest):=yi.mpr ⟨y,t,h,ht,hh',rfl⟩
   have pp:=yb hFn w _ mm
   refine⟨?_,λj hj=>?_,?_⟩
   .rw[zJ (by rw[pp.1.1];exact w.1.lt),vb hFn w ht hh']
   .rw[zJ (p:=then_ h t) (by rw[pp.1.1];omega),zJ (p:=h0) (by rw[p0.1.1];omega),pp.2 j ((hF j).mpr hj),p0.2 j ((hF j).mpr hj)]
   .rw[yf (p:=then_ h t),yf (p:=h0),pp.1.1,p0.1.1]
  have er:then_ h0 c=then_ h1 (then_ t0 c):=by rw[e0,yz ph1.1 pt0]
  have ih:=VA (C:=rest) (i:=b+1) (F:=b::F) (λj=>by rw[List.mem_cons,hF j];omega) w.1.lt w.2 s' (c:=then_ t0 c) (h0:=h1) (pt0.then hc) hh1
  rw[<- er] at ih
  have e1:tOf T (at_ (inv c) (at_ (then_ h0 c) b))=t0:=by rw[rb,yK hc hy0];exact vK w.1.nd ht0
  unfold xo
  rw[e1,<- ih]
  show List.countP _ (T.flatMap λxt=>(mems n rest).map λh=>then_ h xt.2)=_
  rw[List.countP_flatMap]
  rw[<- Wp (A:=size rest) (y0:=y0) (P:=λyt=>decide (at_ c yt.1<at_ (then_ h0 c) b)) w.1.nd (List.mem_map.mpr ⟨_,ht0,rfl⟩) (λt=>by simp[rb])]
  apply jz
  rintro ⟨y,t⟩ hy
  have hyn:=w.1.key hy
  show List.countP _ (List.map _ _)=_
  rw[List.countP_map]
  by_cases c1:at_ c y<at_ (then_ h0 c) b
  .rw[if_pos (by simpa using c1),zfd,vV]
   intro h hh'
   obtain⟨q1,q2,q3⟩:=elem y t h hy hh'
   exact v8 q3 (by rw[q3,yf,p0.1.1];exact w.1.lt) q2 (by rw[q1];exact c1)
  .rw[if_neg (by simpa using c1)]
   by_cases c2:y=y0
   .rw[if_pos c2]
    subst c2
    have:=jC w.1.nd hy ht0
    subst this
    apply List.countP_congr
    intro h hh'
    show before (then_ (then_ h t) c) _=true↔before (then_ h (then_ t c)) _=true
    rw[yz (yb hFn' w.2 h hh').1 pt0]
   .rw[if_neg c2]
    apply XO
    intro h hh'
    obtain⟨q1,q2,q3⟩:=elem y t h hy hh'
    apply zft q3 q2
    rw[q1]
    rcases Nat.lt_or_ge (at_ (then_ h0 c) b) (at_ c y) with z|z
    .exact z
    .exfalso
     have:at_ c y=at_ c y0:=by rw[<- rb];omega
     exact c2 (hc.at_inj hyn hy0 this)
def srt(l:List Nat):List Nat:=l.foldr insertUp []
theorem Xw(x:Nat):∀l,(insertUp x l).Perm (x::l)
 |[]=>List.Perm.refl _
 |y::l=>by
  unfold insertUp
  split
  .exact List.Perm.refl _
  .exact((Xw x l).cons y).trans (List.Perm.swap x y l)
theorem vM:∀l,(srt l).Perm l
 |[]=>List.Perm.refl _
 |x::l=>(Xw x (srt l)).trans ((vM l).cons x)
theorem J1(x:Nat):∀{l},l.Pairwise (·<=·)->(insertUp x l).Pairwise (·<=·)
 |[],_=>by simp[insertUp]
 |y::l,h=>by
  unfold insertUp
  have h':=List.pairwise_cons.mp h
  split
  .rename_i hx
   rw[List.pairwise_cons]
   refine⟨λz hz=>?_,h⟩
   rcases List.mem_cons.mp hz with e|e
   .omega
   .have:=h'.1 z e;omega
  .rename_i hx
   rw[List.pairwise_cons]
   refine⟨λz hz=>?_,J1 x h'.2⟩
   rcases List.mem_cons.mp ((Xw x l).mem_iff.mp hz) with e|e
   .omega
   .exact h'.1 z e
theorem uh:∀l,(srt l).Pairwise (·<=·)
 |[]=>List.Pairwise.nil
 |x::l=>J1 x (uh l)
theorem ZY:∀{l₁ l₂:List Nat},l₁.Perm l₂->l₁.Pairwise (·<=·)->l₂.Pairwise (·<=·)->l₁=l₂
 |[],l₂,h,_,_=>(List.Perm.nil_eq h)
 |a::t,[],h,_,_=>by have:=h.length_eq;simp at this
 |a::t,b::u,h,h1,h2=>by
  have h1':=List.pairwise_cons.mp h1
  have h2':=List.pairwise_cons.mp h2
  have e:a=b:=by
   have ha:a∈b::u:=h.mem_iff.mp List.mem_cons_self
   have hb:b∈a::t:=h.mem_iff.mpr List.mem_cons_self
   rcases List.mem_cons.mp ha with x|x
   .exact x
   .rcases List.mem_cons.mp hb with y|y
    .exact y.symm
    .have:=h2'.1 a x;have:=h1'.1 b y;omega
  subst e
  rw[ZY ((List.perm_cons a).mp h) h1'.2 h2'.2]
theorem zbk{l:List Nat}(h:l.Pairwise (·<=·))(nd:l.Nodup):l.Pairwise (· < ·):=by
 have:=List.Pairwise.and h (List.nodup_iff_pairwise_ne.mp nd)
 exact this.imp λ{a b} h=>by have:=h.1;have:=h.2;omega
theorem Qu:∀{l:List Nat}{k v:Nat},l.Pairwise (· < ·)->l[k]? = some v->(l.filter λx=>decide (x<v)).length=k
 |[],k,v,_,h=>by simp at h
 |a::t,0,v,h,e=>by
  have e':a=v:=by simpa using e
  subst e'
  have h':=List.pairwise_cons.mp h
  have:(a::t).filter (λx=>decide (x<a))=[]:=by
   rw[List.filter_eq_nil_iff]
   intro x hx
   rcases List.mem_cons.mp hx with z|z
   .subst z;simp
   .have:=h'.1 x z;simp;omega
  rw[this];rfl
 |a::t,k+1,v,h,e=>by
  have h':=List.pairwise_cons.mp h
  have e':t[k]? = some v:=by simpa using e
  have hv:v∈t:=List.mem_of_getElem? e'
  have:=h'.1 v hv
  rw[List.filter_cons,if_pos (by simpa using this),List.length_cons,Qu h'.2 e']
def atC:Chain->Row->Nat->Row
 |[],c,_=>c
 |(_,T)::rest,c,k=>atC rest (then_ (tOf T (at_ (inv c) (at_ (srt (T.map λyt=>at_ c yt.1)) (k / size rest)))) c) (k % size rest)
theorem ji{n:Nat}:∀{C:Chain}{F:List Nat},WfC n F C->0<size C
 |[],_,_=>Nat.one_pos
 |(b,T)::rest,F,w=>Nat.mul_pos (List.length_pos_of_mem w.1.one) (ji w.2)
theorem Q0{n:Nat}{F:List Nat}{b:Nat}{T:Tv}(w:WfL n F b T){c:Row}(hc:Pm n c){k:Nat}(hk:k<T.length) :
  ∃y t,(y,t)∈T/\at_ (srt (T.map λyt=>at_ c yt.1)) k=at_ c y/\(T.filter λyt=>decide (at_ c yt.1<at_ c y)).length=k:=by
 have pe:=vM (T.map λyt=>at_ c yt.1)
 generalize hl:srt (T.map λyt=>at_ c yt.1)=l at *
 have hlen:l.length=T.length:=by rw[pe.length_eq,List.length_map]
 have nd:(T.map λyt=>at_ c yt.1).Nodup:=by
  have:=w.nd
  rw[List.nodup_iff_pairwise_ne,List.pairwise_map] at this ⊢
  apply List.Pairwise.imp_of_mem _ this
  rintro ⟨y,t⟩ ⟨z,u⟩ h1 h2 hne e
  exact hne (hc.at_inj (w.key h1) (w.key h2) e)
 have st:=zbk (by rw[<- hl];exact uh _) (pe.nodup_iff.mpr nd)
 have hk':k<l.length:=by omega
 have hm:at_ l k∈l:=jR hk'
 obtain⟨⟨y,t⟩,h1,h2⟩:=List.mem_map.mp (pe.mem_iff.mp hm)
 refine⟨y,t,h1,h2.symm,?_⟩
 have h2':at_ c y=at_ l k:=h2
 rw[h2']
 have e1:=Qu (l:=l) (k:=k) (v:=at_ l k) st (by rw[yk hk',List.getElem?_eq_getElem hk'])
 have e2:=(pe.filter λx=>decide (x<at_ l k)).length_eq
 rw[e1,List.filter_map,List.length_map] at e2
 exact e2.symm
theorem X2{n:Nat}:∀{C:Chain}{F:List Nat},(∀j,j∈F->j<n)->WfC n F C->∀{c:Row}{k:Nat},Pm n c->k<size C->∃h,h∈mems n C/\atC C c k=then_ h c/\xo C c (atC C c k)=k
 |[],F,hF,w,c,k,hc,hk=>by
  refine⟨none_ n,List.mem_singleton.mpr rfl,?_,?_⟩
  .unfold atC;rw[wn hc]
  .unfold xo;unfold size at hk;omega
 |(b,T)::rest,F,hF,w,c,k,hc,hk=>by
  have hF':=xb hF w.1.lt
  have sp:=ji w.2
  have hq:k / size rest<T.length:=by
   unfold size at hk
   exact(Nat.div_lt_iff_lt_mul sp).mpr hk
  obtain⟨y,t,h1,h2,h3⟩:=Q0 w.1 hc hq
  have hy:=w.1.key h1
  have pt:=w.1.pm _ t h1
  have e1:tOf T (at_ (inv c) (at_ (srt (T.map λyt=>at_ c yt.1)) (k / size rest)))=t:=by rw[h2,yK hc hy];exact vK w.1.nd h1
  obtain⟨h,a1,a2,a3⟩:=X2 hF' w.2 (c:=then_ t c) (k:=k % size rest) (pt.then hc) (Nat.mod_lt _ sp)
  have e2:atC ((b,T)::rest) c k=then_ (then_ h t) c:=by
   unfold atC
   rw[e1,a2,yz (yb hF' w.2 h a1).1 pt]
  have e4:atC ((b,T)::rest) c k=atC rest (then_ t c) (k % size rest):=by
   show atC rest (then_ (tOf T (at_ (inv c) (at_ (srt (T.map λyt=>at_ c yt.1)) (k / size rest)))) c) (k % size rest)=_
   rw[e1]
  have mm:then_ h t∈mems n ((b,T)::rest):=yi.mpr ⟨y,t,h,h1,a1,rfl⟩
  have pp:=(yb hF w _ mm).1
  refine⟨then_ h t,mm,e2,?_⟩
  have e3:at_ (atC ((b,T)::rest) c k) b=at_ c y:=by
   rw[e2,zJ (by rw[pp.1];exact w.1.lt),vb hF w h1 a1]
  unfold xo
  rw[e3,yK hc hy,vK w.1.nd h1,h3,e4,a3]
  have:=Nat.div_add_mod k (size rest)
  omega
structure Tells(o:Obj)(C:Chain):Prop where
 good:Good o
 wf:WfC o.n [] C
 std:Std 0 C
 mem:∀p,p∈mems o.n C↔p∈o.g
theorem yD{n:Nat}:∀j,j∈([]:List Nat)->j<n:=λj h=>absurd h List.not_mem_nil
theorem Tells.perm{o:Obj}{C:Chain}(t:Tells o C):(mems o.n C).Perm o.g:=YO (vU yD t.wf) t.good.nd t.mem
theorem Tells.order{o:Obj}{C:Chain}(t:Tells o C):o.g.length=size C:=by rw[<- vV o.n C];exact t.perm.length_eq.symm
theorem Tells.has{o:Obj}{C:Chain}(t:Tells o C){p:Row}(hp:Pm o.n p):o.g.contains p=sift C p:=by
 have h1:=vP yD t.wf hp (λj h=>absurd h List.not_mem_nil)
 have h2:=t.mem p
 cases e:sift C p with
 |true=>exact List.contains_iff_mem.mpr (h2.mp (h1.mp e))
 |false=>
  cases q:o.g.contains p with
  |false=>rfl
  |true=>
   have:=h1.mpr (h2.mpr (List.contains_iff_mem.mp q))
   rw[e] at this;cases this
theorem Tells.ahead{o:Obj}{C:Chain}(t:Tells o C){p:Row}(hp:p∈o.g):o.ahead p=xo C (none_ o.n) p:=by
 have hm:=(t.mem p).mpr hp
 have pp:=(yb yD t.wf p hm).1
 have:=VA (F:=[]) (i:=0) (by simp) (Nat.zero_le _) t.wf t.std (c:=none_ o.n) Pm.none hm
 rw[yL pp] at this
 rw[<- this]
 unfold Obj.ahead
 rw[<- (t.perm.filter λq=>before q p).length_eq,List.countP_eq_length_filter]
 congr 1
 apply List.filter_congr
 intro x hx
 rw[yL (yb yD t.wf x hx).1]
theorem zgd{o:Obj}(G:Good o){p:Row}(hp:p∈o.g):o.ahead p<o.g.length:=by
 unfold Obj.ahead
 rw[<- List.countP_eq_length_filter]
 have h1:=List.countP_le_length (p:=λq=>before q p) (l:=o.g)
 rcases Nat.lt_or_ge (o.g.countP λq=>before q p) o.g.length with z|z
 .exact z
 .have:=List.countP_eq_length.mp (Nat.le_antisymm h1 z) p hp
  rw[Zi] at this;cases this
theorem Q3{o:Obj}(G:Good o){p q:Row}(hp:p∈o.g)(hq:q∈o.g)(h:before p q=true):o.ahead p<o.ahead q:=by
 have hl:∀r,r∈o.g->r.length=o.n:=λr hr=>(G.grp.pm r hr).1
 unfold Obj.ahead
 have nd:(p::o.g.filter λr=>before r p).Nodup:=by
  rw[List.nodup_cons]
  refine⟨λz=>?_,G.nd.filter _⟩
  have:=(List.mem_filter.mp z).2
  rw[Zi] at this;cases this
 have:=xW nd (l₂:=o.g.filter λr=>before r q) (λx hx=>by
  rcases List.mem_cons.mp hx with z|z
  .rw[z];exact List.mem_filter.mpr ⟨hp,h⟩
  .obtain⟨z1,z2⟩:=List.mem_filter.mp z
   exact List.mem_filter.mpr ⟨z1,XZ ((hl x z1).trans (hl p hp).symm) ((hl p hp).trans (hl q hq).symm) z2 h⟩)
 rw[List.length_cons] at this
 exact this
theorem zge{o:Obj}(G:Good o){p q:Row}(hp:p∈o.g)(hq:q∈o.g)(h:o.ahead p=o.ahead q):p=q:=by
 rcases Classical.em (p=q) with z|z
 .exact z
 .rcases QL (by rw[(G.grp.pm p hp).1,(G.grp.pm q hq).1]) z with y|y
  .have:=Q3 G hp hq y;omega
  .have:=Q3 G hq hp y;omega
theorem Tells.at_some{o:Obj}{C:Chain}(t:Tells o C){k:Nat}(hk:k<size C):(o.g.find? λ(p:Row)=>o.ahead p == k)=some (atC C (none_ o.n) k):=by
 obtain⟨h,h1,h2,h3⟩:=X2 yD t.wf (c:=none_ o.n) Pm.none hk
 have ph:=(yb yD t.wf h h1).1
 rw[yL ph] at h2
 rw[h2] at h3 ⊢
 have hg:=(t.mem h).mp h1
 have ha:o.ahead h=k:=by rw[t.ahead hg];exact h3
 cases e:o.g.find? λ(p:Row)=>o.ahead p == k with
 |none=>
  have:=List.find?_eq_none.mp e h hg
  simp[ha] at this
 |some p=>
  have h4:=List.find?_some e
  have h5:=List.mem_of_find?_eq_some e
  have h6:o.ahead p=k:=by simpa using h4
  rw[zge t.good h5 hg (h6.trans ha.symm)]
theorem Tells.at_none{o:Obj}{C:Chain}(t:Tells o C){k:Nat}(hk:size C<=k):(o.g.find? λ(p:Row)=>o.ahead p == k)=none:=by
 apply List.find?_eq_none.mpr
 intro p hp
 have:=zgd t.good hp
 rw[t.order] at this
 simp;omega
end GP
end
section
set_option autoImplicit false
set_option linter.all false
namespace GP
open Md07
def yg(n:Nat)(f:Nat->Nat):Nat:=((List.range n).map f).sum
theorem xu{n:Nat}{f g:Nat->Nat}(h:∀i,i<n->f i=g i):yg n f=yg n g:=jz λx hx=>h x (List.mem_range.mp hx)
theorem wB{n:Nat}{f:Nat->Nat}:yg (n+1) f=yg n f+f n:=by unfold yg;rw[List.range_succ];simp[List.sum_append]
theorem jf{f g:Nat->Nat}:∀n,yg n (λi=>f i+g i)=yg n f+yg n g
 |0=>rfl
 |n+1=>by rw[wB,wB,wB,jf n];omega
theorem j8{c:Nat}{f:Nat->Nat}:∀n,yg n (λi=>c*f i)=c*yg n f
 |0=>rfl
 |n+1=>by rw[wB,wB,j8 n,Nat.mul_add]
theorem je:∀n,yg n (λ_=>0)=0
 |0=>rfl
 |n+1=>by rw[wB,je n]
theorem Ws{f:Nat->Nat->Nat}(m:Nat):∀n,yg n (λi=>yg m (λj=>f i j))=yg m (λj=>yg n (λi=>f i j))
 |0=>by rw[show(λj=>yg 0 λi=>f i j)=λ_=>0 from rfl,je];rfl
 |n+1=>by
  rw[wB,Ws m n,<- jf]
  apply xu
  intro j _
  rw[wB]
theorem Wt{n:Nat}{p:Row}(hp:Pm n p)(f:Nat->Nat):yg n (λi=>f (at_ p i))=yg n f:=by
 unfold yg
 have e:(List.range n).map (λi=>f (at_ p i))=p.map f:=by
  apply List.ext_getElem
  .simp[hp.1]
  .intro i h1 h2
   rw[List.getElem_map,List.getElem_map,List.getElem_range,yk (by simpa using h2)]
 rw[e]
 exact(hp.perm.map f).sum_nat.symm
theorem Wu{P:Nat->Bool}:∀n,yg n (λi=>if P i then 1 else 0)=((List.range n).filter P).length
 |0=>rfl
 |n+1=>by
  rw[wB,Wu n,List.range_succ,List.filter_append,List.length_append,List.filter_cons]
  split<;>simp
def sum2(n:Nat)(f:Nat->Nat->Nat):Nat:=yg n λi=>yg n λj=>f i j
theorem ZI{n:Nat}{f g:Nat->Nat->Nat}(h:∀i j,i<n->j<n->f i j=g i j):sum2 n f=sum2 n g:=xu λi hi=>xu λj hj=>h i j hi hj
theorem ZJ{n:Nat}{f g:Nat->Nat->Nat}:sum2 n (λi j=>f i j+g i j)=sum2 n f+sum2 n g:=by
 unfold sum2
 rw[<- jf]
 exact xu λi _=>jf n
theorem j9{n:Nat}{f:Nat->Nat->Nat}(s:∀i j,f i j=f j i)(d:∀i,f i i=0):sum2 n f=2*sum2 n (λi j=>if i<j then f i j else 0):=by
 have e1:sum2 n f=sum2 n (λi j=>if i<j then f i j else 0)+sum2 n (λi j=>if j<i then f j i else 0):=by
  rw[<- ZJ]
  apply ZI
  intro i j _ _
  rcases Nat.lt_trichotomy i j with h|h|h
  .rw[if_pos h,if_neg (by omega)];rfl
  .subst h;rw[d];simp
  .rw[if_neg (by omega),if_pos h,s i j];omega
 have e2:sum2 n (λi j=>if j<i then f j i else 0)=sum2 n (λi j=>if i<j then f i j else 0):=by
  unfold sum2
  rw[Ws]
 rw[e1,e2];omega
theorem zbj{n:Nat}{p:Row}(hp:Pm n p)(f:Nat->Nat->Nat):sum2 n (λi j=>f (at_ p i) (at_ p j))=sum2 n f:=by
 unfold sum2
 rw[Wt hp (λa=>yg n λj=>f a (at_ p j))]
 exact xu λi _=>Wt hp (λb=>f i b)
def yc(p:Row)(i j:Nat):Nat:=if (i<j/\at_ p j<at_ p i)∨(j<i/\at_ p i<at_ p j) then 1 else 0
theorem jM(p:Row)(i j:Nat):yc p i j=yc p j i:=by unfold yc;simp only[or_comm]
theorem jN(p:Row)(i:Nat):yc p i i=0:=by unfold yc;rw[if_neg];omega
theorem jF{n:Nat}{p:Row}(hl:p.length=n):inversions p=sum2 n (λi j=>if i<j then yc p i j else 0):=by
 unfold inversions sum2
 rw[hl]
 show yg n _=_
 apply xu
 intro i _
 rw[<- Wu]
 apply xu
 intro j _
 unfold yc
 by_cases h:i<j
 .by_cases h2:at_ p j<at_ p i
  .simp[h,h2]
  .have:¬j<i:=by omega
   simp[h,h2,this]
 .simp[h]
theorem zfb{n:Nat}{p q:Row}(hp:Pm n p)(hq:Pm n q){i j:Nat}(hi:i<n)(hj:j<n) :
  yc (then_ p q) i j+2*(yc p i j*yc q (at_ p i) (at_ p j))=yc p i j+yc q (at_ p i) (at_ p j):=by
 rcases Nat.decEq i j with h|h
 .have h1:at_ p i≠at_ p j:=λe=>h (hp.at_inj hi hj e)
  have h2:at_ q (at_ p i)≠at_ q (at_ p j):=λe=>h1 (hq.at_inj (hp.at_lt hi) (hp.at_lt hj) e)
  unfold yc
  rw[zJ (p:=p) (i:=i) (by rw[hp.1];exact hi),zJ (p:=p) (i:=j) (by rw[hp.1];exact hj)]
  generalize at_ q (at_ p i)=a at *
  generalize at_ q (at_ p j)=b at *
  generalize at_ p i=c at *
  generalize at_ p j=d at *
  rcases Nat.lt_or_gt_of_ne h with x|x<;>rcases Nat.lt_or_gt_of_ne h1 with y|y<;>rcases Nat.lt_or_gt_of_ne h2 with z|z <;>
   simp[x,y,z,Nat.lt_asymm x,Nat.lt_asymm y,Nat.lt_asymm z]
 .subst h;simp[jN]
theorem zeq{n:Nat}{p q:Row}(hp:Pm n p)(hq:Pm n q):∃k,inversions (then_ p q)+2*k=inversions p+inversions q:=by
 have e:sum2 n (yc (then_ p q))+sum2 n (λi j=>2*(yc p i j*yc q (at_ p i) (at_ p j)))=sum2 n (yc p)+sum2 n (yc q):=by
  rw[<- zbj hp (yc q),<- ZJ,<- ZJ]
  exact ZI λi j hi hj=>zfb hp hq hi hj
 have e3:sum2 n (λi j=>2*(yc p i j*yc q (at_ p i) (at_ p j)))=2*sum2 n (λi j=>(yc p i j*yc q (at_ p i) (at_ p j))):=by
  unfold sum2
  rw[<- j8]
  exact xu λi _=>j8 n
 rw[e3,j9 (f:=λi j=>yc p i j*yc q (at_ p i) (at_ p j)) (λi j=>by rw[jM p i j,jM q]) (λi=>by rw[jN,Nat.zero_mul]),j9 (jM (then_ p q)) (jN (then_ p q)),j9 (jM p) (jN p),j9 (jM q) (jN q),
  <- jF (n:=n) (by rw[yf,hp.1]),<- jF hp.1,<- jF hq.1] at e
 exact⟨sum2 n (λi j=>if i<j then yc p i j*yc q (at_ p i) (at_ p j) else 0),by omega⟩
theorem Y6{n:Nat}{p q:Row}(hp:Pm n p)(hq:Pm n q):inversions (then_ p q) % 2=(inversions p+inversions q) % 2:=by
 obtain⟨k,e⟩:=zeq hp hq
 omega
theorem JX{n:Nat}:inversions (none_ n)=0:=by
 rw[jF wo]
 have z:sum2 n (λ_ _=>0)=0:=by unfold sum2;rw[show(λi:Nat=>yg n λ_=>0)=λ_=>0 from funext λ_=>je n,je]
 refine Eq.trans (ZI ?_) z
 intro i j hi hj
 unfold yc
 rw[at_none hi,at_none hj]
 split
 .rw[if_neg (by omega)]
 .rfl
def yX(n a b:Nat):Row:=(List.range n).map λi=>if i=a then b else if i=b then a else i
theorem xr{n a b i:Nat}(hi:i<n):at_ (yX n a b) i=if i=a then b else if i=b then a else i:=by
 unfold yX
 rw[yk (by simpa using hi),List.getElem_map,List.getElem_range]
theorem ug{n a b:Nat}(ha:a<n)(hb:b<n):Pm n (yX n a b):=by
 apply Pm.of_at (by unfold yX;simp)
 .intro i hi
  rw[xr hi]
  split
  .exact hb
  .split
   .exact ha
   .exact hi
 .intro i j hi hj e
  rw[xr hi,xr hj] at e
  split at e<;>split at e<;>(try split at e)<;>(try split at e)<;>omega
theorem Zb{lo hi n:Nat}:hi<=n->yg n (λi=>if lo<=i/\i<hi then 1 else 0)=hi-lo:=by
 induction n generalizing hi with
 |zero=>
  intro h;have:hi=0:=by omega
  subst this;simp[yg]
 |succ n ih=>
  intro h'
  rw[wB]
  rcases Nat.lt_or_ge n hi with z|z
  .have hh:hi=n+1:=by omega
   subst hh
   have e:yg n (λi=>if lo<=i/\i<n+1 then 1 else 0)=yg n (λi=>if lo<=i/\i<n then 1 else 0):=by
    apply xu
    intro i hi
    by_cases q:lo<=i
    .rw[if_pos ⟨q,by omega⟩,if_pos ⟨q,hi⟩]
    .rw[if_neg (λz=>q z.1),if_neg (λz=>q z.1)]
   rw[e,ih (hi:=n) (Nat.le_refl _)]
   split<;>omega
  .rw[ih (hi:=hi) z,if_neg (by omega)];rfl
theorem Je{n a b:Nat}(hab:a<b)(hb:b<n):inversions (yX n a b) % 2=1:=by
 rw[jF (n:=n) (by unfold yX;simp)]
 have e:sum2 n (λi j=>if i<j then yc (yX n a b) i j else 0)=yg n (λi=>(if i=a then (b-a) else 0)+(if a+1<=i/\i<b then 1 else 0)):=by
  unfold sum2
  apply xu
  intro i hi
  by_cases c1:i=a
  .subst c1
   rw[if_pos rfl,if_neg (by omega)]
   rw[show b-i+0=(b+1)-(i+1) by omega,<- Zb (lo:=i+1) (hi:=b+1) (n:=n) (by omega)]
   apply xu
   intro j hj
   show(if i<j then yc (yX n i b) i j else 0)=_
   unfold yc
   rw[xr hi,xr hj,if_pos rfl]
   by_cases c2:i<j
   .rw[if_pos c2,if_neg (by omega:¬j=i)]
    by_cases c3:j=b
    .subst c3;simp[hab];omega
    .rw[if_neg c3]
     by_cases c4:j<b
     .rw[if_pos (.inl ⟨c2,c4⟩),if_pos (by omega)]
     .rw[if_neg (by omega),if_neg (by omega)]
   .rw[if_neg c2,if_neg (by omega)]
  .rw[if_neg c1]
   by_cases c2:a+1<=i/\i<b
   .rw[if_pos c2]
    rw[show 0+1=(b+1)-b by omega,<- Zb (lo:=b) (hi:=b+1) (n:=n) (by omega)]
    apply xu
    intro j hj
    show(if i<j then yc (yX n a b) i j else 0)=_
    unfold yc
    rw[xr hi,xr hj,if_neg c1,if_neg (by omega:¬i=b)]
    by_cases c3:j=b
    .subst c3
     rw[if_pos c2.2,if_neg (by omega:¬j=a),if_pos rfl,if_pos (.inl ⟨c2.2,by omega⟩),if_pos (by omega)]
    .rw[if_neg (show ¬(b<=j/\j<b+1) by omega)]
     by_cases c4:i<j
     .rw[if_pos c4,if_neg (by omega:¬j=a),if_neg c3,if_neg (by omega)]
     .rw[if_neg c4]
   .rw[if_neg c2]
    refine Eq.trans (xu ?_) (je n)
    intro j hj
    show(if i<j then yc (yX n a b) i j else 0)=0
    unfold yc
    rw[xr hi,xr hj,if_neg c1]
    by_cases c4:i<j
    .rw[if_pos c4]
     by_cases c5:i=b
     .subst c5
      rw[if_pos rfl,if_neg (by omega:¬j=a),if_neg (by omega:¬j=i),if_neg (by omega)]
     .rw[if_neg c5]
      by_cases c6:j=a
      .rw[if_pos c6,if_neg (by omega)]
      .rw[if_neg c6]
       by_cases c7:j=b
       .rw[if_pos c7,if_neg (by omega)]
       .rw[if_neg c7,if_neg (by omega)]
    .rw[if_neg c4]
 rw[e,jf,Zb (hi:=b) (n:=n) (by omega)]
 have e2:yg n (λi=>if i=a then (b-a) else 0)=b-a:=by
  have:yg n (λi=>if i=a then (b-a) else 0)=(b-a)*yg n (λi=>if a<=i/\i<a+1 then 1 else 0):=by
   rw[<- j8]
   apply xu
   intro i _
   by_cases c:i=a
   .rw[if_pos c,if_pos (by omega)];omega
   .rw[if_neg c,if_neg (by omega)];omega
  rw[this,Zb (hi:=a+1) (n:=n) (by omega)]
  rw[show a+1-a=1 by omega,Nat.mul_one]
 rw[e2];omega
theorem zbi{n a b:Nat}(ha:a<n)(hb:b<n):yX n a b=yX n b a:=by
 apply xR (n:=n) (by unfold yX;simp) (by unfold yX;simp)
 intro i hi
 rw[xr hi,xr hi]
 by_cases c1:i=a
 .by_cases c2:i=b
  .rw[if_pos c1,if_pos c2];omega
  .rw[if_pos c1,if_neg c2,if_pos c1]
 .by_cases c2:i=b
  .rw[if_neg c1,if_pos c2,if_pos c2]
  .rw[if_neg c1,if_neg c2,if_neg c2,if_neg c1]
theorem Jf{n a b:Nat}(ha:a<n)(hb:b<n)(h:a≠b):inversions (yX n a b) % 2=1:=by
 rcases Nat.lt_or_gt_of_ne h with x|x
 .exact Je x hb
 .rw[zbi ha hb];exact Je x ha
end GP
end
section
set_option autoImplicit false
set_option linter.all false
namespace GP
open Md07
def sn(s:List Bool)(i:Nat):Bool:=s.getD i false
theorem wP{s:List Bool}{x i:Nat}(hx:x<s.length):sn (s.set x true) i=if i=x then true else sn s i:=by
 unfold sn
 rw[List.getD_eq_getElem?_getD,List.getD_eq_getElem?_getD,List.getElem?_set]
 by_cases e:x=i
 .subst e;simp[hx]
 .have:¬i=x:=λh=>e h.symm
  simp[e,this]
def cnt(s:List Bool):Nat:=s.countP id
theorem jO:∀{s:List Bool}{x:Nat},x<s.length->sn s x=false->cnt (s.set x true)=cnt s+1
 |[],x,h,_=>by simp at h
 |a::t,0,h,e=>by
  have:a=false:=e
  subst this;unfold cnt;simp
 |a::t,x+1,h,e=>by
  have ih:=jO (s:=t) (x:=x) (by simpa using h) e
  unfold cnt at ih ⊢
  rw[List.set_cons_succ,List.countP_cons,List.countP_cons,ih];omega
theorem zfg(s:List Bool):cnt s<=s.length:=List.countP_le_length
theorem zfh{s:List Bool}(h:∀i,i<s.length->sn s i=true):cnt s=s.length:=by
 unfold cnt
 rw[List.countP_eq_length]
 intro a ha
 obtain⟨i,hi,e⟩:=List.getElem_of_mem ha
 have:=h i hi
 unfold sn at this
 rw[List.getD_eq_getElem?_getD,List.getElem?_eq_getElem hi] at this
 rw[<- e];exact this
structure Cyc(n:Nat)(p:Row)(s:List Bool)(c:Nat):Prop where
 len:s.length=n
 ex:∃q,Pm n q/\(∀i,i<n->sn s i=true->at_ q i=at_ p i)/\(∀i,i<n->sn s i=false->at_ q i=i)/\(inversions q+c) % 2=cnt s % 2
def vd(n:Nat)(p:Row)(s:List Bool)(c z x:Nat):Prop :=
 (Cyc n p s c/\x=z/\sn s z=false) ∨
 (s.length=n/\sn s z=true/\∃q l,Pm n q/\l<n/\sn s l=true/\at_ p l=x/\at_ q l=z/\(∀i,i<n->i≠l->sn s i=true->at_ q i=at_ p i)/\(∀i,i<n->sn s i=false->at_ q i=i)/\(inversions q+(c+1)) % 2=cnt s % 2)
theorem Cyc.start{n:Nat}{p:Row}:Cyc n p (List.replicate n false) 0:=by
 refine⟨List.length_replicate,none_ n,Pm.none,λi hi h=>?_,λi hi _=>at_none hi,?_⟩
 .unfold sn at h;rw[List.getD_eq_getElem?_getD,List.getElem?_replicate] at h;simp[hi] at h
 .have:cnt (List.replicate n false)=0:=by
   unfold cnt
   apply XO
   intro x hx
   rw[(List.mem_replicate.mp hx).2];rfl
  rw[JX,this]
theorem vd.len{n:Nat}{p:Row}{s:List Bool}{c z x:Nat}(h:vd n p s c z x):s.length=n:=by
 rcases h with ⟨h,_⟩|⟨h,_⟩
 .exact h.len
 .exact h
theorem vd.step{n:Nat}{p:Row}(hp:Pm n p){s:List Bool}{c z x:Nat}(hz:z<n)(hx:x<n)(h:vd n p s c z x)(nx:sn s x=false):vd n p (s.set x true) c z (at_ p x):=by
 have hl:=h.len
 have hxs:x<s.length:=by omega
 rcases h with ⟨⟨_,q,q1,q2,q3,q4⟩,rfl,_⟩|⟨_,hzs,q,l,q1,hln,ls,pl,ql,q2,q3,q4⟩
 .refine .inr ⟨by rw[List.length_set];exact hl,by rw[wP hxs,if_pos rfl],q,x,q1,hx,by rw[wP hxs,if_pos rfl],rfl,q3 x hx nx,λi hi hne hs=>?_,λi hi hs=>?_,?_⟩
  .rw[wP hxs,if_neg hne] at hs
   exact q2 i hi hs
  .rw[wP hxs] at hs
   split at hs
   .cases hs
   .exact q3 i hi hs
  .rw[jO hxs nx];omega
 .have hlx:l≠x:=λe=>by rw[e,nx] at ls;cases ls
  have hzx:z≠x:=λe=>by rw[e,nx] at hzs;cases hzs
  have qx:=q3 x hx nx
  refine .inr ⟨by rw[List.length_set];exact hl,by rw[wP hxs,if_neg hzx];exact hzs,then_ (yX n l x) q,x,(ug hln hx).then q1,hx,by rw[wP hxs,if_pos rfl],rfl,?_,λi hi hne hs=>?_,λi hi hs=>?_,?_⟩
  .rw[zJ (by rw[(ug hln hx).1];exact hx),xr hx,if_neg (λe=>hlx e.symm),if_pos rfl,ql]
  .rw[wP hxs,if_neg hne] at hs
   rw[zJ (by rw[(ug hln hx).1];exact hi),xr hi]
   by_cases e:i=l
   .rw[if_pos e,qx,e,pl]
   .rw[if_neg e,if_neg hne];exact q2 i hi e hs
  .rw[wP hxs] at hs
   split at hs
   .cases hs
   .rename_i hne
    have hil:i≠l:=λe=>by rw[e,ls] at hs;cases hs
    rw[zJ (by rw[(ug hln hx).1];exact hi),xr hi,if_neg hil,if_neg hne]
    exact q3 i hi hs
  .rw[jO hxs nx]
   have o1:=Y6 (ug hln hx) q1
   have o2:=Jf hln hx hlx
   omega
theorem vd.done{n:Nat}{p:Row}(hp:Pm n p){s:List Bool}{c z x:Nat}(hz:z<n)(hx:x<n)(h:vd n p s c z x)(sx:sn s x=true):Cyc n p s (c+1)/\sn s z=true:=by
 rcases h with ⟨_,rfl,e⟩|⟨hl,hzs,q,l,q1,hln,ls,pl,ql,q2,q3,q4⟩
 .rw[e] at sx;cases sx
 .refine⟨⟨hl,q,q1,λi hi hs=>?_,q3,q4⟩,hzs⟩
  by_cases e:i=l
  .subst e
   obtain⟨y,hy,e2⟩:=q1.at_surj hx
   by_cases e3:y=i
   .rw[e3] at e2;rw[e2,pl]
   .exfalso
    cases hsy:sn s y with
    |false=>
     rw[q3 y hy hsy] at e2
     rw[e2,sx] at hsy;cases hsy
    |true=>
     rw[q2 y hy e3 hsy,<- pl] at e2
     exact e3 (hp.at_inj hy hi e2)
  .exact q2 i hi e hs
theorem Cyc.all{n:Nat}{p:Row}(hp:Pm n p){s:List Bool}{c:Nat}(h:Cyc n p s c)(hs:∀i,i<n->sn s i=true):(inversions p+c) % 2=n % 2:=by
 obtain⟨hl,q,q1,q2,_,q4⟩:=h
 have e:q=p:=xR q1.1 hp.1 λi hi=>q2 i hi (hs i hi)
 rw[e,zfh (by rw[hl];exact hs),hl] at q4
 exact q4
theorem Cyc.seen{n:Nat}{p:Row}{s:List Bool}{c z x:Nat}(h:Cyc n p s c)(e:sn s z=false):vd n p s c z z:=.inl ⟨h,rfl,e⟩
theorem zeK{n:Nat}(kin:Nat->Nat){a b:Nat}(ha:a<n)(hb:b<n)(hab:a≠b)(hk:kin a=kin b)(L:List Row)(nd:L.Nodup)
  (h:∀p,p∈L->Pm n p/\(∀i,i<n->kin (at_ p i)=kin i)/\inversions p % 2=0):2*L.length<=yH kin n:=by
 have sp:=ug ha hb
 have so:=Jf ha hb hab
 have sk:∀i,i<n->kin (at_ (yX n a b) i)=kin i:=λi hi=>by
  rw[xr hi]
  split
  .rename_i e;rw[e,hk]
  .split
   .rename_i e;rw[e,hk]
   .rfl
 have nd2:(L++L.map λp=>then_ p (yX n a b)).Nodup:=by
  rw[List.nodup_append]
  refine⟨nd,?_,?_⟩
  .rw[List.nodup_iff_pairwise_ne,List.pairwise_map]
   apply List.Pairwise.imp_of_mem _ (List.nodup_iff_pairwise_ne.mp nd)
   intro p q hp hq hne e
   exact hne (jZ (h p hp).1 (h q hq).1 sp e)
  .intro p hp q hq e
   subst e
   obtain⟨r,hr,e⟩:=List.mem_map.mp hq
   have:=Y6 (h r hr).1 sp
   rw[e] at this
   have h1:=(h p hp).2.2
   have h2:=(h r hr).2.2
   omega
 have:=Xn (n:=n) kin _ nd2 (λp hp=>by
  rcases List.mem_append.mp hp with z|z
  .exact⟨(h p z).1,(h p z).2.1⟩
  .obtain⟨r,hr,e⟩:=List.mem_map.mp z
   subst e
   refine⟨(h r hr).1.then sp,λi hi=>?_⟩
   rw[zJ (by rw[(h r hr).1.1];exact hi),sk _ ((h r hr).1.at_lt hi),(h r hr).2.1 i hi])
 rw[List.length_append,List.length_map] at this
 omega
theorem Jn(kin:Nat->Nat):∀{n:Nat},1<yH kin n->∃a b,a<n/\b<n/\a≠b/\kin a=kin b
 |0,h=>by unfold yH at h;omega
 |m+1,h=>by
  unfold yH at h
  by_cases e:1<yH kin m
  .obtain⟨a,b,h1,h2,h3,h4⟩:=Jn kin e
   exact⟨a,b,by omega,by omega,h3,h4⟩
  .have hl:1<((List.range (m+1)).filter λj=>kin j == kin m).length:=by
    rcases Nat.lt_or_ge 1 ((List.range (m+1)).filter λj=>kin j == kin m).length with z|z
    .exact z
    .have:=Nat.mul_le_mul (Nat.le_of_not_lt e) z
     omega
   rw[List.range_succ,List.filter_append,List.length_append] at hl
   have h1:(List.filter (λj=>kin j == kin m) [m]).length<=1:=List.length_filter_le _ [m]
   have h2:0<((List.range m).filter λj=>kin j == kin m).length:=by omega
   obtain⟨a,ha⟩:=List.exists_mem_of_length_pos h2
   obtain⟨x,y⟩:=List.mem_filter.mp ha
   have hx:=List.mem_range.mp x
   exact⟨a,m,by omega,by omega,by omega,by simpa using y⟩
end GP
end
section
set_option autoImplicit false
set_option linter.all false
namespace GP
open Md07
structure Lv where
 out:Tv
 makers:List Row
 done:List Nat
 kin:List Nat
 even:Bool
def dn:Nat->List Nat
 |0=>[]
 |i+1=>i::dn i
theorem xH{j:Nat}:∀{i:Nat},j∈dn i↔j<i
 |0=>by simp[dn]
 |i+1=>by unfold dn;rw[List.mem_cons,xH];omega
theorem v7{n i:Nat}(h:i<=n):∀j,j∈dn i->j<n:=λj hj=>by have:=xH.mp hj;omega
def zm:Nat->List Lv->Chain
 |_,[]=>[]
 |i,L::Ls=>(i,L.out)::zm (i+1) Ls
def nxt:List Lv->List Row
 |[]=>[]
 |L::_=>L.makers
def keys(T:Tv):List Nat:=T.map Prod.fst
structure LvPre(n i:Nat)(L:Lv):Prop where
 wf:WfL n (dn i) i L.out
 mks:∀m,m∈L.makers->Pm n m/\∀j,j<i->at_ m j=j
 outm:∀x t,(x,t)∈L.out->Made n L.makers t
 dl:L.done.length=L.makers.length
 db:∀d,d∈L.done->d<=L.out.length
 kl:L.kin.length=n
 kn:∀m,m∈L.makers->∀x,x<n->at_ L.kin (at_ m x)=at_ L.kin x
 ev:L.even=L.makers.all λm=>inversions m % 2 == 0
structure LvOk(n i:Nat)(L:Lv):Prop extends LvPre n i L where
 cl:∀x t m,(x,t)∈L.out->m∈L.makers->at_ m x∈keys L.out
theorem LvPre.pms{n i:Nat}{L:Lv}(h:LvPre n i L):∀m,m∈L.makers->Pm n m:=λm hm=>(h.mks m hm).1
def resid(T:Tv)(t m:Row)(x:Nat):Row:=then_ (then_ t m) (inv (tOf T (at_ m x)))
structure Lk(n:Nat)(L:Lv)(ms:List Row):Prop where
 sub:∀m,m∈ms->Made n L.makers m
 pairs:∀k d m x t,L.makers[k]? = some m->L.done.getD k 0 > d->L.out[d]? = some (x,t)->Made n ms (resid L.out t m x)
def yQ(n:Nat):Nat->List Lv->Prop
 |i,[]=>i=n
 |i,L::Ls=>LvOk n i L/\Lk n L (nxt Ls)/\yQ n (i+1) Ls
theorem yQ.le{n:Nat}:∀{i:Nat}{Ls:List Lv},yQ n i Ls->i+Ls.length=n
 |i,[],h=>by have h2:i=n:=h;simpa using h2
 |i,L::Ls,h=>by have:=yQ.le h.2.2;simp only[List.length_cons];omega
theorem yQ.wf{n:Nat}:∀{i:Nat}{Ls:List Lv},yQ n i Ls->WfC n (dn i) (zm i Ls)
 |i,[],h=>by
  have h':i=n:=h
  subst h'
  intro x hx
  exact xH.mpr hx
 |i,L::Ls,h=>⟨h.1.wf,yQ.wf h.2.2⟩
theorem Qz:∀{i:Nat}{Ls:List Lv},Std i (zm i Ls)
 |_,[]=>trivial
 |i,L::Ls=>⟨rfl,Qz⟩
theorem yQ.pms{n i:Nat}{Ls:List Lv}(h:yQ n i Ls):∀m,m∈nxt Ls->Pm n m:=by
 cases Ls with
 |nil=>intro m hm;exact absurd hm List.not_mem_nil
 |cons L Ls=>exact h.1.pms
theorem vq{n:Nat}:∀{i:Nat}{Ls:List Lv},yQ n i Ls->∀p,p∈mems n (zm i Ls)->Made n (nxt Ls) p
 |i,[],h,p,hp=>by
  have:p=none_ n:=List.mem_singleton.mp hp
  subst this;exact Made.none_
 |i,L::Ls,h,p,hp=>by
  obtain⟨x,t,q,h1,h2,rfl⟩:=yi.mp hp
  exact Made.mul h.1.pms (Made.mono h.1.pms h.2.1.sub (vq h.2.2 q h2)) (h.1.outm x t h1)
def Closed(n i:Nat)(Ls:List Lv):Prop:=∀p,Made n (nxt Ls) p->p∈mems n (zm i Ls)
theorem zfk{n i:Nat}:Closed n i []:=λp h=>by
 cases h with
 |none_=>exact List.mem_singleton.mpr rfl
 |more _ hq=>exact absurd hq List.not_mem_nil
theorem Closed.iff{n i:Nat}{Ls:List Lv}(a:yQ n i Ls)(c:Closed n i Ls)(p:Row):p∈mems n (zm i Ls)↔Made n (nxt Ls) p:=⟨vq a p,c p⟩
theorem Closed.mul{n i:Nat}{Ls:List Lv}(a:yQ n i Ls)(c:Closed n i Ls)(p q:Row)(hp:p∈mems n (zm i Ls))(hq:q∈mems n (zm i Ls)):then_ p q∈mems n (zm i Ls) :=
 c _ (Made.mul a.pms (vq a p hp) (vq a q hq))
theorem yQ.hF{n i:Nat}{Ls:List Lv}(a:yQ n i Ls):∀j,j∈dn i->j<n:=v7 (by have:=a.le;omega)
theorem ja{T:Tv}(nd:(T.map Prod.fst).Nodup){y:Nat}(h:y∈keys T):(y,tOf T y)∈T:=by
 obtain⟨⟨y',t⟩,h1,h2⟩:=List.mem_map.mp h
 have e:y'=y:=h2
 subst e
 rw[vK nd h1];exact h1
theorem Closed.full{n i:Nat}{L:Lv}{Ls:List Lv}(a:yQ n i (L::Ls))(c:Closed n (i+1) Ls)(full:∀k,k<L.makers.length->L.done.getD k 0=L.out.length):Closed n i (L::Ls):=λp hp=>by
 refine zdK a.hF a.wf (Closed.mul a.2.2 c) a.1.pms (λx t m hx hm=>?_) hp
 have hk:=a.1.cl x t m hx hm
 refine⟨tOf L.out (at_ m x),ja a.1.wf.nd hk,c _ ?_⟩
 obtain⟨k,hk1,hk2⟩:=List.getElem_of_mem hm
 obtain⟨d,hd1,hd2⟩:=List.getElem_of_mem hx
 exact a.2.1.pairs k d m x t (by rw[List.getElem?_eq_getElem hk1,hk2]) (by rw[full k hk1];exact hd1) (by rw[List.getElem?_eq_getElem hd1,hd2])
theorem Vy{n i:Nat}{L:Lv}(a:LvOk n i L){x:Nat}{t m:Row}(hx:(x,t)∈L.out)(hm:m∈L.makers):Made n L.makers (resid L.out t m x)/\∀j,j<i+1->at_ (resid L.out t m x) j=j:=by
 have hk:=ja a.wf.nd (a.cl x t m hx hm)
 have pt:=a.wf.pm x t hx
 have pm:=(a.mks m hm).1
 have pu:=a.wf.pm _ _ hk
 refine⟨Made.mul a.pms (Made.more (a.outm x t hx) hm) (Made.inv a.pms (a.outm _ _ hk)),λj hj=>?_⟩
 have hi:=a.wf.lt
 unfold resid
 rw[zJ (by rw[yf,pt.1];omega),zJ (by rw[pt.1];omega)]
 by_cases e:j=i
 .subst e
  rw[a.wf.tk x t hx]
  have:=yK pu hi
  rw[a.wf.tk _ _ hk] at this;exact this
 .have hj':j<i:=by omega
  rw[a.wf.fx x t hx j (xH.mpr hj'),(a.mks m hm).2 j hj']
  have:=yK pu (show j<n by omega)
  rw[a.wf.fx _ _ hk j (xH.mpr hj')] at this;exact this
def most(n:Nat)(L:Lv):Nat:=if L.even=true/\1<yH (at_ L.kin) n then yH (at_ L.kin) n / 2 else yH (at_ L.kin) n
theorem Made.kin{n:Nat}{s:List Row}(hs:∀p,p∈s->Pm n p){kin:Nat->Nat}(h:∀m,m∈s->∀x,x<n->kin (at_ m x)=kin x){p:Row}(hp:Made n s p):∀x,x<n->kin (at_ p x)=kin x:=by
 induction hp with
 |none_=>intro x hx;rw[at_none hx]
 |more h1 h2 ih=>
  intro x hx
  rw[zJ (by rw[(Made.perm hs h1).1];exact hx),h _ h2 _ ((Made.perm hs h1).at_lt hx),ih x hx]
theorem Made.even{n:Nat}{s:List Row}(hs:∀p,p∈s->Pm n p)(h:∀m,m∈s->inversions m % 2=0){p:Row}(hp:Made n s p):inversions p % 2=0:=by
 induction hp with
 |none_=>rw[JX]
 |more h1 h2 ih=>
  rw[Y6 (Made.perm hs h1) (hs _ h2)]
  have:=h _ h2
  omega
theorem zdv{n i:Nat}{L:Lv}(a:LvPre n i L)(l:List Row)(nd:l.Nodup)(h:∀p,p∈l->Made n L.makers p):l.length<=most n L:=by
 unfold most
 split
 .rename_i e
  obtain⟨x,y,h1,h2,h3,h4⟩:=Jn _ e.2
  have:=zeK (at_ L.kin) h1 h2 h3 h4 l nd (λp hp=>by
   refine⟨Made.perm a.pms (h p hp),Made.kin a.pms a.kn (h p hp),Made.even a.pms (λm hm=>?_) (h p hp)⟩
   have e1:=e.1
   rw[a.ev,List.all_eq_true] at e1
   simpa using e1 m hm)
  omega
 .exact Xn (at_ L.kin) l nd λp hp=>⟨Made.perm a.pms (h p hp),Made.kin a.pms a.kn (h p hp)⟩
theorem Closed.most{n i:Nat}{L:Lv}{Ls:List Lv}(a:yQ n i (L::Ls))(e:size (zm i (L::Ls))=most n L):Closed n i (L::Ls):=λp hp=>by
 rcases Classical.em (p∈mems n (zm i (L::Ls))) with z|z
 .exact z
 .exfalso
  have nd:(p::mems n (zm i (L::Ls))).Nodup:=List.nodup_cons.mpr ⟨z,vU a.hF a.wf⟩
  have:=zdv a.1.toLvPre _ nd (λq hq=>by
   rcases List.mem_cons.mp hq with y|y
   .rw[y];exact hp
   .exact vq a q y)
  rw[List.length_cons,vV,e] at this
  omega
theorem Lk.skip{n i:Nat}{L:Lv}{Ls:List Lv}(a:yQ n i (L::Ls))(c:Closed n i (L::Ls))(dn':List Nat):Lk n { L with done:=dn' } (nxt Ls):=by
 refine⟨a.2.1.sub,λk d m x t h1 h2 h3=>?_⟩
 have hm:=List.mem_of_getElem? h1
 have hx:=List.mem_of_getElem? h3
 obtain⟨r1,r2⟩:=Vy a.1 hx hm
 have hmem:=c _ r1
 exact vq a.2.2 _ ((vp a.hF a.wf).mpr ⟨hmem,r2 i (Nat.lt_succ_self i)⟩)
theorem Lk.tried{n i:Nat}{L:Lv}{ms:List Row}(a:LvOk n i L)(l:Lk n L ms){k:Nat}{m:Row}{x:Nat}{t:Row}(h1:L.makers[k]? = some m)(h2:L.out[L.done.getD k 0]? = some (x,t)){ms':List Row}(hms:∀m,m∈ms'->Pm n m)(sub:∀m,m∈ms->m∈ms')(sub':∀m,m∈ms'->Made n L.makers m)
  (r:Made n ms' (resid L.out t m x)):Lk n { L with done:=L.done.set k (L.done.getD k 0+1) } ms':=by
 refine⟨sub',λk' d m' x' t' g1 g2 g3=>?_⟩
 have mono:∀p,Made n ms p->Made n ms' p:=λp hp=>Made.mono hms (λq hq=>Made.gen hms (sub q hq)) hp
 by_cases e:k'=k
 .subst e
  have em:m'=m:=Option.some.inj (g1.symm.trans h1)
  subst em
  have hk:k'<L.done.length:=by rw[a.dl];exact(List.getElem?_eq_some_iff.mp h1).1
  have g2':d<L.done.getD k' 0+1:=by
   have:(L.done.set k' (L.done.getD k' 0+1)).getD k' 0=L.done.getD k' 0+1:=by
    rw[List.getD_eq_getElem?_getD,List.getElem?_set_self hk];rfl
   rw[<- this];exact g2
  by_cases e2:d=L.done.getD k' 0
  .subst e2
   have e3:(x',t')=(x,t):=Option.some.inj (g3.symm.trans h2)
   cases e3
   exact r
  .exact mono _ (l.pairs k' d m' x' t' g1 (by omega) g3)
 .have:(L.done.set k (L.done.getD k 0+1)).getD k' 0=L.done.getD k' 0:=by
   rw[List.getD_eq_getElem?_getD,List.getElem?_set_ne (λq=>e q.symm),<- List.getD_eq_getElem?_getD]
  have g2':L.done.getD k' 0 > d:=by rw[<- this];exact g2
  exact mono _ (l.pairs k' d m' x' t' g1 g2' g3)
theorem LvPre.keep{n i:Nat}{L:Lv}(a:LvPre n i L){x:Nat}{t m:Row}(hx:(x,t)∈L.out)(hm:m∈L.makers)(hn:at_ m x∉keys L.out):LvPre n i { L with out:=L.out++[(at_ m x,then_ t m)] }:=by
 have pt:=a.wf.pm x t hx
 have pm:=(a.mks m hm).1
 have hi:=a.wf.lt
 have new:∀y u,(y,u)∈L.out++[(at_ m x,then_ t m)]->(y,u)∈L.out∨(y=at_ m x/\u=then_ t m):=λy u h=>by
  rcases List.mem_append.mp h with z|z
  .exact .inl z
  .have:=List.mem_singleton.mp z
   cases this;exact .inr ⟨rfl,rfl⟩
 refine⟨⟨hi,?_,List.mem_append_left _ a.wf.one,λy u h=>?_,λy u h j hj=>?_,λy u h=>?_⟩,a.mks,λy u h=>?_,a.dl,λd hd=>?_,a.kl,a.kn,a.ev⟩
 .show((L.out++[(at_ m x,then_ t m)]).map Prod.fst).Nodup
  rw[List.map_append,List.nodup_append]
  refine⟨a.wf.nd,by simp,λp hp q hq e=>?_⟩
  have:q=at_ m x:=by simpa using hq
  rw[e,this] at hp
  exact hn hp
 .rcases new y u h with z|⟨_,z⟩
  .exact a.wf.pm y u z
  .rw[z];exact pt.then pm
 .rcases new y u h with z|⟨_,z⟩
  .exact a.wf.fx y u z j hj
  .have hj':=xH.mp hj
   rw[z,zJ (by rw[pt.1];omega),a.wf.fx x t hx j hj,(a.mks m hm).2 j hj']
 .rcases new y u h with z|⟨z1,z⟩
  .exact a.wf.tk y u z
  .rw[z,z1,zJ (by rw[pt.1];exact hi),a.wf.tk x t hx]
 .rcases new y u h with z|⟨_,z⟩
  .exact a.outm y u z
  .rw[z];exact Made.more (a.outm x t hx) hm
 .have:=a.db d hd
  show d<=(L.out++[(at_ m x,then_ t m)]).length
  rw[List.length_append];simp;omega
theorem Lk.grow{n i:Nat}{L L':Lv}{ms ms':List Row}(a:LvOk n i L)(l:Lk n L ms)(hms:∀m,m∈ms'->Pm n m)(sub:∀m,m∈ms->m∈ms'){ext:Tv}(e:L'.out=L.out++ext)(nd:(L'.out.map Prod.fst).Nodup){r:List Row}(em:L'.makers=L.makers++r)
  (ed:∀k,L'.done.getD k 0<=L.done.getD k 0) (sub':∀m,m∈ms'->Made n L'.makers m) (dk:∀k,L.makers.length<=k->L'.done.getD k 0=0):Lk n L' ms':=by
 refine⟨sub',λk d m x t h1 h2 h3=>?_⟩
 have hk:k<L.makers.length:=by
  rcases Nat.lt_or_ge k L.makers.length with z|z
  .exact z
  .have:=dk k z;omega
 have hd:L.done.getD k 0 > d:=Nat.lt_of_lt_of_le h2 (ed k)
 have hm:L.makers[k]? = some m:=by rw[em,List.getElem?_append_left hk] at h1;exact h1
 have hdl:L.done.getD k 0<=L.out.length:=by
  rw[List.getD_eq_getElem?_getD,List.getElem?_eq_getElem (by rw[a.dl];exact hk)]
  exact a.db _ (List.getElem_mem _)
 have hx:L.out[d]? = some (x,t):=by rw[e,List.getElem?_append_left (by omega)] at h3;exact h3
 have r1:=l.pairs k d m x t hm hd hx
 have hkey:=a.cl x t m (List.mem_of_getElem? hx) (List.mem_of_getElem? hm)
 have et:tOf L'.out (at_ m x)=tOf L.out (at_ m x):=vK nd (by rw[e];exact List.mem_append_left _ (ja a.wf.nd hkey))
 unfold resid at r1 ⊢
 rw[et]
 exact Made.mono hms (λq hq=>Made.gen hms (sub q hq)) r1
theorem zdL{n:Nat}{s:List Row}{r:Row}(hs:∀p,p∈s++[r]->Pm n p)(h:¬Made n s r):(made n s).length<(made n (s++[r])).length:=by
 have hs':∀p,p∈s->Pm n p:=λp hp=>hs p (List.mem_append_left _ hp)
 obtain⟨n1,m1⟩:=xX hs'
 obtain⟨n2,m2⟩:=xX hs
 have nd:(r::made n s).Nodup:=List.nodup_cons.mpr ⟨λz=>h ((m1 r).mp z),n1⟩
 have:=xW nd (l₂:=made n (s++[r])) (λx hx=>by
  rcases List.mem_cons.mp hx with z|z
  .rw[z];exact(m2 r).mpr (Made.gen hs (List.mem_append_right _ (List.mem_singleton.mpr rfl)))
  .exact(m2 x).mpr (Made.mono hs (λq hq=>Made.gen hs (List.mem_append_left _ hq)) ((m1 x).mp z)))
 rw[List.length_cons] at this
 exact this
theorem Js{n:Nat}{s:List Row}(hs:∀p,p∈s->Pm n p):(made n s).length<=factorial n :=
 YQ _ (xX hs).1 λp hp=>Made.perm hs (((xX hs).2 p).mp hp)
end GP
end
section
set_option autoImplicit false
set_option linter.all false
namespace GP
open Md07
def ye(n:Nat)(C:Chain):Prop:=∀p q,p∈mems n C->q∈mems n C->then_ p q∈mems n C
theorem ye.tail{n b:Nat}{T:Tv}{rest:Chain}{F:List Nat}(hF:∀j,j∈F->j<n)(w:WfC n F ((b,T)::rest))(g:ye n ((b,T)::rest)):ye n rest:=λp q hp hq=>by
 obtain⟨p1,p2⟩:=(vp hF w).mp hp
 obtain⟨q1,q2⟩:=(vp hF w).mp hq
 refine(vp hF w).mpr ⟨g p q p1 q1,?_⟩
 rw[zJ (by rw[(yb hF w p p1).1.1];exact w.1.lt),p2,q2]
theorem ye.grp{n:Nat}{C:Chain}{F:List Nat}(hF:∀j,j∈F->j<n)(w:WfC n F C)(g:ye n C):Grp n (mems n C) :=
 ⟨vU hF w,λp hp=>(yb hF w p hp).1,jy w,g⟩
def below(hi lo:Tv)(b2:Nat):Tv:=hi.filterMap λxh=>match lo.lookup (at_ (inv xh.2) b2) with
 |none=>none
 |some l=>some (xh.1,then_ l xh.2)
theorem uC{hi lo:Tv}{b2 x:Nat}{u:Row}:(x,u)∈below hi lo b2↔∃h l,(x,h)∈hi/\lo.lookup (at_ (inv h) b2)=some l/\u=then_ l h:=by
 unfold below
 rw[List.mem_filterMap]
 constructor
 .rintro ⟨⟨x',h⟩,h1,h2⟩
  cases e:lo.lookup (at_ (inv h) b2) with
  |none=>rw[e] at h2;cases h2
  |some l=>
   rw[e] at h2
   have:=Option.some.inj h2
   cases this
   exact⟨h,l,h1,e,rfl⟩
 .rintro ⟨h,l,h1,h2,h3⟩
  refine⟨(x,h),h1,?_⟩
  rw[h2,h3]
theorem Zh{hi lo:Tv}{b2:Nat}:List.Sublist ((below hi lo b2).map Prod.fst) (hi.map Prod.fst):=by
 unfold below
 induction hi with
 |nil=>exact List.Sublist.slnil
 |cons xh hi ih=>
  rw[List.filterMap_cons]
  cases e:lo.lookup (at_ (inv xh.2) b2) with
  |none=>exact List.Sublist.cons _ ih
  |some l=>exact List.Sublist.cons_cons _ ih
structure Takes(n:Nat)(hi lo tk:Tv)(b2:Nat):Prop where
 nd:(tk.map Prod.fst).Nodup
 one:(b2,none_ n)∈tk
 from_:∀z u,(z,u)∈tk->∃x h y l,(x,h)∈hi/\(y,l)∈lo/\z=at_ h y/\u=then_ l h
def Whole(hi lo tk:Tv):Prop:=∀x h y l,(x,h)∈hi->(y,l)∈lo->at_ h y∈keys tk
section
variable{n b1 b2:Nat}{hi lo tk:Tv}{rest:Chain}{F:List Nat}
theorem jd(hF:∀j,j∈F->j<n)(w:WfC n F ((b1,hi)::(b2,lo)::rest)):WfL n (b2::F) b1 (below hi lo b2):=by
 obtain⟨w1,w2,w3⟩:=w
 refine⟨w1.lt,w1.nd.sublist Zh,uC.mpr ⟨none_ n,none_ n,w1.one,?_,(wn Pm.none).symm⟩,?_,?_,?_⟩
 .have:at_ (inv (none_ n)) b2=b2:=by
   have:=yK (Pm.none (n:=n)) w2.lt
   rwa [at_none w2.lt] at this
  rw[this]
  exact yN w2.nd w2.one
 .intro x u hm0
  obtain⟨h,l,h1,h2,rfl⟩:=uC.mp hm0
  exact(w2.pm _ l (wr h2)).then (w1.pm x h h1)
 .intro x u hm0 j hj
  obtain⟨h,l,h1,h2,rfl⟩:=uC.mp hm0
  have hl:=wr h2
  have ph:=w1.pm x h h1
  have pl:=w2.pm _ l hl
  rcases List.mem_cons.mp hj with e|e
  .subst e
   rw[zJ (by rw[pl.1];exact w2.lt),w2.tk _ l hl,jS ph w2.lt]
  .rw[zJ (by rw[pl.1];exact hF j e),w2.fx _ l hl j (List.mem_cons_of_mem _ e),w1.fx x h h1 j e]
 .intro x u hm0
  obtain⟨h,l,h1,h2,rfl⟩:=uC.mp hm0
  have hl:=wr h2
  have pl:=w2.pm _ l hl
  rw[zJ (by rw[pl.1];exact w1.lt),w2.fx _ l hl b1 List.mem_cons_self,w1.tk x h h1]
theorem ZH(hF:∀j,j∈F->j<n)(w:WfC n F ((b1,hi)::(b2,lo)::rest))(t:Takes n hi lo tk b2):WfL n F b2 tk:=by
 obtain⟨w1,w2,w3⟩:=w
 refine⟨w2.lt,t.nd,t.one,?_,?_,?_⟩
 .intro z u hm0
  obtain⟨x,h,y,l,h1,h2,_,rfl⟩:=t.from_ z u hm0
  exact(w2.pm y l h2).then (w1.pm x h h1)
 .intro z u hm0 j hj
  obtain⟨x,h,y,l,h1,h2,_,rfl⟩:=t.from_ z u hm0
  rw[zJ (by rw[(w2.pm y l h2).1];exact hF j hj),w2.fx y l h2 j (List.mem_cons_of_mem _ hj),w1.fx x h h1 j hj]
 .intro z u hm0
  obtain⟨x,h,y,l,h1,h2,rfl,rfl⟩:=t.from_ z u hm0
  rw[zJ (by rw[(w2.pm y l h2).1];exact w2.lt),w2.tk y l h2]
theorem WfC.swapF:∀{C:Chain}{F F':List Nat},(∀j,j∈F↔j∈F')->WfC n F C->WfC n F' C
 |[],F,F',h,w=>λx hx=>(h x).mp (w x hx)
 |(b,T)::rest,F,F',h,w=>⟨⟨w.1.lt,w.1.nd,w.1.one,w.1.pm,λx t hx j hj=>w.1.fx x t hx j ((h j).mpr hj),w.1.tk⟩,WfC.swapF (λj=>by rw[List.mem_cons,List.mem_cons,h j]) w.2⟩
theorem ZG(hF:∀j,j∈F->j<n)(w:WfC n F ((b1,hi)::(b2,lo)::rest))(t:Takes n hi lo tk b2):WfC n F ((b2,tk)::(b1,below hi lo b2)::rest) :=
 ⟨ZH hF w t,jd hF w,WfC.swapF (λj=>by simp only[List.mem_cons];constructor<;>(rintro (h|h|h)<;>simp[h])) w.2.2⟩
theorem VF(w:WfC n F ((b1,hi)::(b2,lo)::rest)){x y:Nat}{h l:Row}(h1:(x,h)∈hi)(h2:(y,l)∈lo):then_ l h∈mems n ((b1,hi)::(b2,lo)::rest) :=
 yi.mpr ⟨x,h,l,h1,jx w.2 h2,rfl⟩
theorem Jt(hF:∀j,j∈F->j<n)(w:WfC n F ((b1,hi)::(b2,lo)::rest)){p:Row}:p∈mems n ((b1,below hi lo b2)::rest)↔p∈mems n ((b1,hi)::(b2,lo)::rest)/\at_ p b2=b2:=by
 have hF1:=xb hF w.1.lt
 have hF2:=xb hF1 w.2.1.lt
 constructor
 .intro hm0
  have w':WfC n (b2::F) ((b1,below hi lo b2)::rest):=⟨jd hF w,WfC.swapF (λj=>by simp only[List.mem_cons];constructor<;>(rintro (h|h|h)<;>simp[h])) w.2.2⟩
  refine⟨?_,(yb (xb hF w.2.1.lt) w' p hm0).2 b2 List.mem_cons_self⟩
  obtain⟨x,u,q,h1,h2,rfl⟩:=yi.mp hm0
  obtain⟨h,l,g1,g2,rfl⟩:=uC.mp h1
  have hl:=wr g2
  have pq:=(yb hF2 w.2.2 q h2).1
  refine yi.mpr ⟨x,h,then_ q l,g1,yi.mpr ⟨_,l,q,hl,h2,rfl⟩,?_⟩
  rw[yz pq (w.2.1.pm _ l hl)]
 .rintro ⟨hm0,e⟩
  obtain⟨x,h,q,h1,h2,rfl⟩:=yi.mp hm0
  obtain⟨y,l,r,g1,g2,rfl⟩:=yi.mp h2
  have pr:=(yb hF2 w.2.2 r g2)
  have pl:=w.2.1.pm y l g1
  have ph:=w.1.pm x h h1
  have e2:at_ h y=b2:=by
   rw[zJ (by rw[yf,pr.1.1];exact w.2.1.lt),zJ (by rw[pr.1.1];exact w.2.1.lt),pr.2 b2 List.mem_cons_self,w.2.1.tk y l g1] at e
   exact e
  have e3:at_ (inv h) b2=y:=by rw[<- e2];exact yK ph (w.2.1.key g1)
  refine yi.mpr ⟨x,then_ l h,r,uC.mpr ⟨h,l,h1,by rw[e3];exact yN w.2.1.nd g1,rfl⟩,g2,?_⟩
  rw[yz pr.1 pl]
theorem Wn(hF:∀j,j∈F->j<n)(w:WfC n F ((b1,hi)::(b2,lo)::rest))(g:ye n ((b1,hi)::(b2,lo)::rest))(t:Takes n hi lo tk b2)(wh:Whole hi lo tk)(p:Row) :
  p∈mems n ((b2,tk)::(b1,below hi lo b2)::rest)↔p∈mems n ((b1,hi)::(b2,lo)::rest):=by
 have G:=ye.grp hF w g
 constructor
 .intro h
  obtain⟨z,u,q,h1,h2,rfl⟩:=yi.mp h
  obtain⟨x,h,y,l,g1,g2,_,rfl⟩:=t.from_ z u h1
  exact g _ _ ((Jt hF w).mp h2).1 (VF w g1 g2)
 .intro hm0
  have pp:=G.pm p hm0
  rw[Xf hF (ZG hF w t) pp]
  have hz:at_ p b2∈keys tk:=by
   obtain⟨x,h,q,h1,h2,rfl⟩:=yi.mp hm0
   obtain⟨y,l,r,g1,g2,rfl⟩:=yi.mp h2
   have pr:=(yb (xb (xb hF w.1.lt) w.2.1.lt) w.2.2 r g2)
   rw[zJ (by rw[yf,pr.1.1];exact w.2.1.lt),zJ (by rw[pr.1.1];exact w.2.1.lt),pr.2 b2 List.mem_cons_self,w.2.1.tk y l g1]
   exact wh x h y l h1 g1
  have hu:=ja t.nd hz
  refine⟨_,hu,(Jt hF w).mpr ⟨?_,?_⟩⟩
  .obtain⟨x,h',y,l,g1,g2,_,e⟩:=t.from_ _ _ hu
   rw[e]
   exact g _ _ hm0 (G.invr (VF w g1 g2))
  .have wl:=ZH hF w t
   have pu:=wl.pm _ _ hu
   have h1:=yK pu w.2.1.lt
   rw[wl.tk _ _ hu] at h1
   rw[zJ (by rw[pp.1];exact w.2.1.lt)]
   exact h1
theorem Y3:∀(c a:Tv),(a.map Prod.fst).Nodup->∃t:Tv,(t.map Prod.fst).Nodup/\(∀z u,(z,u)∈a->(z,u)∈t)/\(∀z u,(z,u)∈t->(z,u)∈a∨(z,u)∈c)/\∀z u,(z,u)∈c->z∈keys t
 |[],a,nd=>⟨a,nd,λ_ _ h=>h,λ_ _ h=>.inl h,λz u h=>absurd h List.not_mem_nil⟩
 |(z,u)::c,a,nd=>by
  by_cases e:z∈keys a
  .obtain⟨t,t1,t2,t3,t4⟩:=Y3 c a nd
   refine⟨t,t1,t2,λz' u' h=>?_,λz' u' h=>?_⟩
   .rcases t3 z' u' h with y|y
    .exact .inl y
    .exact .inr (List.mem_cons_of_mem _ y)
   .rcases List.mem_cons.mp h with y|y
    .cases y
     obtain⟨⟨z2,u2⟩,y1,y2⟩:=List.mem_map.mp e
     have y2':z2=z:=y2
     subst y2'
     exact List.mem_map.mpr ⟨_,t2 _ _ y1,rfl⟩
    .exact t4 z' u' y
  .obtain⟨t,t1,t2,t3,t4⟩:=Y3 c ((z,u)::a) (by rw[List.map_cons,List.nodup_cons];exact⟨e,nd⟩)
   refine⟨t,t1,λz' u' h=>t2 z' u' (List.mem_cons_of_mem _ h),λz' u' h=>?_,λz' u' h=>?_⟩
   .rcases t3 z' u' h with y|y
    .rcases List.mem_cons.mp y with q|q
     .cases q;exact .inr List.mem_cons_self
     .exact .inl q
    .exact .inr (List.mem_cons_of_mem _ y)
   .rcases List.mem_cons.mp h with y|y
    .cases y
     exact List.mem_map.mpr ⟨_,t2 _ _ List.mem_cons_self,rfl⟩
    .exact t4 z' u' y
theorem zaa(hF:∀j,j∈F->j<n)(w:WfC n F ((b1,hi)::(b2,lo)::rest)):∃tk,Takes n hi lo tk b2/\Whole hi lo tk:=by
 obtain⟨t,t1,t2,t3,t4⟩:=Y3 (hi.flatMap λxh=>lo.map λyl=>(at_ xh.2 yl.1,then_ yl.2 xh.2)) [(b2,none_ n)] (by simp)
 have hc:∀x h y l,(x,h)∈hi->(y,l)∈lo->(at_ h y,then_ l h)∈(hi.flatMap λxh=>lo.map λyl=>(at_ xh.2 yl.1,then_ yl.2 xh.2)):=λx h y l h1 h2=>
  List.mem_flatMap.mpr ⟨(x,h),h1,List.mem_map.mpr ⟨(y,l),h2,rfl⟩⟩
 refine⟨t,⟨t1,t2 _ _ List.mem_cons_self,λz u hm0=>?_⟩,λx h y l h1 h2=>t4 _ _ (hc x h y l h1 h2)⟩
 rcases t3 z u hm0 with e|e
 .have:=List.mem_singleton.mp e
  cases this
  exact⟨b1,none_ n,b2,none_ n,w.1.one,w.2.1.one,(at_none w.2.1.lt).symm,(wn Pm.none).symm⟩
 .obtain⟨⟨x,h⟩,h1,h2⟩:=List.mem_flatMap.mp e
  obtain⟨⟨y,l⟩,h3,h4⟩:=List.mem_map.mp h2
  cases h4
  exact⟨x,h,y,l,h1,h3,rfl,rfl⟩
theorem Q8(hF:∀j,j∈F->j<n)(w:WfC n F ((b1,hi)::(b2,lo)::rest))(g:ye n ((b1,hi)::(b2,lo)::rest))(t:Takes n hi lo tk b2)(wh:Whole hi lo tk):hi.length*lo.length=tk.length*(below hi lo b2).length:=by
 have e:=(YO (vU hF (ZG hF w t)) (vU hF w) (Wn hF w g t wh)).length_eq
 rw[vV,vV] at e
 have e':tk.length*((below hi lo b2).length*size rest)=hi.length*(lo.length*size rest):=e
 have sp:=ji w.2.2
 rw[<- Nat.mul_assoc,<- Nat.mul_assoc] at e'
 exact(Nat.eq_of_mul_eq_mul_right sp e').symm
theorem Q7(hF:∀j,j∈F->j<n)(w:WfC n F ((b1,hi)::(b2,lo)::rest))(g:ye n ((b1,hi)::(b2,lo)::rest))(t:Takes n hi lo tk b2)(h:hi.length*lo.length / (below hi lo b2).length<=tk.length):Whole hi lo tk:=by
 obtain⟨tk',t',wh'⟩:=zaa hF w
 have e:=Q8 hF w g t' wh'
 have bp:0<(below hi lo b2).length:=List.length_pos_of_mem (jd hF w).one
 rw[e,Nat.mul_div_cancel _ bp] at h
 have sub:∀z,z∈keys tk->z∈keys tk':=λz hz=>by
  obtain⟨⟨z',u⟩,h1,h2⟩:=List.mem_map.mp hz
  have h2':z'=z:=h2
  subst h2'
  obtain⟨x,h,y,l,g1,g2,rfl,_⟩:=t.from_ _ u h1
  exact wh' x h y l g1 g2
 have pe:=uq t.nd sub (by rw[keys,List.length_map,List.length_map];exact h)
 intro x h y l h1 h2
 exact pe.mem_iff.mpr (wh' x h y l h1 h2)
end
def wH:List Nat->Chain->List Nat
 |F,[]=>F
 |F,(b,_)::C=>wH (b::F) C
theorem X8{n:Nat}:∀{A C C':Chain}{F:List Nat},WfC n F (A++C)->(WfC n (wH F A) C->WfC n (wH F A) C')->WfC n F (A++C')
 |[],C,C',F,w,h=>h w
 |(b,T)::A,C,C',F,w,h=>⟨w.1,X8 w.2 h⟩
theorem uc{n:Nat}:∀{A C:Chain}{F:List Nat},(∀j,j∈F->j<n)->WfC n F (A++C)->(∀j,j∈wH F A->j<n)/\WfC n (wH F A) C
 |[],C,F,hF,w=>⟨hF,w⟩
 |(b,T)::A,C,F,hF,w=>uc (A:=A) (xb hF w.1.lt) w.2
theorem XA{n:Nat}:∀{A C:Chain}{F:List Nat},(∀j,j∈F->j<n)->WfC n F (A++C)->ye n (A++C)->ye n C
 |[],C,F,hF,w,g=>g
 |(b,T)::A,C,F,hF,w,g=>XA (A:=A) (xb hF w.1.lt) w.2 (ye.tail hF w g)
theorem uB{n:Nat}:∀{A C C':Chain},(∀p,p∈mems n C↔p∈mems n C')->∀p,p∈mems n (A++C)↔p∈mems n (A++C')
 |[],C,C',h,p=>h p
 |(b,T)::A,C,C',h,p=>by
  have ih:=uB (A:=A) h
  show p∈mems n ((b,T)::(A++C))↔p∈mems n ((b,T)::(A++C'))
  rw[yi,yi]
  constructor
  .rintro ⟨x,t,q,a,c,d⟩;exact⟨x,t,q,a,(ih q).mp c,d⟩
  .rintro ⟨x,t,q,a,c,d⟩;exact⟨x,t,q,a,(ih q).mpr c,d⟩
theorem ye.of{n:Nat}{C C':Chain}(h:∀p,p∈mems n C'↔p∈mems n C)(g:ye n C):ye n C':=λp q hp hq=>(h _).mpr (g p q ((h p).mp hp) ((h q).mp hq))
structure y6(n k:Nat)(p:Row)(g:List Row)(A C:Chain)(row c:Row):Prop where
 len:A.length=k
 base:∀j b T,A[j]? = some (b,T)->at_ row j=b
 wf:WfC n [] (A++C)
 grp:ye n (A++C)
 pr:Pm n row
 pc:Pm n c
 sub:∀h,h∈mems n C->∃q,q∈g/\then_ p q=then_ (then_ row h) c
 rest:∀q,q∈g->(∃h,h∈mems n C/\then_ p q=then_ (then_ row h) c)∨∀h,h∈mems n C->before (then_ (then_ row h) c) (then_ p q)=true
theorem YK{j:Nat}:∀{A:Chain}{F:List Nat},j∈wH F A↔j∈F∨∃T,(j,T)∈A
 |[],F=>by simp[wH]
 |(b,T)::A,F=>by
  unfold wH
  rw[YK,List.mem_cons]
  constructor
  .rintro ((h|h)|⟨U,h⟩)
   .exact .inr ⟨T,by rw[h];exact List.mem_cons_self⟩
   .exact .inl h
   .exact .inr ⟨U,List.mem_cons_of_mem _ h⟩
  .rintro (h|⟨U,h⟩)
   .exact .inl (.inr h)
   .rcases List.mem_cons.mp h with e|e
    .cases e;exact .inl (.inl rfl)
    .exact .inr ⟨U,e⟩
theorem y6.start{n:Nat}{p:Row}{g:List Row}{C:Chain}(hp:Pm n p)(wf:WfC n [] C)(gr:ye n C)(mem:∀q,q∈mems n C↔q∈g):y6 n 0 p g [] C p (none_ n):=by
 refine⟨rfl,λj b T h=>by simp at h,wf,gr,hp,Pm.none,λh hh=>⟨h,(mem h).mp hh,?_⟩,λq hq=>.inl ⟨q,(mem q).mpr hq,?_⟩⟩
 .rw[yL (hp.then (yb yD wf h hh).1)]
 .rw[yL (hp.then (yb yD wf q ((mem q).mpr hq)).1)]
theorem y6.undo{n k:Nat}{p:Row}{g:List Row}{A C:Chain}{row c t:Row}{b:Nat}{T:Tv}(I:y6 n k p g A ((b,T)::C) row c)(hk:k<n)(h:(at_ row k,t)∈T):y6 n k p g A ((b,T)::C) (then_ row (inv t)) c/\at_ (then_ row (inv t)) k=b:=by
 obtain⟨hF,w⟩:=uc yD I.wf
 have gr:=XA yD I.wf I.grp
 have G:=ye.grp hF w gr
 have tm:=jx w h
 have pt:=w.1.pm _ t h
 have e1:∀q,q∈mems n ((b,T)::C)->then_ (then_ (then_ row (inv t)) q) c=then_ (then_ row (then_ (inv t) q)) c:=λq hq=>by rw[yz I.pr pt.inv]
 refine⟨⟨I.len,λj b' T' hj=>?_,I.wf,I.grp,I.pr.then pt.inv,I.pc,λq hq=>?_,λq hq=>?_⟩,?_⟩
 .have hjk:j<k:=by rw[<- I.len];exact(List.getElem?_eq_some_iff.mp hj).1
  have e:=I.base j b' T' hj
  rw[zJ (by rw[I.pr.1];omega),e]
  have hb:b'∈wH [] A:=YK.mpr (.inr ⟨T',List.mem_of_getElem? hj⟩)
  have:=yK pt (hF b' hb)
  rw[w.1.fx _ t h b' hb] at this;exact this
 .rw[e1 q hq]
  exact I.sub _ (G.mul _ _ (G.invr tm) hq)
 .rcases I.rest q hq with ⟨x,hx,e⟩|z
  .refine .inl ⟨then_ t x,G.mul _ _ tm hx,?_⟩
   rw[e1 _ (G.mul _ _ tm hx),<- yz pt.inv pt,uL pt,wn (G.pm x hx)];exact e
  .refine .inr λx hx=>?_
   rw[e1 x hx]
   exact z _ (G.mul _ _ (G.invr tm) hx)
 .rw[zJ (by rw[I.pr.1];exact hk)]
  have:=yK pt w.1.lt
  rw[w.1.tk _ t h] at this;exact this
theorem y6.pick{n k:Nat}{p:Row}(hp:Pm n p){g:List Row}{A C:Chain}{row c t:Row}{b y:Nat}{T:Tv}(I:y6 n k p g A ((b,T)::C) row c)(hk:k<n)(hb:at_ row k=b)(h:(y,t)∈T)(least:∀z u,(z,u)∈T->at_ c y<=at_ c z) :
  y6 n (k+1) p g (A++[(b,T)]) C row (then_ t c):=by
 obtain⟨hF,w⟩:=uc yD I.wf
 have hF':=xb hF w.1.lt
 have pt:=w.1.pm _ t h
 have ea:(A++[(b,T)])++C=A++(b,T)::C:=by simp
 have e1:∀q,q∈mems n C->then_ (then_ row q) (then_ t c)=then_ (then_ row (then_ q t)) c:=λq hq=>by
  have pq:=(yb hF' w.2 q hq).1
  rw[<- yz (I.pr.then pq) pt,yz I.pr pq]
 have vk:∀x u q,(x,u)∈T->q∈mems n C->at_ (then_ (then_ row (then_ q u)) c) k=at_ c x:=λx u q hx hq=>by
  have mm:then_ q u∈mems n ((b,T)::C):=yi.mpr ⟨x,u,q,hx,hq,rfl⟩
  have pq:=(yb hF w _ mm).1
  rw[zJ (p:=then_ row (then_ q u)) (by rw[yf,I.pr.1];exact hk),zJ (p:=row) (by rw[I.pr.1];exact hk),hb,vb hF w hx hq]
 have vj:∀j q,j<k->q∈mems n ((b,T)::C)->at_ (then_ (then_ row q) c) j=at_ c (at_ row j):=λj q hj hq=>by
  have pq:=yb hF w q hq
  have hjA:j<A.length:=by rw[I.len];exact hj
  have e:=I.base j _ _ (List.getElem?_eq_getElem hjA)
  rw[zJ (p:=then_ row q) (by rw[yf,I.pr.1];omega),zJ (p:=row) (by rw[I.pr.1];omega),e,pq.2 _ (YK.mpr (.inr ⟨_,List.getElem_mem hjA⟩))]
 refine⟨by rw[List.length_append,I.len];rfl,λj b' T' hj=>?_,by rw[ea];exact I.wf,by rw[ea];exact I.grp,I.pr,pt.then I.pc,λq hq=>?_,λq hq=>?_⟩
 .rcases Nat.lt_or_ge j A.length with z|z
  .rw[List.getElem?_append_left z] at hj
   exact I.base j b' T' hj
  .rw[List.getElem?_append_right z] at hj
   have hj0:j-A.length=0:=by
    rcases Nat.eq_zero_or_pos (j-A.length) with q|q
    .exact q
    .rw[List.getElem?_eq_none (by simp;omega)] at hj;cases hj
   rw[hj0] at hj
   have:(b,T)=(b',T'):=by simpa using hj
   cases this
   have:j=k:=by have:=I.len;omega
   rw[this];exact hb
 .rw[e1 q hq]
  exact I.sub _ (yi.mpr ⟨y,t,q,h,hq,rfl⟩)
 .rcases I.rest q hq with ⟨x,hx,e⟩|z
  .obtain⟨z,u,r,g1,g2,rfl⟩:=yi.mp hx
   by_cases ez:z=y
   .subst ez
    have:=jC w.1.nd g1 h
    subst this
    exact .inl ⟨r,g2,by rw[e1 r g2];exact e⟩
   .refine .inr λs hs=>?_
    rw[e1 s hs,e]
    have mm:then_ s t∈mems n ((b,T)::C):=yi.mpr ⟨y,t,s,h,hs,rfl⟩
    apply v8 (i:=k)
    .rw[yf,yf,yf,yf]
    .rw[yf,yf,I.pr.1];exact hk
    .intro j hj
     rw[vj j _ hj mm,vj j _ hj hx]
    .rw[vk y t s h hs,vk z u r g1 g2]
     have l1:=least z u g1
     have ne:at_ c y≠at_ c z:=λq=>ez (I.pc.at_inj (w.1.key h) (w.1.key g1) q).symm
     omega
  .refine .inr λs hs=>?_
   rw[e1 s hs]
   exact z _ (yi.mpr ⟨y,t,s,h,hs,rfl⟩)
theorem kJ:∀(l:List Row)(a:Row),l.foldl (λ(a b:Row)=>if before b a=true then b else a) a=a∨l.foldl (λ(a b:Row)=>if before b a=true then b else a) a∈l
 |[],a=>.inl rfl
 |x::l,a=>by
  rw[List.foldl_cons]
  rcases kJ l (if before x a=true then x else a) with h|h
  .rw[h]
   split
   .exact .inr List.mem_cons_self
   .exact .inl rfl
  .exact .inr (List.mem_cons_of_mem _ h)
theorem JD(m:Nat):∀(l:List Row)(a:Row),a.length=m->(∀x,x∈l->x.length=m)->∀r,r∈a::l->r=l.foldl (λ(a b:Row)=>if before b a=true then b else a) a∨before (l.foldl (λ(a b:Row)=>if before b a=true then b else a) a) r=true
 |[],a,_,_,r,h=>by rw[List.mem_singleton] at h;exact .inl h
 |x::l,a,ha,hl,r,h=>by
  rw[List.foldl_cons]
  have hx:=hl x List.mem_cons_self
  have hl':∀y,y∈l->y.length=m:=λy hy=>hl y (List.mem_cons_of_mem _ hy)
  have hb:(if before x a=true then x else a).length=m:=by split<;>assumption
  have ih:=JD m l (if before x a=true then x else a) hb hl'
  have lm:(l.foldl (λ(a b:Row)=>if before b a=true then b else a) (if before x a=true then x else a)).length=m:=by
   rcases kJ l (if before x a=true then x else a) with e|e
   .rw[e];exact hb
   .exact hl' _ e
  have hbm:=ih _ List.mem_cons_self
  have key:r=(if before x a=true then x else a)∨before (if before x a=true then x else a) r=true∨r∈l:=by
   rcases List.mem_cons.mp h with e|e
   .subst e
    split
    .rename_i q;exact .inr (.inl q)
    .exact .inl rfl
   .rcases List.mem_cons.mp e with e|e
    .subst e
     split
     .exact .inl rfl
     .rename_i q
      by_cases c:r=a
      .exact .inl c
      .rcases QL (hx.trans ha.symm) c with z|z
       .exact absurd z q
       .exact .inr (.inl z)
    .exact .inr (.inr e)
  have hr:r.length=m:=by
   rcases List.mem_cons.mp h with e|e
   .rw[e];exact ha
   .exact hl _ e
  rcases key with e|e|e
  .rw[e];exact hbm
  .rcases hbm with z|z
   .rw[<- z];exact .inr e
   .exact .inr (XZ (lm.trans hb.symm) (hb.trans hr.symm) z e)
  .exact ih r (List.mem_cons_of_mem _ e)
theorem zd2{m:Nat}{l:List Row}{r:Row}(hl:∀x,x∈l->x.length=m)(hr:r∈l)(h:∀x,x∈l->x=r∨before r x=true):least l=r:=by
 unfold least
 cases l with
 |nil=>exact absurd hr List.not_mem_nil
 |cons a l=>
  show(a::l).foldl _ a=r
  have ha:=hl a List.mem_cons_self
  have hm:(a::l).foldl (λ(a b:Row)=>if before b a=true then b else a) a∈a::l:=by
   rcases kJ (a::l) a with e|e
   .rw[e];exact List.mem_cons_self
   .exact e
  rcases JD m (a::l) a ha hl r (List.mem_cons_of_mem _ hr) with e|e
  .exact e.symm
  .rcases h _ hm with z|z
   .exact z
   .have:=XZ ((hl r hr).trans (hl _ hm).symm) ((hl _ hm).trans (hl r hr).symm) z e
    rw[Zi] at this;cases this
theorem y6.last{n:Nat}{p:Row}(hp:Pm n p){g:List Row}(hg:∀q,q∈g->Pm n q){A:Chain}{row c:Row}(I:y6 n n p g A [] row c):least (g.map λ(q:Row)=>then_ p q)=then_ row c:=by
 have e0:then_ (then_ row (none_ n)) c=then_ row c:=by rw[yL I.pr]
 have m0:none_ n∈mems n []:=List.mem_singleton.mpr rfl
 obtain⟨q,hq,e⟩:=I.sub _ m0
 apply zd2 (m:=n)
 .intro x hx
  obtain⟨q,hq,rfl⟩:=List.mem_map.mp hx
  rw[yf,hp.1]
 .exact List.mem_map.mpr ⟨q,hq,by rw[e,e0]⟩
 .intro x hx
  obtain⟨q,hq,rfl⟩:=List.mem_map.mp hx
  rcases I.rest q hq with ⟨h,hh,e⟩|z
  .have:h=none_ n:=List.mem_singleton.mp hh
   subst this
   exact .inl (by rw[e,e0])
  .have:=z _ m0
   rw[e0] at this
   exact .inr this
end GP
end
section
set_option autoImplicit false
set_option linter.all false
namespace GP
open Md07
theorem zeJ{n:Nat}{s g:List Row}(hs:∀p,p∈s->Pm n p)(mem:∀p,p∈g↔Made n s p):(g.all λ(q:Row)=>inversions q % 2 == 0)=s.all λm=>inversions m % 2 == 0:=by
 rw[Bool.eq_iff_iff,List.all_eq_true,List.all_eq_true]
 constructor
 .intro h m hm
  exact h m ((mem m).mpr (Made.gen hs hm))
 .intro h p hp
  have:=Made.even hs (λm hm=>by simpa using h m hm) ((mem p).mp hp)
  simp[this]
theorem zff{n:Nat}{s g:List Row}(hs:∀p,p∈s->Pm n p)(mem:∀p,p∈g↔Made n s p){p:Row}(hp:Pm n p):(g.all λ(q:Row)=>then_ p q == then_ q p)=s.all λm=>then_ p m == then_ m p:=by
 rw[Bool.eq_iff_iff,List.all_eq_true,List.all_eq_true]
 constructor
 .intro h m hm
  exact h m ((mem m).mpr (Made.gen hs hm))
 .intro h q hq0
  have hq:=(mem q).mp hq0
  have key:then_ p q=then_ q p:=by
   clear mem hq0
   induction hq with
   |none_=>rw[yL hp,wn hp]
   |more h1 h2 ih=>
    rename_i a b
    have pa:=Made.perm hs h1
    have pb:=hs _ h2
    have e2:then_ p b=then_ b p:=by simpa using h _ h2
    rw[<- yz hp pa,ih,yz pa hp,e2,yz pa pb]
  simp[key]
theorem zeu{n:Nat}{s g g':List Row}(hs:∀p,p∈s->Pm n p)(mem:∀p,p∈g↔Made n s p)(G:Grp n g'):(g.all λ(p:Row)=>g'.contains p)=s.all λm=>g'.contains m:=by
 rw[Bool.eq_iff_iff,List.all_eq_true,List.all_eq_true]
 constructor
 .intro h m hm
  exact h m ((mem m).mpr (Made.gen hs hm))
 .intro h p hp
  have:=Made.sub (M:=λr=>r∈g') G.one (λp q hp hq=>G.mul p q hp (List.contains_iff_mem.mp (h q hq))) ((mem p).mp hp)
  exact List.contains_iff_mem.mpr this
theorem Xi{n:Nat}{s t u v:List Row}(hs:∀p,p∈s->Pm n p)(ht:∀p,p∈t->Pm n p)(hu:∀p,p∈u->Pm n p)(hv:∀p,p∈v->Pm n p)(h1:∀p,Made n s p↔Made n u p)(h2:∀p,Made n t p↔Made n v p)(p:Row) :
  Made n (s++t) p↔Made n (u++v) p:=by
 have hst:∀p,p∈s++t->Pm n p:=λp h=>(List.mem_append.mp h).elim (hs p) (ht p)
 have huv:∀p,p∈u++v->Pm n p:=λp h=>(List.mem_append.mp h).elim (hu p) (hv p)
 constructor
 .refine Made.mono huv λq hq=>?_
  rcases List.mem_append.mp hq with h|h
  .exact Made.mono huv (λr hr=>Made.gen huv (List.mem_append_left _ hr)) ((h1 q).mp (Made.gen hs h))
  .exact Made.mono huv (λr hr=>Made.gen huv (List.mem_append_right _ hr)) ((h2 q).mp (Made.gen ht h))
 .refine Made.mono hst λq hq=>?_
  rcases List.mem_append.mp hq with h|h
  .exact Made.mono hst (λr hr=>Made.gen hst (List.mem_append_left _ hr)) ((h1 q).mpr (Made.gen hu h))
  .exact Made.mono hst (λr hr=>Made.gen hst (List.mem_append_right _ hr)) ((h2 q).mpr (Made.gen hv h))
theorem Jr{n:Nat}{s t:List Row}(hs:∀p,p∈s->Pm n p)(h:∀p,p∈s↔p∈t)(p:Row):Made n s p↔Made n t p:=by
 have ht:∀p,p∈t->Pm n p:=λp hp=>hs p ((h p).mpr hp)
 exact⟨Made.mono ht λq hq=>Made.gen ht ((h q).mp hq),Made.mono hs λq hq=>Made.gen hs ((h q).mpr hq)⟩
theorem zdN{n:Nat}{s t:List Row}(hs:∀p,p∈s->Pm n p)(h:∀p,p∈t->Made n s p)(p:Row):Made n (s++t) p↔Made n s p:=by
 have hst:∀p,p∈s++t->Pm n p:=λp hp=>(List.mem_append.mp hp).elim (hs p) (λz=>Made.perm hs (h p z))
 refine⟨Made.mono hs λq hq=>?_,Made.mono hst λq hq=>Made.gen hst (List.mem_append_left _ hq)⟩
 rcases List.mem_append.mp hq with z|z
 .exact Made.gen hs z
 .exact h q z
theorem Wc{n:Nat}{g:List Row}(G:Grp n g){i j:Nat}(hi:i<n){t:Row}(ht:t∈g)(e:at_ t i=j):(g.filter λ(p:Row)=>at_ p i == j).length=(g.filter λ(p:Row)=>at_ p i == i).length:=by
 have pt:=G.pm t ht
 have ndm:∀(l:List Row)(u:Row),Pm n u->l.Nodup->(∀p,p∈l->Pm n p)->(l.map λp=>then_ p u).Nodup:=λl u pu nd hl=>by
  rw[List.nodup_iff_pairwise_ne,List.pairwise_map]
  apply List.Pairwise.imp_of_mem _ (List.nodup_iff_pairwise_ne.mp nd)
  intro a b ha hb hab z
  exact hab (jZ (hl a ha) (hl b hb) pu z)
 apply Nat.le_antisymm
 .have:=xW (ndm _ _ pt.inv (G.nd.filter λp=>at_ p i == j) (λp hp=>G.pm p (List.mem_filter.mp hp).1)) (l₂:=g.filter λ(p:Row)=>at_ p i == i) (λx hx=>by
   obtain⟨p,hp,rfl⟩:=List.mem_map.mp hx
   obtain⟨h1,h2⟩:=List.mem_filter.mp hp
   have h2':at_ p i=j:=by simpa using h2
   refine List.mem_filter.mpr ⟨G.mul _ _ h1 (G.invr ht),?_⟩
   rw[zJ (by rw[(G.pm p h1).1];exact hi),h2',<- e,yK pt hi];simp)
  rwa [List.length_map] at this
 .have:=xW (ndm _ _ pt (G.nd.filter λp=>at_ p i == i) (λp hp=>G.pm p (List.mem_filter.mp hp).1)) (l₂:=g.filter λ(p:Row)=>at_ p i == j) (λx hx=>by
   obtain⟨p,hp,rfl⟩:=List.mem_map.mp hx
   obtain⟨h1,h2⟩:=List.mem_filter.mp hp
   have h2':at_ p i=i:=by simpa using h2
   refine List.mem_filter.mpr ⟨G.mul _ _ h1 ht,?_⟩
   rw[zJ (by rw[(G.pm p h1).1];exact hi),h2',e];simp)
  rwa [List.length_map] at this
theorem JB{α:Type}(f:α->Nat):∀(ks:List Nat)(l:List α),ks.Nodup->(∀x,x∈l->f x∈ks)->l.length=(ks.map λk=>(l.filter λx=>f x == k).length).sum
 |[],l,_,h=>by
  cases l with
  |nil=>rfl
  |cons a t=>exact absurd (h a List.mem_cons_self) List.not_mem_nil
 |k::ks,l,nd,h=>by
  obtain⟨n1,n2⟩:=List.nodup_cons.mp nd
  rw[List.map_cons,List.sum_cons]
  have e1:l.length=(l.filter λx=>f x == k).length+(l.filter λx=>!(f x == k)).length:=by
   clear h
   induction l with
   |nil=>rfl
   |cons a t ih=>
    rw[List.filter_cons,List.filter_cons,List.length_cons,ih]
    cases f a == k<;>simp<;>omega
  have e2:=JB f ks (l.filter λx=>!(f x == k)) n2 (λx hx=>by
   obtain⟨h1,h2⟩:=List.mem_filter.mp hx
   rcases List.mem_cons.mp (h x h1) with z|z
   .rw[z] at h2;simp at h2
   .exact z)
  rw[e1,e2]
  congr 1
  apply jz
  intro k' hk'
  rw[List.filter_filter]
  congr 1
  apply List.filter_congr
  intro x _
  by_cases z:f x=k'
  .have h3:(f x == k)=false:=by
    rw[beq_eq_false_iff_ne]
    exact λe=>n1 (by rw[<- e,z];exact hk')
   rw[h3];simp
  .have h3:(f x == k')=false:=by rw[beq_eq_false_iff_ne];exact z
   rw[h3];simp
theorem Wr{c:Nat}:∀(l:List Nat),(l.map λ_=>c).sum=l.length*c
 |[]=>by simp
 |a::t=>by rw[List.map_cons,List.sum_cons,Wr t,List.length_cons,Nat.succ_mul];omega
theorem zcN{n:Nat}{g:List Row}(G:Grp n g){i:Nat}(hi:i<n){ks:List Nat}(nd:ks.Nodup)(hk:∀k,k∈ks↔∃p,p∈g/\at_ p i=k):g.length=ks.length*(g.filter λ(p:Row)=>at_ p i == i).length:=by
 rw[JB (λp=>at_ p i) ks g nd (λp hp=>(hk _).mpr ⟨p,hp,rfl⟩),<- Wr]
 apply jz
 intro k hk'
 obtain⟨t,ht,e⟩:=(hk k).mp hk'
 exact Wc G hi ht e
theorem zeG{g:List Row}{i j:Nat}:(g.filter λ(p:Row)=>(at_ p i:Int) == (j:Int))=g.filter λ(p:Row)=>at_ p i == j:=by
 apply List.filter_congr
 intro p _
 by_cases z:at_ p i=j
 .rw[z,beq_self_eq_true,beq_self_eq_true]
 .have h1:(((at_ p i:Nat):Int) == (j:Int))=false:=by
   rw[beq_eq_false_iff_ne]
   exact λe=>z (Int.ofNat_inj.mp e)
  have h2:(at_ p i == j)=false:=by rw[beq_eq_false_iff_ne];exact z
  rw[h1,h2]
theorem zac{g:List Row}{i j:Nat}(h:∀p,p∈g->at_ p i≠j):(g.filter λ(p:Row)=>at_ p i == j)=[]:=by
 rw[List.filter_eq_nil_iff]
 intro p hp
 simpa using h p hp
theorem zcO{g:List Row}{i:Nat}{ks:List Nat}(nd:ks.Nodup)(hk:∀k,k∈ks↔∃p,p∈g/\at_ p i=k):((g.map λ(p:Row)=>at_ p i).eraseDups).foldr insertUp []=srt ks:=by
 show srt _=srt ks
 have pe:((g.map λ(p:Row)=>at_ p i).eraseDups).Perm ks:=YO (XH _ _ (Nat.le_refl _)) nd λx=>by
  rw[List.mem_eraseDups,List.mem_map,hk]
 exact ZY ((vM _).trans (pe.trans (vM ks).symm)) (uh _) (uh _)
theorem zbo{ks l:List Nat}(h:ks.Perm l)(hs:l.Pairwise (·<=·)):srt ks=l:=ZY ((vM ks).trans h) (uh _) hs
end GP
end
section
set_option autoImplicit false
set_option linter.all false
namespace GP
open Md07
abbrev yW:=List (List Int)
inductive vJ:yW->List Int->Prop
 |n1 (p o:Int):p=3∨p=14->vJ [[p,o]] [p,o]
 |n2 (p a b:Int):p=1∨p=8∨p=10∨p=11∨p=12->vJ [[p,a,b]] [p,a,b]
 |n3 (p a b d:Int):p=5∨p=9->vJ [[p,a,b,d]] [p,a,b,d]
 |row (p o:Int) (r:List Int):p=2∨p=4∨p=6∨p=7∨p=13->vJ [[p,o],r] (p::o::(r.length:Int)::r)
theorem Q9{c:yW}{e:List Int}(h:vJ c e):PyMd07.whole c=c:=by
 cases h with
 |n1 p o h=>rcases h with rfl|rfl<;>rfl
 |n2 p a b h=>rcases h with rfl|rfl|rfl|rfl|rfl<;>rfl
 |n3 p a b d h=>rcases h with rfl|rfl<;>rfl
 |row p o r h=>rcases h with rfl|rfl|rfl|rfl|rfl<;>rfl
theorem zbA{p:Int}{n k:Nat}(h:PyMd07.shape p=some (n,k)) :
  (n=1/\k=0/\(p=3∨p=14))∨(n=2/\k=0/\(p=1∨p=8∨p=10∨p=11∨p=12))∨(n=3/\k=0/\(p=5∨p=9))∨(n=1/\k=1/\(p=2∨p=4∨p=6∨p=7∨p=13)):=by
 unfold PyMd07.shape at h
 by_cases h1:p=1
 .rw[if_pos h1] at h;have z:=Option.some.inj h;cases z;simp[h1]
 rw[if_neg h1] at h
 by_cases h2:p=2
 .rw[if_pos h2] at h;have z:=Option.some.inj h;cases z;simp[h2]
 rw[if_neg h2] at h
 by_cases h3:p=3
 .rw[if_pos h3] at h;have z:=Option.some.inj h;cases z;simp[h3]
 rw[if_neg h3] at h
 by_cases h4:p=4
 .rw[if_pos h4] at h;have z:=Option.some.inj h;cases z;simp[h4]
 rw[if_neg h4] at h
 by_cases h5:p=5
 .rw[if_pos h5] at h;have z:=Option.some.inj h;cases z;simp[h5]
 rw[if_neg h5] at h
 by_cases h6:p=6
 .rw[if_pos h6] at h;have z:=Option.some.inj h;cases z;simp[h6]
 rw[if_neg h6] at h
 by_cases h7:p=7
 .rw[if_pos h7] at h;have z:=Option.some.inj h;cases z;simp[h7]
 rw[if_neg h7] at h
 by_cases h8:p=8
 .rw[if_pos h8] at h;have z:=Option.some.inj h;cases z;simp[h8]
 rw[if_neg h8] at h
 by_cases h9:p=9
 .rw[if_pos h9] at h;have z:=Option.some.inj h;cases z;simp[h9]
 rw[if_neg h9] at h
 by_cases h10:p=10
 .rw[if_pos h10] at h;have z:=Option.some.inj h;cases z;simp[h10]
 rw[if_neg h10] at h
 by_cases h11:p=11
 .rw[if_pos h11] at h;have z:=Option.some.inj h;cases z;simp[h11]
 rw[if_neg h11] at h
 by_cases h12:p=12
 .rw[if_pos h12] at h;have z:=Option.some.inj h;cases z;simp[h12]
 rw[if_neg h12] at h
 by_cases h13:p=13
 .rw[if_pos h13] at h;have z:=Option.some.inj h;cases z;simp[h13]
 rw[if_neg h13] at h
 by_cases h14:p=14
 .rw[if_pos h14] at h;have z:=Option.some.inj h;cases z;simp[h14]
 rw[if_neg h14] at h
 cases h
theorem zfm{l:List Int}{c:yW}{t:List Int}(h:PyFlat.call PyMd07.shape l=some (c,t)):∃e,vJ c e/\l=e++t:=by
 cases l with
 |nil=>exact nomatch h
 |cons p r=>
  unfold PyFlat.call at h
  dsimp only at h
  cases hs:PyMd07.shape p with
  |none=>rw[hs] at h;exact nomatch h
  |some nk=>
   obtain⟨n,k⟩:=nk
   rw[hs] at h
   dsimp only at h
   split at h
   .exact nomatch h
   .rename_i hl
    rcases zbA hs with ⟨rfl,rfl,hp⟩|⟨rfl,rfl,hp⟩|⟨rfl,rfl,hp⟩|⟨rfl,rfl,hp⟩
    .unfold PyFlat.rows at h
     dsimp only at h
     have:=Option.some.inj h
     cases this
     cases r with
     |nil=>simp at hl
     |cons o r=>exact⟨_,.n1 p o hp,rfl⟩
    .unfold PyFlat.rows at h
     dsimp only at h
     have:=Option.some.inj h
     cases this
     match r,hl with
     |[],hl=>simp at hl
     |[_],hl=>simp at hl
     |a::b::r,_=>exact⟨_,.n2 p a b hp,rfl⟩
    .unfold PyFlat.rows at h
     dsimp only at h
     have:=Option.some.inj h
     cases this
     match r,hl with
     |[],hl=>simp at hl
     |[_],hl=>simp at hl
     |[_,_],hl=>simp at hl
     |a::b::d::r,_=>exact⟨_,.n3 p a b d hp,rfl⟩
    .cases r with
     |nil=>simp at hl
     |cons o r=>
      cases r with
      |nil=>exact nomatch h
      |cons m r=>
       have e:PyFlat.rows 1 (List.drop 1 (o::m::r))=match PyFlat.row (m::r) with
        |none=>none
        |some (x,s)=>some ([x],s):=by
        show(match PyFlat.row (m::r) with|none=>none|some (x,s)=>match PyFlat.rows 0 s with|none=>none|some (xs,t)=>some (x::xs,t))=_
        cases PyFlat.row (m::r) with
        |none=>rfl
        |some xs=>rfl
       rw[e] at h
       unfold PyFlat.row at h
       dsimp only at h
       by_cases hc:0<=m/\m.toNat<=r.length
       .rw[if_pos hc] at h
        dsimp only at h
        have:=Option.some.inj h
        cases this
        refine⟨_,.row p o (r.take m.toNat) hp,?_⟩
        have e1:((r.take m.toNat).length:Int)=m:=by
         rw[List.length_take,Nat.min_eq_left hc.2]
         exact Int.toNat_of_nonneg hc.1
        show p::o::m::r=p::o::((r.take m.toNat).length:Int)::(r.take m.toNat++r.drop m.toNat)
        rw[e1,List.take_append_drop]
       .rw[if_neg hc] at h
        exact nomatch h
inductive wO:List yW->List Int->Prop
 |nil:wO [] []
 |cons {c:yW} {cs:List yW} {e t:List Int}:vJ c e->wO cs t->wO (c::cs) (e++t)
theorem XW:∀{f:Nat}{l:List Int}{cs:List yW},PyFlat.calls PyMd07.shape f l=some cs->wO cs l
 |f,[],cs,h=>by
  unfold PyFlat.calls at h
  have:=Option.some.inj h
  subst this;exact .nil
 |0,p::r,cs,h=>nomatch h
 |f+1,p::r,cs,h=>by
  unfold PyFlat.calls at h
  cases hc:PyFlat.call PyMd07.shape (p::r) with
  |none=>rw[hc] at h;exact nomatch h
  |some ct=>
   obtain⟨c,t⟩:=ct
   rw[hc] at h
   dsimp only at h
   cases ht:PyFlat.calls PyMd07.shape f t with
   |none=>rw[ht] at h;exact nomatch h
   |some cs'=>
    rw[ht] at h
    have:=Option.some.inj h
    subst this
    obtain⟨e,h1,h2⟩:=zfm hc
    rw[h2]
    exact .cons h1 (XW ht)
theorem zdF{cs:List yW}{l:List Int}(h:wO cs l):cs.map PyMd07.whole=cs:=by
 induction h with
 |nil=>rfl
 |cons h1 _ ih=>rw[List.map_cons,ih,Q9 h1]
theorem zf9{l:List Int}(h:PyMd07.answers_asked l=true):∃cs,wO cs l/\cs.length<=300/\cs≠[]/\Md07Neutral.goes 0 Md07Neutral.start cs=true/\PyMd07.answers l=PyFlat.told (PyFlat.played Md07Neutral.step Md07Neutral.start cs):=by
 unfold PyMd07.answers_asked PyMd07.answers at *
 unfold PyMd07.calls at *
 cases e:PyFlat.calls PyMd07.shape l.length l with
 |none=>rw[e] at h;exact nomatch h
 |some cs=>
  rw[e] at h
  dsimp only at h ⊢
  have em:cs.map PyMd07.whole=cs:=zdF (XW e)
  rw[em] at h ⊢
  rw[Bool.and_eq_true] at h
  obtain⟨h1,h2⟩:=h
  unfold Md07Neutral.asked at h2
  rw[Bool.and_eq_true] at h2
  refine⟨cs,XW e,of_decide_eq_true h1,?_,h2.2,rfl⟩
  intro z;rw[z] at h2;exact nomatch h2.1
theorem zaq(a:List Int)(l:List (List Int)):PyFlat.told (a::l)=((a.length:Int)::a)++PyFlat.told l:=by
 unfold PyFlat.told;rw[List.flatMap_cons]
theorem J8{k:Nat}{s:Md07Neutral.S}{c:yW}{r:List yW}(h:Md07Neutral.goes k s (c::r)=true):Md07Neutral.asked1 s c=true/\Md07Neutral.goes (k+(Md07Neutral.step s c).2.length) (Md07Neutral.step s c).1 r=true:=by
 unfold Md07Neutral.goes at h
 rw[Bool.and_eq_true] at h
 exact h
theorem XB{c:List yW}:∀{k:Nat}{s:Md07Neutral.S},Md07Neutral.goes k s c=true->k<1000000:=by
 induction c with
 |nil=>intro k s h;exact of_decide_eq_true h
 |cons a r ih=>
  intro k s h
  have:=ih (J8 h).2
  omega
end GP
end
section
set_option autoImplicit false
set_option linter.all false
namespace GP
open Md07
def jk(k:List Nat)(one other:Nat):List Nat:=k.map λz=>if z=other then one else z
def jkin(row:Row)(kin:List Nat):Nat->List Nat
 |0=>kin
 |i+1=>if at_ (jkin row kin i) i=at_ (jkin row kin i) (at_ row i) then jkin row kin i else jk (jkin row kin i) (at_ (jkin row kin i) i) (at_ (jkin row kin i) (at_ row i))
def yS(kin:List Nat)(row:Row):List Nat:=jkin row kin row.length
theorem kL{k:List Nat}{a b:Nat}:(jk k a b).length=k.length:=by unfold jk;rw[List.length_map]
theorem vH{k:List Nat}{a b x:Nat}(h:x<k.length):at_ (jk k a b) x=if at_ k x=b then a else at_ k x:=by
 rw[yk (by rw[kL];exact h),yk h];unfold jk;rw[List.getElem_map]
theorem vX{row:Row}{kin:List Nat}:∀i,(jkin row kin i).length=kin.length
 |0=>rfl
 |i+1=>by
  unfold jkin;split
  .exact vX i
  .rw[kL];exact vX i
theorem JN{row:Row}{kin:List Nat}:(yS kin row).length=kin.length:=vX _
theorem zel{n:Nat}{row:Row}{kin:List Nat}(hk:kin.length=n){x y:Nat}(hx:x<n)(hy:y<n):∀{i:Nat},at_ (jkin row kin i) x=at_ (jkin row kin i) y->at_ (jkin row kin (i+1)) x=at_ (jkin row kin (i+1)) y:=λ{i} e=>by
 have hl:(jkin row kin i).length=n:=by rw[vX];exact hk
 show at_ (if _ then _ else _) x=at_ (if _ then _ else _) y
 split
 .exact e
 .rw[vH (by omega),vH (by omega),e]
theorem JP{n:Nat}{row:Row}{kin:List Nat}(hk:kin.length=n){x y:Nat}(hx:x<n)(hy:y<n){i:Nat}(e:at_ (jkin row kin i) x=at_ (jkin row kin i) y):∀{j:Nat},i<=j->at_ (jkin row kin j) x=at_ (jkin row kin j) y:=λ{j} h=>by
 induction j with
 |zero=>
  have:i=0:=by omega
  subst this;exact e
 |succ j ih=>
  by_cases q:i=j+1
  .subst q;exact e
  .exact zel hk hx hy (ih (by omega))
theorem zek{n:Nat}{row:Row}{kin:List Nat}(hk:kin.length=n){i:Nat}(hi:i<n)(hr:at_ row i<n):at_ (jkin row kin (i+1)) (at_ row i)=at_ (jkin row kin (i+1)) i:=by
 have hl:(jkin row kin i).length=n:=by rw[vX];exact hk
 show at_ (if _ then _ else _) _=at_ (if _ then _ else _) _
 split
 .next e=>exact e.symm
 .next e=>rw[vH (by omega),vH (by omega),if_pos rfl,if_neg e]
theorem JM{n:Nat}{row:Row}{kin:List Nat}(hk:kin.length=n){x y:Nat}(hx:x<n)(hy:y<n)(e:at_ kin x=at_ kin y):at_ (yS kin row) x=at_ (yS kin row) y:=JP (i:=0) hk hx hy e (Nat.zero_le _)
theorem JL{n:Nat}{row:Row}{kin:List Nat}(hk:kin.length=n)(hr:Pm n row){i:Nat}(hi:i<n):at_ (yS kin row) (at_ row i)=at_ (yS kin row) i :=
 JP hk (hr.at_lt hi) hi (zek hk hi (hr.at_lt hi)) (by rw[hr.1];omega)
theorem JQ{n:Nat}{row:Row}{kin:List Nat}(hk:kin.length=n)(hr:Pm n row){R:Nat->Nat->Prop}(sy:∀x y,R x y->R y x)(tr:∀x y z,R x y->R y z->R x z)(h0:∀x y,x<n->y<n->at_ kin x=at_ kin y->R x y)(h1:∀i,i<n->R i (at_ row i)) :
  ∀{i:Nat},i<=n->∀x y,x<n->y<n->at_ (jkin row kin i) x=at_ (jkin row kin i) y->R x y
 |0,_,x,y,hx,hy,e=>h0 x y hx hy e
 |i+1,hi,x,y,hx,hy,e=>by
  have ih:=JQ hk hr sy tr h0 h1 (i:=i) (by omega)
  have hl:(jkin row kin i).length=n:=by rw[vX];exact hk
  have hri:=hr.at_lt (i:=i) (by omega)
  have hin:i<n:=by omega
  change at_ (if _ then _ else _) x=at_ (if _ then _ else _) y at e
  split at e
  .exact ih x y hx hy e
  .next ne=>
   rw[vH (by omega),vH (by omega)] at e
   by_cases q1:at_ (jkin row kin i) x=at_ (jkin row kin i) (at_ row i)
   .rw[if_pos q1] at e
    by_cases q2:at_ (jkin row kin i) y=at_ (jkin row kin i) (at_ row i)
    .exact ih x y hx hy (q1.trans q2.symm)
    .rw[if_neg q2] at e
     exact tr _ _ _ (ih x _ hx hri q1) (tr _ _ _ (sy _ _ (h1 i hin)) (ih i y hin hy e))
   .rw[if_neg q1] at e
    by_cases q2:at_ (jkin row kin i) y=at_ (jkin row kin i) (at_ row i)
    .rw[if_pos q2] at e
     exact tr _ _ _ (ih x i hx hin e) (tr _ _ _ (h1 i hin) (ih _ y hri hy q2.symm))
    .rw[if_neg q2] at e
     exact ih x y hx hy e
def vc(n:Nat)(L:Lv):Prop:=∀x y,x<n->y<n->at_ L.kin x=at_ L.kin y->∃p,Made n L.makers p/\at_ p x=y
theorem vc.join{n:Nat}{ms:List Row}{kin:List Nat}(hk:kin.length=n){row:Row}(hr:Pm n row)(hm:∀m,m∈ms->Pm n m)(h:∀x y,x<n->y<n->at_ kin x=at_ kin y->∃p,Made n ms p/\at_ p x=y) :
  ∀x y,x<n->y<n->at_ (yS kin row) x=at_ (yS kin row) y->∃p,Made n (ms++[row]) p/\at_ p x=y:=by
 have hm':∀m,m∈ms++[row]->Pm n m:=λm h=>by
  rcases List.mem_append.mp h with h|h
  .exact hm m h
  .rw[List.mem_singleton.mp h];exact hr
 have sub:∀p,Made n ms p->Made n (ms++[row]) p:=λp hp=>Made.mono hm' (λq hq=>Made.gen hm' (List.mem_append_left _ hq)) hp
 have key:=JQ (n:=n) hk hr (R:=λx y=>x<n/\y<n/\∃p,Made n (ms++[row]) p/\at_ p x=y)
  (λx y ⟨hx,hy,p,hp,e⟩=>⟨hy,hx,GP.inv p,Made.inv hm' hp,by rw[<- e];exact yK (Made.perm hm' hp) hx⟩)
  (λx y z ⟨hx,hy,p,hp,e⟩ ⟨_,hz,q,hq,e2⟩=>⟨hx,hz,then_ p q,Made.mul hm' hp hq,by rw[zJ (by rw[(Made.perm hm' hp).1];exact hx),e,e2]⟩)
  (λx y hx hy e=>let ⟨p,hp,e2⟩:=h x y hx hy e;⟨hx,hy,p,sub p hp,e2⟩)
  (λi hi=>⟨hi,hr.at_lt hi,row,Made.gen hm' (List.mem_append_right _ (List.mem_singleton.mpr rfl)),rfl⟩) (i:=row.length) (by rw[hr.1];exact Nat.le_refl _)
 exact λx y hx hy e=>(key x y hx hy e).2.2
theorem JO{n:Nat}{ms:List Row}{kin:List Nat}(hk:kin.length=n){row:Row}(hr:Pm n row)(hm:∀m,m∈ms->Pm n m)(h:∀m,m∈ms->∀x,x<n->at_ kin (at_ m x)=at_ kin x) :
  ∀m,m∈ms++[row]->∀x,x<n->at_ (yS kin row) (at_ m x)=at_ (yS kin row) x:=λm hmm x hx=>by
 rcases List.mem_append.mp hmm with hmm|hmm
 .exact JM hk ((hm m hmm).at_lt hx) hx (h m hmm x hx)
 .rw[List.mem_singleton.mp hmm];exact JL hk hr hx
theorem zdM{n:Nat}{s:List Row}{r:Row}(hs:∀p,p∈s++[r]->Pm n p)(h:¬Made n s r):2*(made n s).length<=(made n (s++[r])).length:=by
 have hs1:∀p,p∈s->Pm n p:=λp hp=>hs p (List.mem_append_left _ hp)
 have hr:Pm n r:=hs r (List.mem_append_right _ (List.mem_singleton.mpr rfl))
 obtain⟨nd,mem⟩:=xX hs1
 obtain⟨nd',mem'⟩:=xX hs
 have sub:∀p,Made n s p->Made n (s++[r]) p:=λp hp=>Made.mono hs (λq hq=>Made.gen hs (List.mem_append_left _ hq)) hp
 have hr':Made n (s++[r]) r:=Made.gen hs (List.mem_append_right _ (List.mem_singleton.mpr rfl))
 have nd2:(made n s++(made n s).map λp=>then_ p r).Nodup:=by
  rw[List.nodup_append]
  refine⟨nd,?_,?_⟩
  .rw[List.nodup_iff_pairwise_ne,List.pairwise_map]
   refine(List.nodup_iff_pairwise_ne.mp nd).imp_of_mem λ{a b} ha hb hne e=>hne ?_
   exact jZ (Made.perm hs1 ((mem a).mp ha)) (Made.perm hs1 ((mem b).mp hb)) hr e
  .intro a ha b hb e
   obtain⟨p,hp,rfl⟩:=List.mem_map.mp hb
   subst e
   have m1:=(mem _).mp ha
   have m2:=(mem p).mp hp
   apply h
   have e2:then_ (GP.inv p) (then_ p r)=r:=by
    rw[<- yz (Made.perm hs1 m2).inv (Made.perm hs1 m2),uL (Made.perm hs1 m2),wn hr]
   rw[<- e2]
   exact Made.mul hs1 (Made.inv hs1 m2) m1
 have:=xW nd2 (l₂:=made n (s++[r])) (λx hx=>by
  rw[mem']
  rcases List.mem_append.mp hx with hx|hx
  .exact sub x ((mem x).mp hx)
  .obtain⟨p,hp,rfl⟩:=List.mem_map.mp hx
   exact Made.mul hs (sub p ((mem p).mp hp)) hr')
 rw[List.length_append,List.length_map] at this
 omega
def Two(n:Nat)(ms:List Row):Prop:=2 ^ ms.length<=(made n ms).length
theorem Two.nil{n:Nat}:Two n []:=by
 unfold Two
 have h:∀p,p∈([]:List Row)->Pm n p:=λp hp=>by simp at hp
 have:=(Grp.of_made h).one
 exact List.length_pos_of_mem this
theorem Two.snoc{n:Nat}{ms:List Row}{r:Row}(h:Two n ms)(hs:∀p,p∈ms++[r]->Pm n p)(hn:¬Made n ms r):Two n (ms++[r]):=by
 unfold Two at *
 have:=zdM hs hn
 rw[List.length_append,List.length_singleton,Nat.pow_succ]
 omega
theorem Qg{n m:Nat}(h:n<=m):factorial n<=factorial m:=by
 induction m with
 |zero=>
  have:n=0:=by omega
  subst this;exact Nat.le_refl _
 |succ m ih=>
  by_cases q:n=m+1
  .subst q;exact Nat.le_refl _
  .refine Nat.le_trans (ih (by omega)) ?_
   show factorial m<=(m+1)*factorial m
   exact Nat.le_mul_of_pos_left _ (by omega)
theorem Two.len{n:Nat}{ms:List Row}(h:Two n ms)(hn:n<=34)(hs:∀p,p∈ms->Pm n p):ms.length<128:=by
 have h1:=Js hs
 have h2:(made n ms).length<=factorial 34:=Nat.le_trans h1 (Qg hn)
 have h3:2 ^ ms.length<2 ^ 128:=Nat.lt_of_le_of_lt (Nat.le_trans h h2) (by decide)
 exact(Nat.pow_lt_pow_iff_right (by decide)).mp h3
end GP
end
section
set_option autoImplicit false
set_option linter.all false
namespace GP
open Md07
def xG(n i:Nat):Lv:=⟨[(i,none_ n)],[],[],none_ n,true⟩
def vD(r:Row):Bool:=inversions r % 2 == 0
def Lv.noted(L:Lv)(row:Row):Lv:={ L with makers:=L.makers++[row],done:=L.done++[0],kin:=yS L.kin row,even:=L.even && vD row }
def Rest(n:Nat):Nat->List Lv->Prop
 |i,[]=>i=n
 |i,L::Ls=>LvOk n i L/\Lk n L (nxt Ls)/\Closed n i (L::Ls)/\vc n L/\Two n L.makers/\Rest n (i+1) Ls
theorem Rest.all{n:Nat}:∀{i:Nat}{Ls:List Lv},Rest n i Ls->yQ n i Ls
 |_,[],h=>h
 |_,_::_,h=>⟨h.1,h.2.1,Rest.all h.2.2.2.2.2⟩
theorem Rest.closed{n:Nat}{i:Nat}{Ls:List Lv}(h:Rest n i Ls):Closed n i Ls:=by
 cases Ls with
 |nil=>exact zfk
 |cons L Ls=>exact h.2.2.1
def fill1(i:Nat)(L:Lv)(xt:Nat×Row):Lv :=
 let L1:Lv:=if xt.1=i then L else { L with out:=L.out++[xt] }
 if at_ L1.kin xt.1=at_ L1.kin i then L1 else L1.noted xt.2
def fill0(n i:Nat)(B:Lv):Lv:=⟨[(i,none_ n)],B.makers,[],B.kin,B.even⟩
def zbz(L:Lv):Lv:={ L with done:=List.replicate L.makers.length L.out.length }
def v5(n i:Nat)(T:Tv)(B:Lv):Lv:=zbz (T.foldl (fill1 i) (fill0 n i B))
structure Fl(n i:Nat)(B:Lv)(S:Tv)(L:Lv):Prop where
 out:L.out=(i,none_ n)::S.filter λxt=>xt.1 != i
 pm:∀m,m∈L.makers->Pm n m/\∀j,j<i->at_ m j=j
 src:∀m,m∈L.makers->m∈B.makers∨∃x,(x,m)∈S
 sub:∀m,m∈B.makers->m∈L.makers
 kl:L.kin.length=n
 kn:∀m,m∈L.makers->∀x,x<n->at_ L.kin (at_ m x)=at_ L.kin x
 kx:vc n L
 two:Two n L.makers
 ev:L.even=L.makers.all λm=>inversions m % 2 == 0
 kin:∀x t,(x,t)∈S->at_ L.kin x=at_ L.kin i
 dl:L.done.length<=L.makers.length
 lt:∀x t,(x,t)∈S->x<n
theorem Fl.start{n i:Nat}{B:Lv}(b:LvOk n (i+1) B)(kx:vc n B)(two:Two n B.makers):Fl n i B [] (fill0 n i B) :=
 ⟨rfl,λm hm=>⟨(b.mks m hm).1,λj hj=>(b.mks m hm).2 j (by omega)⟩,λm hm=>.inl hm,λm hm=>hm,b.kl,b.kn,kx,two,b.ev,λx t h=>by simp at h,Nat.zero_le _,λx t h=>by simp at h⟩
theorem Fl.step{n i:Nat}{B:Lv}{S:Tv}{L:Lv}(f:Fl n i B S L)(hi:i<n){x:Nat}{t:Row}(pt:Pm n t)(fx:∀j,j<i->at_ t j=j)(tk:at_ t i=x):Fl n i B (S++[(x,t)]) (fill1 i L (x,t)):=by
 have hx:x<n:=by rw[<- tk];exact pt.at_lt hi
 have lt':∀y u,(y,u)∈S++[(x,t)]->y<n:=λy u h=>by
  rcases List.mem_append.mp h with h|h
  .exact f.lt y u h
  .cases List.mem_singleton.mp h;exact hx
 have f1:∀L1:Lv,L1=(if x=i then L else { L with out:=L.out++[(x,t)] })->L1.out=(i,none_ n)::(S++[(x,t)]).filter (λxt=>xt.1 != i)/\L1.makers=L.makers/\L1.kin=L.kin/\L1.even=L.even/\L1.done=L.done:=λL1 e=>by
  subst e
  rw[List.filter_append]
  by_cases q:x=i
  .rw[if_pos q];refine⟨?_,rfl,rfl,rfl,rfl⟩
   rw[f.out];simp[q]
  .rw[if_neg q];refine⟨?_,rfl,rfl,rfl,rfl⟩
   show L.out++[(x,t)]=_
   rw[f.out];simp[q]
 unfold fill1
 obtain⟨e1,e2,e3,e4,e5⟩:=f1 _ rfl
 show Fl n i B (S++[(x,t)]) (if at_ (if x=i then L else { L with out:=L.out++[(x,t)] }).kin x=at_ (if x=i then L else { L with out:=L.out++[(x,t)] }).kin i then (if x=i then L else { L with out:=L.out++[(x,t)] }) else (if x=i then L else { L with out:=L.out++[(x,t)] }).noted t)
 generalize (if x=i then L else { L with out:=L.out++[(x,t)] })=L1 at *
 have pms:∀m,m∈L.makers->Pm n m:=λm hm=>(f.pm m hm).1
 by_cases q:at_ L1.kin x=at_ L1.kin i
 .rw[if_pos q]
  rw[e3] at q
  refine⟨e1,by rw[e2];exact f.pm,λm hm=>?_,by rw[e2];exact f.sub,by rw[e3];exact f.kl,by rw[e2,e3];exact f.kn,?_,by rw[e2];exact f.two,by rw[e2,e4];exact f.ev,λy u h=>?_,by rw[e5,e2];exact f.dl,lt'⟩
  .rw[e2] at hm
   rcases f.src m hm with h|⟨y,h⟩
   .exact .inl h
   .exact .inr ⟨y,List.mem_append_left _ h⟩
  .intro y z hy hz e
   rw[e3] at e
   rw[e2]
   exact f.kx y z hy hz e
  .rw[e3]
   rcases List.mem_append.mp h with h|h
   .exact f.kin y u h
   .cases List.mem_singleton.mp h;exact q
 .rw[if_neg q]
  rw[e3] at q
  have nm:¬Made n L.makers t:=λh=>q (by
   have:=Made.kin pms f.kn h i hi
   rw[tk] at this;exact this)
  have hm':∀m,m∈L.makers++[t]->Pm n m:=λm h=>by
   rcases List.mem_append.mp h with h|h
   .exact pms m h
   .rw[List.mem_singleton.mp h];exact pt
  refine⟨e1,?_,?_,?_,?_,?_,?_,?_,?_,?_,?_,lt'⟩
  .intro m hm
   change m∈L1.makers++[t] at hm
   rw[e2] at hm
   rcases List.mem_append.mp hm with h|h
   .exact f.pm m h
   .rw[List.mem_singleton.mp h];exact⟨pt,fx⟩
  .intro m hm
   change m∈L1.makers++[t] at hm
   rw[e2] at hm
   rcases List.mem_append.mp hm with h|h
   .rcases f.src m h with h|⟨y,h⟩
    .exact .inl h
    .exact .inr ⟨y,List.mem_append_left _ h⟩
   .rw[List.mem_singleton.mp h];exact .inr ⟨x,List.mem_append_right _ (List.mem_singleton.mpr rfl)⟩
  .intro m hm
   show m∈L1.makers++[t]
   rw[e2];exact List.mem_append_left _ (f.sub m hm)
  .show(yS L1.kin t).length=n
   rw[JN,e3];exact f.kl
  .show ∀m,m∈L1.makers++[t]->∀x,x<n->at_ (yS L1.kin t) (at_ m x)=at_ (yS L1.kin t) x
   rw[e2,e3]
   exact JO f.kl pt pms f.kn
  .show ∀x y,x<n->y<n->at_ (yS L1.kin t) x=at_ (yS L1.kin t) y->∃p,Made n (L1.makers++[t]) p/\at_ p x=y
   rw[e2,e3]
   exact vc.join f.kl pt pms f.kx
  .show Two n (L1.makers++[t])
   rw[e2];exact f.two.snoc hm' nm
  .show(L1.even && vD t)=(L1.makers++[t]).all λm=>inversions m % 2 == 0
   rw[e2,e4,List.all_append,<- f.ev]
   simp[vD]
  .intro y u h
   show at_ (yS L1.kin t) y=at_ (yS L1.kin t) i
   rw[e3]
   rcases List.mem_append.mp h with h|h
   .have hy:y<n:=f.lt y u h
    exact JM f.kl hy hi (f.kin y u h)
   .cases List.mem_singleton.mp h
    have:=JL (kin:=L.kin) f.kl pt hi
    rw[tk] at this;exact this
  .show(L1.done++[0]).length<=(L1.makers++[t]).length
   rw[e5,e2,List.length_append,List.length_append]
   have:=f.dl
   simp only[List.length_singleton]
   omega
theorem Fl.all{n i:Nat}{B:Lv}{T:Tv}(w:WfL n (dn i) i T):∀{S R:Tv}{L:Lv},S++R=T->Fl n i B S L->Fl n i B T (R.foldl (fill1 i) L)
 |S,[],L,e,f=>by rw[List.append_nil] at e;subst e;exact f
 |S,(x,t)::R,L,e,f=>by
  have h:(x,t)∈T:=by rw[<- e];exact List.mem_append_right _ List.mem_cons_self
  rw[List.foldl_cons]
  exact Fl.all w (S:=S++[(x,t)]) (R:=R) (by rw[List.append_assoc];exact e) (f.step w.lt (w.pm x t h) (λj hj=>w.fx x t h j (xH.mpr hj)) (w.tk x t h))
theorem jJ{n i:Nat}{T:Tv}(w:WfL n (dn i) i T){x:Nat}{t:Row}:(x,t)∈(i,none_ n)::T.filter (λxt=>xt.1 != i)↔(x,t)∈T:=by
 rw[List.mem_cons,List.mem_filter]
 refine⟨λh=>?_,λh=>?_⟩
 .rcases h with h|h
  .cases h;exact w.one
  .exact h.1
 .by_cases q:x=i
  .subst q
   rw[jC w.nd h w.one];exact .inl rfl
  .exact .inr ⟨h,by simpa using q⟩
theorem zeI{n i:Nat}{T:Tv}(w:WfL n (dn i) i T):WfL n (dn i) i ((i,none_ n)::T.filter (λxt=>xt.1 != i)):=by
 refine⟨w.lt,?_,List.mem_cons_self,λx t h=>w.pm x t ((jJ w).mp h),λx t h=>w.fx x t ((jJ w).mp h),λx t h=>w.tk x t ((jJ w).mp h)⟩
 rw[List.map_cons,List.nodup_cons]
 refine⟨λh=>?_,?_⟩
 .obtain⟨⟨x,t⟩,h1,h2⟩:=List.mem_map.mp h
  have:=(List.mem_filter.mp h1).2
  have e:x=i:=h2
  simp[e] at this
 .exact(List.Sublist.map _ List.filter_sublist).nodup w.nd
theorem Xg{n b:Nat}{T T':Tv}{rest:Chain}(h:∀x t,(x,t)∈T↔(x,t)∈T')(p:Row):p∈mems n ((b,T)::rest)↔p∈mems n ((b,T')::rest):=by
 rw[yi,yi]
 exact⟨λ⟨x,t,q,h1,h2,h3⟩=>⟨x,t,q,(h x t).mp h1,h2,h3⟩,λ⟨x,t,q,h1,h2,h3⟩=>⟨x,t,q,(h x t).mpr h1,h2,h3⟩⟩
theorem Rest.fill{n i:Nat}{T:Tv}{B:Lv}{Ls:List Lv}(r:Rest n (i+1) (B::Ls))(w:WfL n (dn i) i T)(g:ye n ((i,T)::zm (i+1) (B::Ls))) :
  Rest n i (v5 n i T B::B::Ls)/\(v5 n i T B).out=(i,none_ n)::T.filter (λxt=>xt.1 != i):=by
 have f:Fl n i B T (T.foldl (fill1 i) (fill0 n i B)):=Fl.all w (S:=[]) rfl (Fl.start r.1 r.2.2.2.1 r.2.2.2.2.1)
 unfold v5
 generalize T.foldl (fill1 i) (fill0 n i B)=L at f
 have a:=r.all
 have c:=r.closed
 have wC:WfC n (dn i) ((i,T)::zm (i+1) (B::Ls)):=⟨w,a.wf⟩
 have hF:∀j,j∈dn i->j<n:=v7 (by have:=w.lt;omega)
 have gr:Grp n (mems n ((i,T)::zm (i+1) (B::Ls))):=g.grp hF wC
 have pms:∀m,m∈L.makers->Pm n m:=λm hm=>(f.pm m hm).1
 have mB:∀p,Made n B.makers p->Made n L.makers p:=λp hp=>Made.mono pms (λq hq=>Made.gen pms (f.sub q hq)) hp
 have mG:∀m,m∈L.makers->m∈mems n ((i,T)::zm (i+1) (B::Ls)):=λm hm=>by
  rcases f.src m hm with h|⟨x,h⟩
  .exact zdD hF wC (c m (Made.gen a.pms h))
  .exact jx wC h
 have sG:∀p,Made n L.makers p->p∈mems n ((i,T)::zm (i+1) (B::Ls)):=λp hp=>Made.sub gr.one (λp q hp hq=>gr.mul p q hp (mG q hq)) hp
 have tM:∀x t,(x,t)∈T->Made n L.makers t:=λx t h=>by
  have hx:=w.key h
  obtain⟨p,hp,ep⟩:=f.kx i x w.lt hx (f.kin x t h).symm
  have pp:=Made.perm pms hp
  have pt:=w.pm x t h
  have h1:then_ t (inv p)∈mems n ((i,T)::zm (i+1) (B::Ls)):=gr.mul _ _ (jx wC h) (gr.invr (sG p hp))
  have h2:at_ (then_ t (inv p)) i=i:=by
   rw[zJ (by rw[pt.1];exact w.lt),w.tk x t h,<- ep]
   exact yK pp w.lt
  have h3:=mB _ ((Closed.iff a c _).mp ((vp hF wC).mpr ⟨h1,h2⟩))
  have e:t=then_ (then_ t (inv p)) p:=by rw[yz pt pp.inv,uL pp,yL pt]
  rw[e];exact Made.mul pms h3 hp
 have ow:WfL n (dn i) i L.out:=by rw[f.out];exact zeI w
 have om:∀x t,(x,t)∈L.out↔(x,t)∈T:=λx t=>by rw[f.out];exact jJ w
 have cl:∀x t m,(x,t)∈L.out->m∈L.makers->at_ m x∈keys L.out:=λx t m hx hm=>by
  have hx':=(om x t).mp hx
  have pt:=w.pm x t hx'
  have h1:=gr.mul _ _ (jx wC hx') (mG m hm)
  obtain⟨u,hu,_⟩:=(Xf hF wC (pt.then (pms m hm))).mp h1
  rw[zJ (by rw[pt.1];exact w.lt),w.tk x t hx'] at hu
  exact List.mem_map.mpr ⟨_,(om _ _).mpr hu,rfl⟩
 have ok:∀dn',dn'.length=L.makers.length->(∀d,d∈dn'->d<=L.out.length)->LvOk n i { L with done:=dn' }:=λdn' h1 h2=>
  ⟨⟨ow,f.pm,λx t h=>tM x t ((om x t).mp h),h1,h2,f.kl,f.kn,f.ev⟩,cl⟩
 have cL:∀dn',Closed n i ({ L with done:=dn' }::B::Ls):=λdn' p hp=>(Xg om p).mpr (sG p hp)
 have z0:LvOk n i { L with done:=List.replicate L.makers.length 0 }:=ok _ List.length_replicate (λd hd=>by rw[(List.mem_replicate.mp hd).2];exact Nat.zero_le _)
 have l0:Lk n { L with done:=List.replicate L.makers.length 0 } B.makers:=by
  refine⟨λm hm=>Made.gen pms (f.sub m hm),λk d m x t h1 h2 h3=>?_⟩
  exfalso
  change (List.replicate L.makers.length 0).getD k 0 > d at h2
  rw[List.getD_eq_getElem?_getD,List.getElem?_replicate] at h2
  split at h2<;>simp at h2
 have l1:=Lk.skip (L:={ L with done:=List.replicate L.makers.length 0 }) (Ls:=B::Ls) ⟨z0,l0,a⟩ (cL _) (List.replicate L.makers.length L.out.length)
 refine⟨⟨ok _ List.length_replicate (λd hd=>by rw[(List.mem_replicate.mp hd).2];exact Nat.le_refl _),l1,cL _,f.kx,f.two,r⟩,f.out⟩
theorem Jm{n i:Nat}(h:i<n):LvOk n i (xG n i):=by
 refine⟨⟨⟨h,by simp[xG],by simp[xG],?_,?_,?_⟩,?_,?_,rfl,?_,wo,?_,rfl⟩,?_⟩
 .intro x t e;cases List.mem_singleton.mp e;exact Pm.none
 .intro x t e j hj;cases List.mem_singleton.mp e;exact at_none (by have:=xH.mp hj;omega)
 .intro x t e;cases List.mem_singleton.mp e;exact at_none h
 .intro m hm;cases hm
 .intro x t e;cases List.mem_singleton.mp e;exact Made.none_
 .intro x hx;cases hx
 .intro m hm;cases hm
 .intro x t m _ hm;cases hm
def xp(n:Nat):Nat->Nat->List Lv
 |_,0=>[]
 |i,k+1=>xG n i::xp n (i+1) k
theorem Xa{n:Nat}:∀{k i:Nat},(xp n i k).length=k
 |0,_=>rfl
 |k+1,i=>by unfold xp;rw[List.length_cons,Xa]
theorem Xb{n:Nat}:∀{k i j:Nat},j<k->(xp n i k)[j]? = some (xG n (i+j))
 |0,_,_,h=>absurd h (Nat.not_lt_zero _)
 |k+1,i,0,_=>rfl
 |k+1,i,j+1,h=>by
  unfold xp
  rw[List.getElem?_cons_succ,Xb (by omega)]
  congr 2;omega
theorem Jh{n:Nat}:∀{k i:Nat},nxt (xp n i k)=[]
 |0,_=>rfl
 |_+1,_=>rfl
theorem Rest.new{n:Nat}:∀{k i:Nat},i+k=n->Rest n i (xp n i k)
 |0,i,h=>(by show i=n;simpa using h)
 |k+1,i,h=>by
  have r:=Rest.new (n:=n) (k:=k) (i:=i+1) (by omega)
  refine⟨Jm (by omega),?_,?_,?_,Two.nil,r⟩
  .rw[Jh]
   exact⟨λm hm=>absurd hm List.not_mem_nil,λk d m x t h1=>by simp[xG] at h1⟩
  .intro p hp
   have:p=none_ n:=by
    cases hp with
    |none_=>rfl
    |more _ h=>exact absurd h List.not_mem_nil
   subst this
   exact jy (F:=dn i) ⟨(Jm (show i<n by omega)).wf,r.all.wf⟩
  .intro x y hx hy e
   change at_ (none_ n) x=at_ (none_ n) y at e
   rw[at_none hx,at_none hy] at e
   exact⟨none_ n,Made.none_,by rw[at_none hx];exact e⟩
end GP
end
section
set_option autoImplicit false
set_option linter.all false
namespace GP
open Md07
structure Xt(n:Nat)(Ls:List Lv):Prop where
 len:Ls.length=n
 ok:∀(j:Nat)(L:Lv),Ls[j]? = some L->LvOk n j L/\vc n L/\Two n L.makers
 lk:∀(j:Nat)(L:Lv),Ls[j]? = some L->Lk n L (nxt (Ls.drop (j+1)))
def ve(n c:Nat)(Ls:List Lv):Prop:=∀j,c<=j->j<=n->Closed n j (Ls.drop j)
theorem xZ{α:Type}{l:List α}{j:Nat}{x:α}(h:l[j]? = some x):l.drop j=x::l.drop (j+1):=by
 obtain⟨h1,h2⟩:=List.getElem?_eq_some_iff.mp h
 rw[List.drop_eq_getElem_cons h1,h2]
theorem kF{Ls:List Lv}{j:Nat}{L:Lv}(h:Ls[j]? = some L):nxt (Ls.drop j)=L.makers:=by rw[xZ h];rfl
theorem Y7{Ls:List Lv}{j:Nat}(h:Ls.length<=j):nxt (Ls.drop j)=[]:=by rw[List.drop_of_length_le h];rfl
theorem Xt.all{n:Nat}{Ls:List Lv}(x:Xt n Ls):∀{k j:Nat},j+k=n->yQ n j (Ls.drop j)
 |0,j,h=>by
  rw[List.drop_of_length_le (by rw[x.len];omega)]
  show j=n;omega
 |k+1,j,h=>by
  obtain⟨M,hj⟩:∃M,Ls[j]? = some M:=⟨_,List.getElem?_eq_getElem (show j<Ls.length by rw[x.len];omega)⟩
  rw[xZ hj]
  exact⟨(x.ok j _ hj).1,x.lk j _ hj,Xt.all x (k:=k) (j:=j+1) (by omega)⟩
theorem Xt.rest{n:Nat}{Ls:List Lv}(x:Xt n Ls)(c:ve n 0 Ls):∀{k j:Nat},j+k=n->Rest n j (Ls.drop j)
 |0,j,h=>by
  rw[List.drop_of_length_le (by rw[x.len];omega)]
  show j=n;omega
 |k+1,j,h=>by
  obtain⟨M,hj⟩:∃M,Ls[j]? = some M:=⟨_,List.getElem?_eq_getElem (show j<Ls.length by rw[x.len];omega)⟩
  have cj:=c j (Nat.zero_le _) (by omega)
  have r:=Xt.rest x c (k:=k) (j:=j+1) (by omega)
  rw[xZ hj] at cj ⊢
  exact⟨(x.ok j _ hj).1,x.lk j _ hj,cj,(x.ok j _ hj).2.1,(x.ok j _ hj).2.2,r⟩
theorem Rest.drop{n:Nat}:∀{j i:Nat}{Ls:List Lv},Rest n i Ls->j<=Ls.length->Rest n (i+j) (Ls.drop j)
 |0,_,_,r,_=>r
 |j+1,i,[],r,h=>by simp at h
 |j+1,i,L::Ls,r,h=>by
  have:=Rest.drop (j:=j) (i:=i+1) (Ls:=Ls) r.2.2.2.2.2 (by simpa using h)
  rw[show i+(j+1)=i+1+j by omega];exact this
theorem Rest.xt{n:Nat}{Ls:List Lv}(r:Rest n 0 Ls):Xt n Ls/\ve n 0 Ls:=by
 have hl:Ls.length=n:=by have:=r.all.le;omega
 refine⟨⟨hl,λj L e=>?_,λj L e=>?_⟩,λj _ hj=>?_⟩
 .have hj:j<Ls.length:=(List.getElem?_eq_some_iff.mp e).1
  have:=r.drop (j:=j) (by omega)
  rw[Nat.zero_add,xZ e] at this
  exact⟨this.1,this.2.2.2.1,this.2.2.2.2.1⟩
 .have hj:j<Ls.length:=(List.getElem?_eq_some_iff.mp e).1
  have:=r.drop (j:=j) (by omega)
  rw[Nat.zero_add,xZ e] at this
  exact this.2.1
 .have:=(r.drop (j:=j) (by omega)).closed
  rw[Nat.zero_add] at this;exact this
theorem jL{α:Type}{l:List α}{i j:Nat}{x:α}(h:i<j):(l.set i x).drop j=l.drop j:=List.drop_set_of_lt h
theorem kY{α:Type}{l:List α}{i:Nat}{x:α}(h:i<l.length):(l.set i x).drop i=x::l.drop (i+1):=by
 rw[xZ (List.getElem?_set_self h),jL (Nat.lt_succ_self i)]
theorem kE{Ls:List Lv}{i j:Nat}{M:Lv}(h:j≠i):nxt ((Ls.set i M).drop j)=nxt (Ls.drop j):=by
 by_cases q:j<Ls.length
 .have e1:(Ls.set i M)[j]? = some Ls[j]:=by rw[List.getElem?_set_ne (λz=>h z.symm)];exact List.getElem?_eq_getElem q
  rw[kF e1,kF (List.getElem?_eq_getElem q)]
 .rw[Y7 (by rw[List.length_set];omega),Y7 (by omega)]
theorem Xt.done{n i:Nat}{Ls:List Lv}{L:Lv}{dn':List Nat}(x:Xt n Ls)(e:Ls[i]? = some L)(ok:LvOk n i { L with done:=dn' })(lk:Lk n { L with done:=dn' } (nxt (Ls.drop (i+1)))):Xt n (Ls.set i { L with done:=dn' }):=by
 have hi:i<Ls.length:=(List.getElem?_eq_some_iff.mp e).1
 have nx:∀j,nxt ((Ls.set i { L with done:=dn' }).drop j)=nxt (Ls.drop j):=λj=>by
  by_cases q:j=i
  .subst q;rw[kY hi,xZ e];rfl
  .exact kE q
 refine⟨by rw[List.length_set];exact x.len,λj M h=>?_,λj M h=>?_⟩
 .by_cases q:i=j
  .subst q;rw[List.getElem?_set_self hi] at h;cases h
   exact⟨ok,(x.ok i L e).2⟩
  .rw[List.getElem?_set_ne q] at h;exact x.ok j M h
 .rw[nx]
  by_cases q:i=j
  .subst q;rw[List.getElem?_set_self hi] at h;cases h;exact lk
  .rw[List.getElem?_set_ne q] at h;exact x.lk j M h
theorem Xt.add{n i:Nat}{Ls:List Lv}{L:Lv}{row:Row}{ext:Tv}(len:Ls.length=n)(okA:∀(j:Nat)(M:Lv),Ls[j]? = some M->LvOk n j M/\vc n M/\Two n M.makers)(e:Ls[i]? = some L)
  (lkA:∀(j:Nat)(M:Lv),Ls[j]? = some M->j+1≠i->Lk n M (nxt (Ls.drop (j+1)))) (up:∀(j:Nat)(M:Lv),Ls[j]? = some M->j+1=i->Lk n M (L.makers++[row]))
  (pr:Pm n row) (nm:¬Made n L.makers row) (ok:LvOk n i { Lv.noted L row with out:=L.out++ext }):Xt n (Ls.set i { Lv.noted L row with out:=L.out++ext }):=by
 have hi:i<Ls.length:=(List.getElem?_eq_some_iff.mp e).1
 obtain⟨okL,kxL,twL⟩:=okA i L e
 have hm':∀m,m∈L.makers++[row]->Pm n m:=λm h=>by
  rcases List.mem_append.mp h with h|h
  .exact okL.pms m h
  .rw[List.mem_singleton.mp h];exact pr
 refine⟨by rw[List.length_set];exact len,λj M h=>?_,λj M h=>?_⟩
 .by_cases q:i=j
  .subst q;rw[List.getElem?_set_self hi] at h;cases h
   exact⟨ok,vc.join okL.kl pr okL.pms kxL,twL.snoc hm' nm⟩
  .rw[List.getElem?_set_ne q] at h;exact okA j M h
 .by_cases q:i=j
  .subst q;rw[List.getElem?_set_self hi] at h;cases h
   rw[kE (by omega)]
   have l0:=lkA i L e (by omega)
   have hms:∀m,m∈nxt (Ls.drop (i+1))->Pm n m:=by
    by_cases z:i+1<Ls.length
    .have e1:Ls[i+1]? = some Ls[i+1]:=List.getElem?_eq_getElem z
     rw[kF e1];exact(okA (i+1) _ e1).1.pms
    .rw[Y7 (by omega)];intro m hm;exact absurd hm List.not_mem_nil
   refine l0.grow okL hms (λm hm=>hm) (ext:=ext) rfl ok.wf.nd (r:=[row]) rfl (λk=>?_) (λm hm=>Made.mono hm' (λq hq=>Made.gen hm' (List.mem_append_left _ hq)) (l0.sub m hm)) (λk hk=>?_)
   .show(L.done++[0]).getD k 0<=L.done.getD k 0
    rw[List.getD_eq_getElem?_getD,List.getD_eq_getElem?_getD]
    by_cases z:k<L.done.length
    .rw[List.getElem?_append_left z];exact Nat.le_refl _
    .rw[List.getElem?_append_right (by omega)]
     cases hk:k-L.done.length with
     |zero=>simp
     |succ k'=>simp
   .show(L.done++[0]).getD k 0=0
    rw[List.getD_eq_getElem?_getD,List.getElem?_append_right (by rw[okL.dl];exact hk)]
    cases hk:k-L.done.length with
    |zero=>simp
    |succ k'=>simp
  .rw[List.getElem?_set_ne q] at h
   by_cases z:j+1=i
   .subst z
    rw[kY hi]
    exact up j M h rfl
   .rw[kE z];exact lkA j M h z
theorem ve.set{n c i:Nat}{Ls:List Lv}{M:Lv}(h:ve n c Ls)(hi:i<c):ve n c (Ls.set i M):=λj hj hn=>by rw[jL (by omega)];exact h j hj hn
def left(n:Nat)(Ls:List Lv):Nat:=(Ls.map λL=>factorial n-(made n L.makers).length).sum
theorem Xk{n:Nat}{L M:Lv}:∀{Ls:List Lv}{i:Nat},Ls[i]? = some L->M.makers=L.makers->left n (Ls.set i M)=left n Ls
 |[],i,h,_=>by simp at h
 |A::Ls,0,h,e=>by
  have:A=L:=by simpa using h
  subst this
  unfold left;simp only[List.set_cons_zero,List.map_cons,List.sum_cons,e]
 |A::Ls,i+1,h,e=>by
  have:=Xk (n:=n) (Ls:=Ls) (i:=i) (by simpa using h) e
  unfold left at this ⊢;simp only[List.set_cons_succ,List.map_cons,List.sum_cons];omega
theorem JC{n:Nat}{L M:Lv}{row:Row}(hs:∀p,p∈L.makers++[row]->Pm n p)(nm:¬Made n L.makers row)(em:M.makers=L.makers++[row]):∀{Ls:List Lv}{i:Nat},Ls[i]? = some L->left n (Ls.set i M)<left n Ls
 |[],i,h=>by simp at h
 |A::Ls,0,h=>by
  have:A=L:=by simpa using h
  subst this
  have h1:=zdL hs nm
  have h2:=Js hs
  unfold left;simp only[List.set_cons_zero,List.map_cons,List.sum_cons,em];omega
 |A::Ls,i+1,h=>by
  have:=JC hs nm em (Ls:=Ls) (i:=i) (by simpa using h)
  unfold left at this ⊢;simp only[List.set_cons_succ,List.map_cons,List.sum_cons];omega
end GP
end
section
set_option autoImplicit false
set_option linter.all false
namespace GP
open Md07
structure Rep(x:Obj)(Ls:List Lv):Prop where
 tells:Tells x (zm 0 Ls)
 rest:Rest x.n 0 Ls
theorem Rep.cons{x:Obj}{Ls:List Lv}(r:Rep x Ls):∃L Ls',Ls=L::Ls':=by
 cases Ls with
 |nil=>have:=r.rest.all.le;have:=r.tells.good.lo;simp at *;omega
 |cons L Ls=>exact⟨L,Ls,rfl⟩
theorem Rep.len{x:Obj}{Ls:List Lv}(r:Rep x Ls):Ls.length=x.n:=by have:=r.rest.all.le;omega
theorem Rep.mem{x:Obj}{L:Lv}{Ls:List Lv}(r:Rep x (L::Ls))(p:Row):p∈x.g↔Made x.n L.makers p:=by
 rw[<- r.tells.mem];exact Closed.iff r.rest.all r.rest.closed p
theorem Rep.pms{x:Obj}{L:Lv}{Ls:List Lv}(r:Rep x (L::Ls)):∀p,p∈L.makers->Pm x.n p:=r.rest.1.pms
theorem Rep.of{x:Obj}{Ls:List Lv}(g:Good x)(r:Rest x.n 0 Ls)(m:∀p,p∈mems x.n (zm 0 Ls)↔p∈x.g):Rep x Ls:=⟨⟨g,r.all.wf,Qz,m⟩,r⟩
theorem Rep.new{n:Nat}(h1:1<=n)(h2:n<=34):Rep (alone n) (xp n 0 n):=by
 have r:Rest n 0 (xp n 0 n):=Rest.new (by omega)
 refine Rep.of (Good.alone h1 h2) r λp=>?_
 show p∈mems n (zm 0 (xp n 0 n))↔p∈[none_ n]
 rw[Closed.iff r.all r.closed,Jh]
 rw[List.mem_singleton]
 constructor
 .intro h
  cases h with
  |none_=>rfl
  |more _ h=>exact absurd h List.not_mem_nil
 .intro h;rw[h];exact .none_
theorem Rep.sift{x:Obj}{Ls:List Lv}(r:Rep x Ls){p:Row}(hp:Pm x.n p):x.g.contains p=GP.sift (zm 0 Ls) p:=r.tells.has hp
theorem Rep.add{x:Obj}{L L':Lv}{Ls Ls':List Lv}(r:Rep x (L::Ls)){p:Row}(hp:Pm x.n p)(r':Rest x.n 0 (L'::Ls'))(em:L'.makers=L.makers++[p]):Rep ⟨x.n,p::x.gens,made x.n (p::x.gens)⟩ (L'::Ls'):=by
 have G:=r.tells.good
 have hg:∀q,q∈p::x.gens->Pm x.n q:=λq hq=>by
  rcases List.mem_cons.mp hq with z|z
  .rw[z];exact hp
  .exact G.gens q z
 refine Rep.of (Good.made G.lo G.hi hg) r' λq=>?_
 show _↔q∈made x.n (p::x.gens)
 rw[(xX hg).2 q,Closed.iff r'.all r'.closed]
 show Made x.n L'.makers q↔_
 have hp1:∀q,q∈[p]->Pm x.n q:=λq hq=>by rw[List.mem_singleton.mp hq];exact hp
 rw[em,Xi r.pms hp1 G.gens hp1 (λq=>(r.mem q).symm.trans (G.mem q)) (λ_=>Iff.rfl) q]
 refine Jr (λq hq=>?_) (λq=>?_) q
 .rcases List.mem_append.mp hq with z|z
  .exact G.gens q z
  .exact hp1 q z
 .rw[List.mem_append,List.mem_singleton,List.mem_cons,or_comm]
theorem ze1{x:Obj}{Ls:List Lv}(r:Rep x Ls){p:Row}(hp:Pm x.n p):does x (.add p)=if GP.sift (zm 0 Ls) p=true then (x,only 0) else (⟨x.n,p::x.gens,made x.n (p::x.gens)⟩,only 1):=by
 show(if isPerm x.n p=false then _ else _)=_
 rw[if_neg (by rw[xY.mpr hp];decide),r.sift hp]
theorem zeS{x:Obj}{Ls:List Lv}(r:Rep x Ls):does x .order=(x,⟨0,two (size (zm 0 Ls))⟩):=by
 show(x,(⟨0,two x.g.length⟩:Ans))=_
 rw[r.tells.order]
theorem zeU{x:Obj}{Ls:List Lv}(r:Rep x Ls){p:Row}(hp:Pm x.n p):does x (.has p)=(x,only (if GP.sift (zm 0 Ls) p=true then 1 else 0)):=by
 show(if isPerm x.n p=false then _ else _)=_
 rw[if_neg (by rw[xY.mpr hp];decide),r.sift hp]
theorem ze0{x:Obj}{Ls:List Lv}(r:Rep x Ls)(k:Nat):does x (.at_ k)=(x,if k<size (zm 0 Ls) then ⟨0,atC (zm 0 Ls) (none_ x.n) k⟩ else only (-1)):=by
 show(x,match x.g.find? λ(p:Row)=>x.ahead p == k with
  |some p=>(⟨0,p⟩:Ans)
  |none=>only (-1))=_
 by_cases h:k<size (zm 0 Ls)
 .rw[r.tells.at_some h,if_pos h]
 .rw[r.tells.at_none (by omega),if_neg h]
theorem zeR{x:Obj}{Ls:List Lv}(r:Rep x Ls){p:Row}(hp:Pm x.n p):does x (.rank p)=(x,if GP.sift (zm 0 Ls) p=true then ⟨0,two (xo (zm 0 Ls) (none_ x.n) p)⟩ else only (-1)):=by
 show(if isPerm x.n p=false then _ else _)=_
 rw[if_neg (by rw[xY.mpr hp];decide),r.sift hp]
 by_cases h:GP.sift (zm 0 Ls) p=true
 .rw[if_pos h,if_pos h]
  have hm:p∈x.g:=by
   have:=r.sift hp
   rw[h] at this
   simpa using this
  rw[r.tells.ahead hm]
 .rw[if_neg h,if_neg h]
theorem zeX{x:Obj}{Ls:List Lv}(r:Rep x Ls){p:Row}(hp:Pm x.n p):does x (.first p)=(x,⟨0,least (x.g.map λ(q:Row)=>then_ p q)⟩):=by
 show(if isPerm x.n p=false then _ else _)=_
 rw[if_neg (by rw[xY.mpr hp];decide)]
def zT(n:Nat)(L:Lv)(i:Nat):List Nat:=(List.range n).filter λy=>at_ L.kin y == at_ L.kin i
theorem Xo{n:Nat}{L:Lv}{i:Nat}:(zT n L i).Nodup:=List.Nodup.sublist List.filter_sublist List.nodup_range
theorem zd9{n:Nat}{L:Lv}{i:Nat}:(zT n L i).Pairwise (·<=·):=List.Pairwise.sublist List.filter_sublist (List.pairwise_lt_range.imp λh=>Nat.le_of_lt h)
theorem uH{x:Obj}{L:Lv}{Ls:List Lv}(r:Rep x (L::Ls)){i:Nat}(hi:i<x.n)(k:Nat):k∈zT x.n L i↔∃p,p∈x.g/\at_ p i=k:=by
 unfold zT
 rw[List.mem_filter,List.mem_range,beq_iff_eq]
 constructor
 .rintro ⟨hk,e⟩
  obtain⟨p,hp,ep⟩:=r.rest.2.2.2.1 i k hi hk e.symm
  exact⟨p,(r.mem p).mpr hp,ep⟩
 .rintro ⟨p,hp,ep⟩
  have hm:=(r.mem p).mp hp
  have pp:=Made.perm r.pms hm
  have:=Made.kin r.pms r.rest.1.kn hm i hi
  rw[ep] at this
  exact⟨by rw[<- ep];exact pp.at_lt hi,this⟩
theorem jn{x:Obj}{i:Nat}(hi:i<x.n):x.point (i:Int)=true:=by
 unfold Obj.point
 rw[Bool.and_eq_true,decide_eq_true_iff,decide_eq_true_iff]
 omega
theorem zeT{x:Obj}{L:Lv}{Ls:List Lv}(r:Rep x (L::Ls)){i:Nat}(hi:i<x.n):does x (.orbit (i:Int))=(x,⟨((zT x.n L i).length:Int),zT x.n L i⟩):=by
 show(if x.point (i:Int)=false then _ else _)=_
 rw[if_neg (by rw[jn hi];decide)]
 show(x,(⟨((((x.g.map λ(p:Row)=>Md07.at_ p (i:Int).toNat).eraseDups).foldr insertUp []).length:Int),((x.g.map λ(p:Row)=>Md07.at_ p (i:Int).toNat).eraseDups).foldr insertUp []⟩:Ans))=_
 rw[Int.toNat_natCast,zcO Xo (uH r hi),zbo (List.Perm.refl _) zd9]
theorem JH{x:Obj}{L:Lv}{Ls:List Lv}(r:Rep x (L::Ls)){i:Nat}(hi:i<x.n):i∈zT x.n L i:=by
 unfold zT
 rw[List.mem_filter,List.mem_range,beq_iff_eq]
 exact⟨hi,rfl⟩
theorem zeQ{x:Obj}{L:Lv}{Ls:List Lv}(r:Rep x (L::Ls)){i j:Nat}(hi:i<x.n)(hj:j<x.n):does x (.ways (i:Int) (j:Int))=(x,⟨0,two (if j∈zT x.n L i then size (zm 0 (L::Ls)) / (zT x.n L i).length else 0)⟩):=by
 show(if (x.point (i:Int) && x.point (j:Int))=false then _ else _)=_
 rw[if_neg (by rw[jn hi,jn hj];decide)]
 have G:=r.tells.good.grp
 rw[Int.toNat_natCast,zeG]
 by_cases h:j∈zT x.n L i
 .rw[if_pos h]
  obtain⟨t,ht,et⟩:=(uH r hi j).mp h
  have h1:=zcN G hi Xo (uH r hi)
  have pos:0<(zT x.n L i).length:=List.length_pos_of_mem h
  rw[Wc G hi ht et,<- r.tells.order,h1,Nat.mul_div_cancel_left _ pos]
 .rw[if_neg h,zac λp hp e=>h ((uH r hi j).mpr ⟨p,hp,e⟩)]
  rfl
theorem zeW{x:Obj}{L:Lv}{Ls:List Lv}(r:Rep x (L::Ls)){i:Nat}(hi:i<x.n)(h:zT x.n L i=[i]):does x (.fix (i:Int))=(x,only 0):=by
 show(if x.point (i:Int)=false then _ else _)=_
 rw[if_neg (by rw[jn hi];decide)]
 have e:(x.g.filter λ(p:Row)=>(Md07.at_ p (i:Int).toNat:Int) == (i:Int))=x.g:=by
  rw[List.filter_eq_self]
  intro p hp
  rw[Int.toNat_natCast]
  have:at_ p i∈zT x.n L i:=(uH r hi _).mpr ⟨p,hp,rfl⟩
  rw[h,List.mem_singleton] at this
  rw[this];exact beq_self_eq_true _
 show(if (x.g.filter λ(p:Row)=>(Md07.at_ p (i:Int).toNat:Int) == (i:Int)).length<x.g.length then _ else _)=_
 rw[e,if_neg (Nat.lt_irrefl _)]
theorem zeV{x:Obj}{L:Lv}{Ls:List Lv}(r:Rep x (L::Ls)){i:Nat}(hi:i<x.n)(h:zT x.n L i≠[i]):does x (.fix (i:Int))=(⟨x.n,x.g.filter λ(p:Row)=>(at_ p i:Int) == (i:Int),x.g.filter λ(p:Row)=>(at_ p i:Int) == (i:Int)⟩,only 1):=by
 show(if x.point (i:Int)=false then _ else _)=_
 rw[if_neg (by rw[jn hi];decide)]
 show(if (x.g.filter λ(p:Row)=>(Md07.at_ p (i:Int).toNat:Int) == (i:Int)).length<x.g.length then _ else _)=_
 rw[Int.toNat_natCast,if_pos]
 have:∃p,p∈x.g/\at_ p i≠i:=by
  rcases Classical.em (∃p,p∈x.g/\at_ p i≠i) with z|z
  .exact z
  .exfalso
   apply h
   have a:∀k,k∈zT x.n L i->k=i:=λk hk=>by
    obtain⟨p,hp,e⟩:=(uH r hi k).mp hk
    rcases Classical.em (at_ p i=i) with y|y
    .rw[<- e,y]
    .exact absurd ⟨p,hp,y⟩ z
   have nd:(zT x.n L i).Nodup:=Xo
   have hs:=JH r hi
   cases e:zT x.n L i with
   |nil=>rw[e] at hs;simp at hs
   |cons b l=>
    rw[e] at a nd
    have hb:=a b List.mem_cons_self
    cases l with
    |nil=>rw[hb]
    |cons c l=>
     have hc:=a c (List.mem_cons_of_mem _ List.mem_cons_self)
     rw[hb,hc] at nd
     simp at nd
 obtain⟨p,hp,hne⟩:=this
 rcases Nat.lt_or_ge (x.g.filter λ(p:Row)=>(at_ p i:Int) == (i:Int)).length x.g.length with z|z
 .exact z
 .exfalso
  have e:=(List.filter_sublist (p:=λ(p:Row)=>(at_ p i:Int) == (i:Int)) (l:=x.g)).eq_of_length_le z
  have hm:p∈x.g.filter λ(p:Row)=>(at_ p i:Int) == (i:Int):=by rw[e];exact hp
  have:=(List.mem_filter.mp hm).2
  exact hne (Int.ofNat_inj.mp (eq_of_beq this))
theorem Rep.fix{x:Obj}{Ls Ls':List Lv}(r:Rep x Ls){i:Nat}(hi:i<x.n)(r':Rest x.n 0 Ls')(m:∀q,q∈mems x.n (zm 0 Ls')↔q∈mems x.n (zm 0 Ls)/\at_ q i=i) :
  Rep ⟨x.n,x.g.filter λ(p:Row)=>(at_ p i:Int) == (i:Int),x.g.filter λ(p:Row)=>(at_ p i:Int) == (i:Int)⟩ Ls':=by
 refine Rep.of (Good.self r.tells.good.lo r.tells.good.hi (r.tells.good.grp.fix hi)) r' λp=>?_
 show _↔p∈x.g.filter λ(p:Row)=>(at_ p i:Int) == (i:Int)
 rw[m,r.tells.mem,List.mem_filter]
 constructor
 .rintro ⟨h1,h2⟩;exact⟨h1,by rw[h2];exact beq_self_eq_true _⟩
 .rintro ⟨h1,h2⟩;exact⟨h1,Int.ofNat_inj.mp (eq_of_beq h2)⟩
theorem zeZ{x:Obj}{L:Lv}{Ls:List Lv}(r:Rep x (L::Ls)){p:Row}(hp:Pm x.n p):does x (.commutes p)=(x,only (if (L.makers.all λm=>then_ p m == then_ m p)=true then 1 else 0)):=by
 show(if isPerm x.n p=false then _ else _)=_
 rw[if_neg (by rw[xY.mpr hp];decide),zff r.pms r.mem hp]
theorem zeY{x:Obj}{L:Lv}{Ls:List Lv}(r:Rep x (L::Ls)):does x .even=(x,only (if (L.makers.all λm=>inversions m % 2 == 0)=true then 1 else 0)):=by
 show(x,only (if (x.g.all λ(q:Row)=>inversions q % 2 == 0)=true then 1 else 0))=_
 rw[zeJ r.pms r.mem]
theorem J0{x y:Obj}{L:Lv}{Ls Ms:List Lv}(r:Rep x (L::Ls))(r':Rep y Ms)(h:x.n=y.n):(x.g.all λ(p:Row)=>y.g.contains p)=L.makers.all λp=>GP.sift (zm 0 Ms) p:=by
 have G':Grp x.n y.g:=by rw[h];exact r'.tells.good.grp
 rw[zeu r.pms r.mem G']
 rw[Bool.eq_iff_iff,List.all_eq_true,List.all_eq_true]
 constructor <;>
 .intro hh p hp
  have:=r'.sift (p:=p) (by rw[<- h];exact r.pms p hp)
  have h2:=hh p hp
  first
   |(rw[<- this];exact h2)
   |(rw[this];exact h2)
theorem Rep.join{x y:Obj}{L M N:Lv}{Ls Ms Ns:List Lv}(r:Rep x (L::Ls))(r':Rep y (M::Ms))(h:x.n=y.n)(rN:Rest x.n 0 (N::Ns))(m:∀q,Made x.n N.makers q↔Made x.n (L.makers++M.makers) q):Rep ⟨x.n,x.gens++y.gens,made x.n (x.gens++y.gens)⟩ (N::Ns):=by
 have G:=r.tells.good
 have G':=r'.tells.good
 have gy:∀p,p∈y.gens->Pm x.n p:=by rw[h];exact G'.gens
 have my:∀p,p∈M.makers->Pm x.n p:=by rw[h];exact r'.pms
 have hg:∀q,q∈x.gens++y.gens->Pm x.n q:=λq hq=>by
  rcases List.mem_append.mp hq with z|z
  .exact G.gens q z
  .exact gy q z
 refine Rep.of (Good.made G.lo G.hi hg) rN λq=>?_
 show _↔q∈made x.n (x.gens++y.gens)
 rw[(xX hg).2 q,Closed.iff rN.all rN.closed]
 show Made x.n N.makers q↔_
 rw[m]
 refine Xi r.pms my G.gens gy (λq=>(r.mem q).symm.trans (G.mem q)) (λq=>?_) q
 have h1:=r'.mem q
 have h2:=G'.mem q
 rw[<- h] at h1 h2
 exact h1.symm.trans h2
end GP
end
section
set_option Elab.async false
set_option linter.all false
set_option maxRecDepth 100000
namespace L2
open PySem PySem.Spec PyProof.Rows
def KDict(K:PySem.W.Frag)(a:Addr)(kvs:List (Key×V)):Prop:=(a == sysModules)=false/\∀(P:Program)(w:World)(h:Heap),K.In h->∃vs,KV kvs vs/\h.DictOf (yI P w) a vs
end L2
namespace L2
open PySem PySem.Spec PyProof.Rows
def y8(i j:Int):Prop:=0<j/\j<2 ^ 8000
theorem y8.of{i j:Int}(h:0<j)(h2:j<2 ^ 200):y8 i j:=⟨h,Int.lt_of_lt_of_le h2 (by
 have:=Nat.pow_le_pow_right (n:=2) (by decide) (show 200<=8000 by decide)
 exact_mod_cast this)⟩
def ipC(C:Int->Int->Prop)(f:Int->Int->Int):TIp:=λx y H Q=>∃i j,x=.int i/\y=.int j/\C i j/\Q (.int (f i j)) H
def YE:List V->Hp->VK->Prop:=λxs H Q=>∃n:Int,xs=[.int n]/\∀p,H p=none->Q (.ref p) (upd H p (.rng 0 n))
def YG:List V->Hp->VK->Prop:=λxs H Q=>∃(p:Addr)(n:Nat),xs=[.ref p]/\H p=some (.rng 0 (n:Int))/\n<=1000/\∀l,H l=none->Q (.ref l) (upd H l (.lst ((List.range n).map λ(i:Nat)=>V.int (i:Int))))
def ka(K:PySem.W.Frag):List V->Hp->VK->Prop:=λxs H Q=>∃p ys,xs=[.ref p]/\(SqL K H p ys∨SqT K H p ys)/\∀l,H l=none->Q (.ref l) (upd H l (.lst ys))
def VD:List V->Hp->VK->Prop:=λxs H Q=>∃p kvs,xs=[.ref p]/\Rd H p (.dK kvs)/\∀l,H l=none->Q (.ref l) (upd H l (.dK kvs))
def zZ(K:PySem.W.Frag):List V->Hp->VK->Prop:=λxs H Q=>∃p ys,xs=[.ref p]/\(SqL K H p ys∨SqT K H p ys)/\Q (.int ys.length) H
def q0:List V->Hp->VK->Prop:=λxs H Q=>∃a kvs,xs=[V.ref a]/\H a=some (.dK kvs)/\Q (.int kvs.length) H
def YH(K:PySem.W.Frag):V->V->Hp->VK->Prop:=λx y H Q=>∃(p:Addr)(xs:List V)(j:Nat)(v:V),x=.ref p/\y=.int (j:Int)/\SqL K H p xs/\xs[j]? = some v/\Q v H
def VC:V->List V->Hp->VK->Prop:=λx vs H Q=>∃(l:Addr)(xs:List V)(i:Nat)(y:V),x=.ref l/\vs=[.int (i:Int),y]/\H l=some (.lst xs)/\i<=xs.length/\xs.length<=1000/\Q .non (upd H l (.lst (xs.take i++y::xs.drop i)))
def kb(K:PySem.W.Frag):R2:=λx y H Q=>∃(a b:Addr)(xs ys:List Int),x=.ref a/\y=.ref b/\SqL K H a (xs.map V.int)/\SqL K H b (ys.map V.int)/\Q (.bl (decide (xs=ys))) H
def vL(K:PySem.W.Frag)(td ty:TE):TE:=fun σ H Q=>td σ H λx H1=>ty σ H1 λy H2=>∃a kvs k v,x=.ref a/\KDict K a kvs/\y=kV k/\zX kvs k=some v/\Q v H2
def ZA(K:PySem.W.Frag)(ty td:TE):TE:=fun σ H Q=>ty σ H λy H1=>td σ H1 λx H2=>∃a kvs k,x=.ref a/\KDict K a kvs/\y=kV k/\Q (.bl (zX kvs k).isSome) H2
def jc(i:Nat)(fs:List (Addr×Sp))(t:TA):TE:=fun σ H Q=>∃f sp,σ[i]? = some (some (.ref f))/\(f,sp)∈fs/\t σ H λvs H1=>sp vs H1 Q λ_ _ _=>False
theorem Qa{K:PySem.W.Frag}{a:Addr}{xs:List V}{g:TG}{tb:TS}{D:Ends}{σ:St}{H:Hp}(Pv:Nat->St->Hp->Prop)(h0:Pv 0 σ H)(hl:∀i σ H,i<=xs.length->Pv i σ H->SqL K H a xs)
  (hs:∀(i:Nat) x T σ H,xs[i]? = some x->Pv i σ H->H T=none->g (.ref T) σ (upd H T (.tup [.int (i:Nat),x])) fun σ2 H2=>tb { D with nx:=Pv (i+1),ct:=Pv (i+1),bk:=D.nx } σ2 H2) (hd:∀σ H,Pv xs.length σ H->D.nx σ H) :
  ∃W:Nat->Nat->St->Hp->Prop,(∃m,W 0 m σ H)/\∀i m σ H,W i m σ H ->
   ((Ite K a).stop i H/\D.nx σ H)∨((Ite K a).go i H/\∃N:St->Hp->Prop,(∀σ' H',N σ' H'->∃m',m'<m/\W (i+1) m' σ' H')/\∀x H',(Ite K a).yld i H x H'->g x σ H' fun σ2 H2=>tb { D with nx:=N,ct:=N,bk:=D.nx } σ2 H2):=by
 refine⟨λi m σ H=>m=xs.length-i/\i<=xs.length/\Pv i σ H,⟨xs.length,by simp,Nat.zero_le _,h0⟩,?_⟩
 rintro i m σ H ⟨rfl,hi,p⟩
 have q:=hl i σ H hi p
 by_cases hlt:i<xs.length
 .refine .inr ⟨⟨xs,xs[i],q,by simp[hlt]⟩,Pv (i+1),fun σ' H' p'=>⟨xs.length-(i+1),by omega,rfl,hlt,p'⟩,λv H' y=>?_⟩
  obtain⟨T,x,e,hT,eH,y⟩:=y
  subst e;subst eH
  exact hs i x T σ H (y xs q) p hT
 .have e:i=xs.length:=by omega
  subst e
  exact .inl ⟨⟨xs,q,Nat.le_refl _⟩,hd σ H p⟩
theorem kU{d:Addr}{o:Obj}{kvs:List (Key×V)}{g:TG}{tb:TS}{D:Ends}{σ:St}{H:Hp}(Pv:Nat->St->Hp->Prop)(h0:Pv 0 σ H)(hl:∀i σ H,i<=kvs.length->Pv i σ H->H d=some (.frz o (.dK kvs)))
  (hs:∀(i:Nat) k v σ H,kvs[i]? = some (k,v)->Pv i σ H->g (kV k) σ H fun σ2 H2=>tb { D with nx:=Pv (i+1),ct:=Pv (i+1),bk:=D.nx } σ2 H2) (hd:∀σ H,Pv kvs.length σ H->D.nx σ H) :
  ∃W:Nat->Nat->St->Hp->Prop,(∃m,W 0 m σ H)/\∀i m σ H,W i m σ H ->
   ((Itk d o kvs).stop i H/\D.nx σ H)∨((Itk d o kvs).go i H/\∃N:St->Hp->Prop,(∀σ' H',N σ' H'->∃m',m'<m/\W (i+1) m' σ' H')/\∀x H',(Itk d o kvs).yld i H x H'->g x σ H' fun σ2 H2=>tb { D with nx:=N,ct:=N,bk:=D.nx } σ2 H2):=by
 refine⟨λi m σ H=>m=kvs.length-i/\i<=kvs.length/\Pv i σ H,⟨kvs.length,by simp,Nat.zero_le _,h0⟩,?_⟩
 rintro i m σ H ⟨rfl,hi,p⟩
 have q:=hl i σ H hi p
 by_cases hlt:i<kvs.length
 .refine .inr ⟨⟨q,hlt⟩,Pv (i+1),fun σ' H' p'=>⟨kvs.length-(i+1),by omega,rfl,hlt,p'⟩,λv H' y=>?_⟩
  obtain⟨e,k,u,h1,h2⟩:=y
  subst e;subst h2
  exact hs i k u σ _ h1 p
 .have e:i=kvs.length:=by omega
  subst e
  exact .inl ⟨⟨q,Nat.le_refl _⟩,hd σ H p⟩
theorem zd3{d:Addr}{o:Obj}{kvs:List (Key×V)}{g:TG}{tt:TT}{te:TE}{vs:List Nat}{σ:St}{H1:Hp}{D:Addr}{Qd:Hp->Prop}(Pv:Nat->Hp->Prop)(h0:Pv 0 (upd H1 D (.lst [])))(hl:∀i H,i<=kvs.length->Pv i H->H d=some (.frz o (.dK kvs)))
  (hs:∀(i:Nat) k v H,kvs[i]? = some (k,v)->Pv i H->g (kV k) (wipe σ vs) H fun σ2 H2=>wipe σ2 vs=wipe σ vs/\tt σ2 H2 λb H3=>
   if b=true then te σ2 H3 λy H4=>∃acc,H4 D=some (.lst acc)/\acc.length<sizeLine/\Pv (i+1) (upd H4 D (.lst (acc++[y]))) else Pv (i+1) H3) (hd:∀H,Pv kvs.length H->Qd H) :
  ∃W:Nat->Nat->Hp->Prop,(∃m,W 0 m (upd H1 D (.lst [])))/\∀i m H,W i m H ->
   ((Itk d o kvs).stop i H/\Qd H)∨((Itk d o kvs).go i H/\∃Nx:Hp->Prop,(∀H',Nx H'->∃m',m'<m/\W (i+1) m' H')/\∀x H',(Itk d o kvs).yld i H x H'->g x (wipe σ vs) H' fun σ2 H2=>wipe σ2 vs=wipe σ vs/\tt σ2 H2 λb H3=>
    if b=true then te σ2 H3 λy H4=>∃acc,H4 D=some (.lst acc)/\acc.length<sizeLine/\Nx (upd H4 D (.lst (acc++[y]))) else Nx H3):=by
 refine⟨λi m H=>m=kvs.length-i/\i<=kvs.length/\Pv i H,⟨kvs.length,by simp,Nat.zero_le _,h0⟩,?_⟩
 rintro i m H ⟨rfl,hi,p⟩
 have q:=hl i H hi p
 by_cases hlt:i<kvs.length
 .refine .inr ⟨⟨q,hlt⟩,Pv (i+1),λH' p'=>⟨kvs.length-(i+1),by omega,rfl,hlt,p'⟩,λx H' y=>?_⟩
  obtain⟨e,k,u,h1,h2⟩:=y
  subst e;subst h2
  exact hs i k u _ h1 p
 .have e:i=kvs.length:=by omega
  subst e
  exact .inl ⟨⟨q,Nat.le_refl _⟩,hd H p⟩
def xL(t:TE):Prop:=∀σ H Q Q',(∀v H1,Q v H1->Q' v H1)->t σ H Q->t σ H Q'
def vI(t:TT):Prop:=∀σ H Q Q',(∀b H1,Q b H1->Q' b H1)->t σ H Q->t σ H Q'
def uW(t:TA):Prop:=∀σ H Q Q',(∀v H1,Q v H1->Q' v H1)->t σ H Q->t σ H Q'
def ua(r:R2):Prop:=∀x y H Q Q',(∀v H1,Q v H1->Q' v H1)->r x y H Q->r x y H Q'
def X5(r:List V->Hp->VK->Prop):Prop:=∀x H Q Q',(∀v H1,Q v H1->Q' v H1)->r x H Q->r x H Q'
theorem xL.var(i:Nat):xL (za i):=λ_ _ _ _ h ⟨v,e,q⟩=>⟨v,e,h _ _ q⟩
theorem xL.fld{K:PySem.W.Frag}{t:TE}{f:Str}(m:xL t):xL (zt K t f):=fun σ H Q Q' h q=>m σ H _ _ (λ_ _ ⟨a,C,dx,fs,v,g1,g2,g3,g4,g5,g6⟩=>⟨a,C,dx,fs,v,g1,g2,g3,g4,g5,h _ _ g6⟩) q
theorem xL.op{r:R2}{t u:TE}(mr:ua r)(m:xL t)(n:xL u):xL (tOp r t u):=fun σ H Q Q' h q=>m σ H _ _ (λx H1 q=>n σ H1 _ _ (λy H2 q=>mr x y H2 _ _ h q) q) q
theorem uW.nil:uW zd:=λ_ _ _ _ h q=>h _ _ q
theorem uW.cons{t:TE}{u:TA}(m:xL t)(n:uW u):uW (zb t u):=fun σ H Q Q' h q=>m σ H _ _ (λx H1 q=>n σ H1 _ _ (λy H2 q=>h _ _ q) q) q
theorem xL.cb{r:List V->Hp->VK->Prop}{t:TA}(mr:X5 r)(m:uW t):xL (tCB r t):=fun σ H Q Q' h q=>m σ H _ _ (λx H1 q=>mr x H1 _ _ h q) q
theorem X5.len{K:PySem.W.Frag}:X5 (zZ K):=λ_ _ _ _ h ⟨p,ys,g1,g2,g3⟩=>⟨p,ys,g1,g2,h _ _ g3⟩
theorem ua.i0{g:Int->Int->V}:ua (rI0 g):=λ_ _ _ _ _ h ⟨i,j,g1,g2,g3⟩=>⟨i,j,g1,g2,h _ _ g3⟩
theorem ua.eq:ua rEq:=λ_ _ _ _ _ h ⟨g1,g2⟩=>⟨g1,h _ _ g2⟩
theorem ua.ix{K:PySem.W.Frag}:ua (zu K):=λ_ _ _ _ _ h ⟨p,xs,i,v,g1,g2,g3,g4,g5⟩=>⟨p,xs,i,v,g1,g2,g3,g4,h _ _ g5⟩
theorem vI.test{t:TE}(m:xL t):vI (ya t):=fun σ H Q Q' h q=>m σ H _ _ (λ_ _ ⟨k,e,q⟩=>⟨k,e,h _ _ q⟩) q
theorem vI.and{t u:TT}(m:vI t)(n:vI u):vI (vf t u):=fun σ H Q Q' h q=>m σ H _ _ (λc H1 q=>by
 cases c with
 |true=>rw[if_pos rfl] at q ⊢;exact n σ H1 _ _ h q
 |false=>rw[if_neg Bool.false_ne_true] at q ⊢;exact h _ _ q) q
theorem vW{A B:Prop}{i j:Int}(h1:i<j->A)(h2:¬i<j->B):if decide (i<j)=true then A else B:=by
 by_cases q:i<j
 .rw[decide_eq_true q,if_pos rfl];exact h1 q
 .rw[decide_eq_false q,if_neg Bool.false_ne_true];exact h2 q
theorem Xl{A B:Prop}{i j:Int}(h1:i<=j->A)(h2:¬i<=j->B):if decide (i<=j)=true then A else B:=by
 by_cases q:i<=j
 .rw[decide_eq_true q,if_pos rfl];exact h1 q
 .rw[decide_eq_false q,if_neg Bool.false_ne_true];exact h2 q
theorem jK{A B:Prop}{i j:Int}(h1:i=j->A)(h2:¬i=j->B):if decide (V.int i=V.int j)=true then A else B:=by
 by_cases q:i=j
 .rw[q,decide_eq_true rfl,if_pos rfl];exact h1 q
 .rw[decide_eq_false (λz=>q (V.int.inj z)),if_neg Bool.false_ne_true];exact h2 q
theorem ju{A B:Prop}{i j:Int}(h1:¬i=j->A)(h2:i=j->B):if (!decide (V.int i=V.int j))=true then A else B:=by
 by_cases q:i=j
 .rw[q,decide_eq_true rfl,if_neg (by decide)];exact h2 q
 .rw[decide_eq_false (λz=>q (V.int.inj z)),if_pos (by decide)];exact h1 q
end L2
end
section
set_option Elab.async false
set_option linter.all false
set_option maxRecDepth 100000
namespace L2
open PySem PySem.Spec PyProof.Rows
section
variable{X:Cx}
theorem Jk{x y:Int}(h0:0<y)(h:y<2 ^ 8000):Builtin.divisionGoesByPylong x y=false:=by
 refine PyProof.noPylong_of_log2 ?_
 have hn:y.natAbs<2 ^ 8000:=by
  have e:((y.natAbs:Nat):Int)=y:=by omega
  have h2:((y.natAbs:Nat):Int)<((2 ^ 8000:Nat):Int):=by rw[e];exact_mod_cast h
  exact Int.ofNat_lt.mp h2
 have hne:y.natAbs≠0:=by omega
 have:=(Nat.log2_lt hne).mpr hn
 omega
theorem js:OpR X (binaryOp .FloorDiv) (rI y8 λi j=>.int (i / j)):=opI λi j _ _ _ _ _ hc q=>by
 have h1:(0:Int)<j:=hc.1
 exact floordiv_int (by omega) (by rw[Int.fdiv_eq_ediv_of_nonneg i (by omega)];exact q) (.inl (Jk hc.1 hc.2))
theorem JU:PIp X .Mult (ipC CMul λi j=>i*j):=by
 intro pins s σ H x y v u Q I r1 r2 h
 obtain⟨i,j,e1,e2,c,q⟩:=h
 subst e1;subst e2
 obtain⟨t,rfl⟩:=r1
 obtain⟨t',rfl⟩:=r2
 exact PySem.AutoIntOps.imul_0 (show(Made.int (i*j)).post _ s from⟨.int _,H,I.tok _,⟨_,rfl⟩,q⟩) c.ok
theorem JV:PIp X .FloorDiv (ipC y8 λi j=>i / j):=by
 intro pins s σ H x y v u Q I r1 r2 h
 obtain⟨i,j,e1,e2,c,q⟩:=h
 subst e1;subst e2
 obtain⟨t,rfl⟩:=r1
 obtain⟨t',rfl⟩:=r2
 have h1:(0:Int)<j:=c.1
 refine PySem.AutoIntOps.ifloordiv_1 (by simp;omega) (by rw[Jk c.1 c.2];simp) ?_
 rw[Int.fdiv_eq_ediv_of_nonneg i (by omega)]
 exact⟨.int _,H,I.tok _,⟨_,rfl⟩,q⟩
theorem zep:PIp X .Mod (ipC (λ_ j=>0<j) λi j=>i % j):=by
 intro pins s σ H x y v u Q I r1 r2 h
 obtain⟨i,j,e1,e2,c,q⟩:=h
 subst e1;subst e2
 obtain⟨t,rfl⟩:=r1
 obtain⟨t',rfl⟩:=r2
 have h1:(0:Int)<j:=c
 refine PySem.AutoIntOps.imod_1 (by simp;omega) ?_
 rw[Int.fmod_eq_emod_of_nonneg i (by omega)]
 exact⟨.int _,H,I.tok _,⟨_,rfl⟩,q⟩
theorem QD:wA X (.type "range") YE:=by
 intro pins s σ H xs us Q I r h
 obtain⟨n,rfl,q⟩:=h
 cases r with
 |cons r rr=>
  cases rr
  obtain⟨t,rfl⟩:=r
  refine call_range_1 ?_
  have hf:H s.heap.objs.size=none:=I.hok.fresh (Nat.le_refl _)
  refine⟨.ref s.heap.objs.size,upd H s.heap.objs.size (.rng 0 n),I.laid (λb u e=>Heap.get?_push_of_some _ e) (Nat.le_refl _) ?_,rfl,q _ hf⟩
  exact⟨_,_,_,Heap.get?_push_size _ rfl⟩
theorem zaf:∀{acc:List Value}{n:Nat}{lo:Int},acc.length=n->(∀(j:Nat) v,acc[j]? = some v->∃t,v=Value.int (lo+j*1) t)->Vals ((List.range n).map λ(i:Nat)=>V.int (lo+(i:Int))) acc:=by
 intro acc n lo hl hv
 have:∀(xs:List V)(us:List Value),xs.length=us.length->(∀(j:Nat) x u,xs[j]? = some x->us[j]? = some u->zr x u)->Vals xs us:=by
  intro xs
  induction xs with
  |nil=>intro us h _;cases us with
   |nil=>exact .nil
   |cons a t=>simp at h
  |cons x xs ih=>
   intro us h hr
   cases us with
   |nil=>simp at h
   |cons u us=>exact .cons (hr 0 x u rfl rfl) (ih us (by simpa using h) λj y v h1 h2=>hr (j+1) y v (by simpa using h1) (by simpa using h2))
 refine this _ _ (by simp[hl]) λj x u h1 h2=>?_
 obtain⟨t,e⟩:=hv j u h2
 have hj:j<n:=by
  rw[<- hl];exact(List.getElem?_eq_some_iff.mp h2).1
 rw[List.getElem?_map,List.getElem?_range hj] at h1
 have e2:V.int (lo+(j:Int))=x:=by simpa using h1
 subst e2
 exact⟨t,by rw[e];congr 1;omega⟩
theorem QE(hc:X.calm=true):wA X (.type "list") YG:=by
 intro pins s σ H xs us Q I r h
 obtain⟨p,n,rfl,hp,hn,q⟩:=h
 rw[Vals.ref1 r]
 obtain⟨t,u,v,e⟩:=I.hok p _ hp
 have hf:H s.heap.objs.size=none:=I.hok.fresh (Nat.le_refl _)
 have es:Builtin.Range.rangeSize 0 (n:Int) 1=(n:Int):=by rw[rangeSize_one];split<;>omega
 refine call_list_range (n:=n) (I.ok.hd hc) e (small_one (by omega) (by omega) (by omega) (by omega)) es (by omega) λh' tk acc' c' hk hS hacc=>?_
 have hv:=zaf (acc:=acc'.toList) (n:=n) (lo:=0) (by simpa using hacc.1) (λj v hv=>hacc.2 j v (by simpa using hv))
 refine⟨.ref s.heap.objs.size,upd H s.heap.objs.size (.lst ((List.range n).map λ(i:Nat)=>V.int (i:Int))),I.laid (λb u e=>hk b u e) (Nat.le_refl _) ?_,rfl,q _ hf⟩
 refine⟨by simp;exact Nat.le_of_lt (zbw hn),acc'.toList,c',?_,by simpa using hS⟩
 simpa using hv
theorem zfn:wA X (.type "dict") VD:=by
 intro pins s σ H xs us Q I r h
 obtain⟨p,kvs,rfl,hp,q⟩:=h
 rw[Vals.ref1 r]
 exact ze9 I hp λl s' hn I'=>⟨.ref l,_,I',rfl,q l hn⟩
theorem zeD:PGet X (YH X.K):=by
 intro pins s σ H o i ov iv Q I r1 r2 h
 obtain⟨p,xs,j,z,rfl,rfl,hq,he,q⟩:=h
 cases r1
 obtain⟨t,rfl⟩:=r2
 obtain⟨its,r,pl,hz⟩:=I.list hq
 obtain⟨w,ew,rw'⟩:=r.get he
 have hl:=r.length
 have hn:=line63
 have hj:=(List.getElem?_eq_some_iff.mp he).1
 exact wpAny_getItem_list pl.isList (by omega) (by omega) (by simpa using ew) ⟨z,H,I,rw',q⟩
theorem zdt:MtM X "list.insert" VC:=by
 intro pins s σ H x vs v us Q I rx rv h
 obtain⟨l,xs,i,y,rfl,rfl,hH,hi,hz,q⟩:=h
 cases rx
 obtain⟨u1,u2,rfl,⟨t,rfl⟩,ry⟩:=rv.two
 obtain⟨z,its,n,r,hl,e⟩:=I.lstM hH
 have hf:Builtin.List.listFitsIndex (i:Int)=true:=by
  unfold Builtin.List.listFitsIndex
  rw[Bool.and_eq_true,decide_eq_true_iff,decide_eq_true_iff]
  omega
 generalize hzi:(i:Int)=zi at hf ⊢
 refine call_meets F.slot_list_insert ⟨_,e,rfl⟩ F.entry_list_insert (F.args_list_insert_3 _ _ _) (AutoSeq1.list_insert_list_int_val_1 l its.toArray n zi t u2 (by rw[hf];intro z;cases z) (by rw[List.size_toArray];omega)) ⟨e,?_⟩
 refine⟨.non,_,I.lset (its':=its.take i++u2::its.drop i) hH e ?_ ((r.take i).append (.cons ry (r.drop i))) ?_,rfl,q⟩
 .have hm:(if zi<0 then (zi+(its.toArray.size:Int)).toNat else min zi.toNat its.toArray.size)=i:=by
   rw[<- hzi,if_neg (by omega),List.size_toArray,Int.toNat_natCast];omega
  show(its.toArray.extract 0 _).push u2++its.toArray.extract _=_
  rw[hm]
  apply Array.ext'
  simp
  exact List.take_of_length_le (by rw[List.length_drop];exact Nat.le_refl _)
 .rw[List.length_append,List.length_cons,List.length_take,List.length_drop]
  have:xs.length+1<=1001:=by omega
  exact Nat.le_trans (by omega) (Nat.le_trans this (by rw[sizeLine_eq];omega))
theorem XI{K:PySem.W.Frag}{H:Hp}:∀ns:List Int,ub K H (ns.map V.int) (ns.map PyData.int)
 |[]=>.nil
 |n::ns=>.cons (.int n) (XI ns)
theorem Qh:∀xs ys:List Int,PyData.eqvAll (xs.map PyData.int) (ys.map PyData.int)=decide (xs=ys)
 |[],[]=>by simp[PyData.eqvAll]
 |[],_::_=>by simp[PyData.eqvAll]
 |_::_,[]=>by simp[PyData.eqvAll]
 |x::xs,y::ys=>by
  rw[List.map_cons,List.map_cons,PyData.eqvAll,Qh xs ys,PyData.eqv]
  by_cases h:x=y
  .subst h;simp
  .simp[h]
theorem JF:∀ns:List Int,PyData.canLayAll0 (ns.map PyData.int)=true
 |[]=>by simp[PyData.canLayAll0]
 |n::ns=>by rw[List.map_cons,PyData.canLayAll0,JF ns,PyData.canLay0];rfl
theorem Qn:∀ns:List Int,PyData.depthAll (ns.map PyData.int)<=1
 |[]=>by simp[PyData.depthAll]
 |n::ns=>by rw[List.map_cons,PyData.depthAll,PyData.depth];have:=Qn ns;omega
theorem WC(ns:List Int):SeqAt.shaped (.list (ns.map PyData.int))=true:=by
 unfold SeqAt.shaped
 rw[PyData.canLay0,JF,Bool.true_and,decide_eq_true_iff,PyData.depth]
 have:=Qn ns
 omega
theorem Y1(hu:X.A.units+64<cLine):OpR X (compareOp .Eq) (kb X.K):=by
 intro pins s σ H x y v u Q I rx ry h
 obtain⟨a,b,xs,ys,rfl,rfl,ha,hb,q⟩:=h
 refine zcP hu pins s σ H _ _ v u Q I rx ry ⟨_,_,.lst ha (XI xs),.lst hb (XI ys),WC xs,WC ys,?_⟩
 rw[PyData.eqv,Qh]
 exact q
theorem Vx(a b:Int):Builtin.Range.rangeSize a b (-1)=if a > b then a-b else 0:=by
 unfold Builtin.Range.rangeSize
 simp only[show ¬((-1:Int) > 0) by decide,if_false,show(-(-1):Int)=1 from rfl,Int.ediv_one]
 split<;>omega
theorem zbF{m:Nat}(h:m<=1000):RgC ((m:Int)-2) (-1) (-1) (m-1):=by
 refine⟨by decide,by decide,?_,?_⟩
 .unfold Builtin.Range.small
  rw[Vx]
  simp only[Builtin.Range.rangeFitsLong,Bool.and_eq_true,Bool.or_eq_true,decide_eq_true_eq,beq_iff_eq,show ¬((-1:Int) > 0) by decide,if_false]
  split<;>omega
 .rw[Vx];split<;>omega
theorem zej{pins:List (Addr×Obj)}{σ:St}{H:Hp}{s:Shared}{a:Addr}{kvs:List (Key×V)}{k:Key}{v:V}{u:Value}{A:Around}{E:Value->Shared->Prop}{Q:Value->Shared->Prop}(I:Inv X pins σ H s)(g:KDict X.K a kvs)(ry:zr (kV k) u)(l:zX kvs k=some v)
  (h:∀w' s',Inv X pins σ H s'->zr v w'->Q w' s'):wpAny (model X.prog X.w) A (getItem (.ref a) u) Q E s:=by
 obtain⟨vs,rel,dd⟩:=g.2 X.prog X.w s.heap I.kIn
 obtain⟨w',hw,rw'⟩:=yV.some_of (v:=v) (o:=valueAt vs k) (by rw[<- l];exact rel.val k)
 exact wpAny_getItem_of (wY ry) dd.mapOf hw (h w' _ (I.tok _) rw')
theorem YT{o i:Expr}{pos:Pos}{td ty:TE}(hu:X.A.units+1<cLine)(ho:PE X o td)(hi:PE X i ty)(hs:X4 i):PE X (.Subscript o i pos) (vL X.K td ty):=by
 intro pins s σ H Q I h
 refine Wv PySem.F.slot_dict_getitem.lookup hs (thn (ho pins s σ H _ I h) λu s1 ⟨x,H1,I1,rx,q1⟩=>thn (hi pins s1 σ H1 _ I1 q1) λiv s2 ⟨y,H2,I2,ry,a,kvs,k,v,ex,g,ey,l,q2⟩=>?_)
 subst ex ey
 obtain rfl:u=Value.ref a:=rx
 obtain⟨vs,rel,dd⟩:=g.2 X.prog X.w s2.heap I2.kIn
 exact⟨dd.typeIs,zej I2 g ry l λw' s3 I3 rw'=>⟨v,H2,I3,rw',q2⟩⟩
theorem zcJ{o i:Expr}{td ty:TE}(hu:X.A.units+1<cLine)(hi:PE X i ty)(ho:PE X o td):PC X .In i o (ZA X.K ty td):=by
 intro pins s σ H Q I h
 refine thn (hi pins s σ H _ I h) λiv s1 ⟨y,H1,I1,ry,q1⟩=>thn (ho pins s1 σ H1 _ I1 q1) λu s2 ⟨x,H2,I2,rx,a,kvs,k,ex,g,ey,q2⟩=>?_
 subst ex ey
 obtain rfl:u=Value.ref a:=rx
 obtain⟨vs,rel,dd⟩:=g.2 X.prog X.w s2.heap I2.kIn
 refine wpAny_in_of (wY ry) g.1 dd.mapOf ?_
 rw[<- (rel.val k).isSome_eq]
 exact⟨.bl (zX kvs k).isSome,H2,I2.tok _,rfl,q2⟩
structure X6(X:Cx)(CX:CXT)(k:Nat)(f:Addr)(sp:Sp):Prop where
 ex:∃(fd:FuncData)(ps:List Str),zB X.prog X.w X.K X.mg X.base CX k f fd ps sp/\Binds X.K fd ps []
 kp:PySem.W.keepIn X.K (.ref f)=true
theorem VQ{CX:CXT}{k i:Nat}{fs:List (Addr×Sp)}{x:Str}{p pos:Pos}{e:Expr}{es:List Expr}{t:TA}(hN:X.N[i]? = some x)(hv:Vis X.env.scope x)(hfs:∀f sp,(f,sp)∈fs->X6 X CX k f sp)(hr:Room k X.A)(hx:Passes CX X λ_ _ _=>False)
  (ha:PA X (e::es) t) (hdb:(x == ("__debug__":Str))=false:=by decide) (hcd:(x == ("__classdict__":Str))=false:=by decide) (he:starEach (e::es) X.env=(false,eval e X.env)::starEach es X.env:=by rfl) (hpl:(backTo pos (starEach es X.env)).any (·.1)=false:=by rfl) :
  PE X (.Call (.Name x p) (e::es) [] pos) (jc i fs t):=by
 intro pins s σ H Q I h
 obtain⟨f,sp,ev,hm,h⟩:=h
 obtain⟨⟨fd,ps,F,hb⟩,hk⟩:=hfs f sp hm
 refine wpAny_Call_Name_kw (thn (VM (X:=X) (pos:=p) hN hv hdb hcd pins s σ H (λv H'=>v=.ref f/\H'=H) I ⟨_,ev,rfl,rfl⟩) λu s0 ⟨v,H0,I0,rv,e1,e2⟩=>?_)
 subst e1 e2
 obtain rfl:u=Value.ref f:=rv
 refine PySem.W.callWith_K (h₀:=X.base) I.ok.mod.kin hk (thn (ha pos pins s0 σ H0 _ I0 h) λus s1 ⟨vs,H1,I1,r,q⟩=>⟨I1.kIn,?_⟩) he hpl
 exact qX (ds:=[]) (dvs:=[]) F hr hb .nil hx I1 r (by rw[List.append_nil];exact q)
end
end L2
end
section
set_option Elab.async false
set_option linter.all false
set_option maxRecDepth 100000
namespace Gd
open PySem PySem.Spec PyProof.Rows L2
theorem zN{N P:List Str}{sc:Scope}(h:(sc.kind=.function/\sc.isCoroutine=false/\sc.isGenerator=false)/\N.Nodup/\N.take P.length=P/\(∀x∈P,sc.names.lookup x=some .local∨sc.names.lookup x=some .cell)/\∀y∈sc.names,y.2≠.free):zK N P sc:=⟨h.1.1,h.1.2.1,h.1.2.2,h.2.1,h.2.2.1,h.2.2.2.1,h.2.2.2.2⟩
theorem us1{us:List Value}(h:us.length=1):∃u0,us=[u0]:=match us,h with|[u0],_=>⟨u0,rfl⟩
theorem bn1{K:PySem.W.Frag}{x qual:Str}{st:Stmt}{f:Addr}{fd:FuncData}{p0:Str}(F:Fun K x qual st f fd)(h:∀(kV doc pm:Value)(an:Option Addr)(cdv ct u0:Value),bindArgs (PySem.W.fnOf x qual (vE st) (va st) (zA st) .none kV doc pm an cdv ct) ⟨[u0],[]⟩=pure ([p0].zip [u0])):Binds K fd [p0] [] :=
 F.binds λkV doc pm an cdv ct us hl=>by
 obtain⟨u0,rfl⟩:=us1 hl
 exact h ..
theorem us2{us:List Value}(h:us.length=2):∃u0 u1,us=[u0,u1]:=match us,h with|[u0,u1],_=>⟨u0,u1,rfl⟩
theorem bn2{K:PySem.W.Frag}{x qual:Str}{st:Stmt}{f:Addr}{fd:FuncData}{p0 p1:Str}(F:Fun K x qual st f fd)(h:∀(kV doc pm:Value)(an:Option Addr)(cdv ct u0 u1:Value),bindArgs (PySem.W.fnOf x qual (vE st) (va st) (zA st) .none kV doc pm an cdv ct) ⟨[u0,u1],[]⟩=pure ([p0,p1].zip [u0,u1])):Binds K fd [p0,p1] [] :=
 F.binds λkV doc pm an cdv ct us hl=>by
 obtain⟨u0,u1,rfl⟩:=us2 hl
 exact h ..
theorem us3{us:List Value}(h:us.length=3):∃u0 u1 u2,us=[u0,u1,u2]:=match us,h with|[u0,u1,u2],_=>⟨u0,u1,u2,rfl⟩
theorem bn3{K:PySem.W.Frag}{x qual:Str}{st:Stmt}{f:Addr}{fd:FuncData}{p0 p1 p2:Str}(F:Fun K x qual st f fd)(h:∀(kV doc pm:Value)(an:Option Addr)(cdv ct u0 u1 u2:Value),bindArgs (PySem.W.fnOf x qual (vE st) (va st) (zA st) .none kV doc pm an cdv ct) ⟨[u0,u1,u2],[]⟩=pure ([p0,p1,p2].zip [u0,u1,u2])):Binds K fd [p0,p1,p2] [] :=
 F.binds λkV doc pm an cdv ct us hl=>by
 obtain⟨u0,u1,u2,rfl⟩:=us3 hl
 exact h ..
theorem us4{us:List Value}(h:us.length=4):∃u0 u1 u2 u3,us=[u0,u1,u2,u3]:=match us,h with|[u0,u1,u2,u3],_=>⟨u0,u1,u2,u3,rfl⟩
theorem bn4{K:PySem.W.Frag}{x qual:Str}{st:Stmt}{f:Addr}{fd:FuncData}{p0 p1 p2 p3:Str}(F:Fun K x qual st f fd)(h:∀(kV doc pm:Value)(an:Option Addr)(cdv ct u0 u1 u2 u3:Value),bindArgs (PySem.W.fnOf x qual (vE st) (va st) (zA st) .none kV doc pm an cdv ct) ⟨[u0,u1,u2,u3],[]⟩=pure ([p0,p1,p2,p3].zip [u0,u1,u2,u3])):Binds K fd [p0,p1,p2,p3] [] :=
 F.binds λkV doc pm an cdv ct us hl=>by
 obtain⟨u0,u1,u2,u3,rfl⟩:=us4 hl
 exact h ..
def top(i:Nat):Stmt:=PySem.Challenge.pw_pointgroupsdesk_s01_answers.main.body.getD i (.Pass ⟨0,0,0,0⟩)
abbrev Z2:Stmt:=top 1
theorem WK:zK ["points"] ["points"] (zA Z2):=zN (by decide +kernel)
abbrev Z7:Stmt:=top 2
theorem WS:zK ["row","points"] ["row","points"] (zA Z7):=zN (by decide +kernel)
abbrev qL:Stmt:=top 3
theorem WG:zK ["p","q","x"] ["p","q"] (zA qL):=zN (by decide +kernel)
abbrev Ya:Stmt:=top 4
theorem WW:zK ["row","back","i","x"] ["row"] (zA Ya):=zN (by decide +kernel)
abbrev Z9:Stmt:=top 5
theorem WV:zK ["row","cycles","seen","start","x"] ["row"] (zA Z9):=zN (by decide +kernel)
abbrev YB:Stmt:=xI (top 7) 0
theorem Vu:zK ["self","point","none"] ["self","point","none"] (zA YB):=zN (by decide +kernel)
abbrev YC:Stmt:=xI (top 7) 1
theorem Vw:zK ["self","kept","below","x"] ["self","kept","below"] (zA YC):=zN (by decide +kernel)
abbrev Yv:Stmt:=xI (top 7) 2
theorem Vn:zK ["self","row"] ["self","row"] (zA Yv):=zN (by decide +kernel)
abbrev Yy:Stmt:=xI (top 7) 3
theorem Vq:zK ["self","row"] ["self","row"] (zA Yy):=zN (by decide +kernel)
abbrev qW:Stmt:=xI (top 7) 4
theorem Vt:zK ["self","row","i","x","one","other","k"] ["self","row"] (zA qW):=zN (by decide +kernel)
abbrev Yx:Stmt:=xI (top 7) 5
theorem Vp:zK ["self","k","x","maker"] ["self"] (zA Yx):=zN (by decide +kernel)
abbrev YA:Stmt:=xI (top 7) 6
theorem Vs:zK ["self","row","x"] ["self","row"] (zA YA):=zN (by decide +kernel)
abbrev Yu:Stmt:=xI (top 7) 7
theorem Vm:zK ["self","k","x"] ["self"] (zA Yu):=zN (by decide +kernel)
abbrev Yw:Stmt:=xI (top 7) 8
theorem Vo:zK ["self"] ["self"] (zA Yw):=zN (by decide +kernel)
abbrev Yz:Stmt:=xI (top 7) 9
theorem Vr:zK ["self","most","met","k"] ["self"] (zA Yz):=zN (by decide +kernel)
abbrev qO:Stmt:=top 8
theorem WL:zK ["points","none","i"] ["points"] (zA qO):=zN (by decide +kernel)
abbrev Z4:Stmt:=top 9
theorem WO:zK ["outs","levels","i"] ["outs"] (zA Z4):=zN (by decide +kernel)
abbrev Yd:Stmt:=top 10
theorem W1:zK ["levels","start","count","level"] ["levels","start"] (zA Yd):=zN (by decide +kernel)
abbrev Z8:Stmt:=top 11
theorem WT:zK ["levels","start","row","level","x"] ["levels","start","row"] (zA Z8):=zN (by decide +kernel)
abbrev Z3:Stmt:=top 12
theorem WN:zK ["levels"] ["levels"] (zA Z3):=zN (by decide +kernel)
abbrev qN:Stmt:=top 13
theorem WJ:zK ["levels","point","kin","x"] ["levels","point"] (zA qN):=zN (by decide +kernel)
abbrev Yc:Stmt:=top 14
theorem WZ:zK ["levels","row","i","rest"] ["levels","row"] (zA Yc):=zN (by decide +kernel)
abbrev Yb:Stmt:=top 15
theorem WX:zK ["levels","i","level","product","rest"] ["levels","i"] (zA Yb):=zN (by decide +kernel)
abbrev jj:Stmt:=xI (top 17) 0
theorem Vl:zK ["self","levels","level"] ["self","levels"] (zA jj):=zN (by decide +kernel)
abbrev Yt:Stmt:=xI (top 17) 1
theorem Vk:zK ["self","point","k"] ["self","point","k"] (zA Yt):=zN (by decide +kernel)
abbrev Ys:Stmt:=xI (top 17) 2
theorem Vj:zK ["self","k","upper_point","lower_point","high","low","below"] ["self","k"] (zA Ys):=zN (by decide +kernel)
abbrev Z6:Stmt:=top 18
theorem WQ:zK ["high","low","lower_point","found","x","y"] ["high","low","lower_point"] (zA Z6):=zN (by decide +kernel)
abbrev Z1:Stmt:=top 19
theorem WH:zK ["high","low","places","found","x","y"] ["high","low","places"] (zA Z1):=zN (by decide +kernel)
abbrev Z5:Stmt:=top 21
theorem WP:zK ["levels","point","chain","outs"] ["levels","point"] (zA Z5):=zN (by decide +kernel)
abbrev qS:Stmt:=top 23
theorem WY:zK ["levels","row","chain","chosen","k","out","least","y"] ["levels","row"] (zA qS):=zN (by decide +kernel)
abbrev qR:Stmt:=top 25
theorem WU:zK ["levels","others","maker"] ["levels","others"] (zA qR):=zN (by decide +kernel)
abbrev qQ:Stmt:=top 26
theorem WR:zK ["levels","others","found","maker","level"] ["levels","others"] (zA qQ):=zN (by decide +kernel)
abbrev qP:Stmt:=top 28
theorem WM:zK ["levels","place","chosen","each","level","numbers","y"] ["levels","place"] (zA qP):=zN (by decide +kernel)
abbrev qM:Stmt:=top 29
theorem WI:zK ["levels","row","chosen","each","place","level","number","y"] ["levels","row"] (zA qM):=zN (by decide +kernel)
abbrev Z0:Stmt:=top 39
theorem WF:zK ["number"] ["number"] (zA Z0):=zN (by decide +kernel)
abbrev qT:Stmt:=top 40
theorem W2:zK ["numbers","points","x"] ["numbers","points"] (zA qT):=zN (by decide +kernel)
abbrev ZZ:Stmt:=top 41
theorem WE:zK ["truth"] ["truth"] (zA ZZ):=zN (by decide +kernel)
abbrev Yj:Stmt:=top 42
theorem W8:zK ["held","numbers","points"] ["held","numbers"] (zA Yj):=zN (by decide +kernel)
abbrev Yn:Stmt:=top 43
theorem Vc:zK ["held","numbers","levels","point"] ["held","numbers"] (zA Yn):=zN (by decide +kernel)
abbrev Yl:Stmt:=top 44
theorem Va:zK ["held","numbers","levels","others"] ["held","numbers"] (zA Yl):=zN (by decide +kernel)
abbrev Yk:Stmt:=top 45
theorem W9:zK ["held","numbers","levels","others"] ["held","numbers"] (zA Yk):=zN (by decide +kernel)
abbrev Yq:Stmt:=top 46
theorem Vh:zK ["levels","numbers","row"] ["levels","numbers","row"] (zA Yq):=zN (by decide +kernel)
abbrev Yh:Stmt:=top 47
theorem W6:zK ["levels","numbers","row"] ["levels","numbers","row"] (zA Yh):=zN (by decide +kernel)
abbrev Ym:Stmt:=top 48
theorem Vb:zK ["levels","numbers","row"] ["levels","numbers","row"] (zA Ym):=zN (by decide +kernel)
abbrev Yp:Stmt:=top 49
theorem Vg:zK ["levels","numbers","row","place"] ["levels","numbers","row"] (zA Yp):=zN (by decide +kernel)
abbrev Yg:Stmt:=top 50
theorem W5:zK ["levels","numbers","row"] ["levels","numbers","row"] (zA Yg):=zN (by decide +kernel)
abbrev Yo:Stmt:=top 51
theorem Vd:zK ["levels","numbers","row"] ["levels","numbers","row"] (zA Yo):=zN (by decide +kernel)
abbrev Yi:Stmt:=top 52
theorem W7:zK ["levels","numbers","row","orbit"] ["levels","numbers","row"] (zA Yi):=zN (by decide +kernel)
abbrev Yf:Stmt:=top 53
theorem W4:zK ["levels","numbers","row","orbit","ways"] ["levels","numbers","row"] (zA Yf):=zN (by decide +kernel)
abbrev qV:Stmt:=top 54
theorem Vf:zK ["levels","numbers","row","maker"] ["levels","numbers","row"] (zA qV):=zN (by decide +kernel)
abbrev qU:Stmt:=top 55
theorem Ve:zK ["levels","numbers","row","maker"] ["levels","numbers","row"] (zA qU):=zN (by decide +kernel)
abbrev Yr:Stmt:=top 58
theorem Vi:zK ["held","call","numbers","row","levels","answer_one","answer_held"] ["held","call","numbers","row"] (zA Yr):=zN (by decide +kernel)
abbrev Ye:Stmt:=top 59
theorem W3:zK ["calls","held","found","place","call","end","numbers","row","answered","start"] ["calls"] (zA Ye):=zN (by decide +kernel)
set_option genInjectivity false in
set_option genSizeOf false in
structure Ad where
 C_Level:Addr
 C_MovableChain:Addr
 a_none_row:Addr
 f_none_row:FuncData
 a_is_permutation:Addr
 f_is_permutation:FuncData
 a_then:Addr
 f_then:FuncData
 a_inverse:Addr
 f_inverse:FuncData
 a_is_even:Addr
 f_is_even:FuncData
 a_Level_init:Addr
 f_Level_init:FuncData
 a_Level_fill:Addr
 f_Level_fill:FuncData
 a_Level_take_maker:Addr
 f_Level_take_maker:FuncData
 a_Level_note_maker:Addr
 f_Level_note_maker:FuncData
 a_Level_join_kin:Addr
 f_Level_join_kin:FuncData
 a_Level_reach:Addr
 f_Level_reach:FuncData
 a_Level_keep:Addr
 f_Level_keep:FuncData
 a_Level_untried:Addr
 f_Level_untried:FuncData
 a_Level_skip_untried:Addr
 f_Level_skip_untried:FuncData
 a_Level_most_members:Addr
 f_Level_most_members:FuncData
 a_new_levels:Addr
 f_new_levels:FuncData
 a_levels_of:Addr
 f_levels_of:FuncData
 a_count_members:Addr
 f_count_members:FuncData
 a_is_member:Addr
 f_is_member:FuncData
 a_makers_of:Addr
 f_makers_of:FuncData
 a_orbit_of:Addr
 f_orbit_of:FuncData
 a_extend:Addr
 f_extend:FuncData
 a_first_stranger:Addr
 f_first_stranger:FuncData
 a_MovableChain_init:Addr
 f_MovableChain_init:FuncData
 a_MovableChain_move_up:Addr
 f_MovableChain_move_up:FuncData
 a_MovableChain_swap:Addr
 f_MovableChain_swap:FuncData
 a_leaving_lower:Addr
 f_leaving_lower:FuncData
 a_taking_lower:Addr
 f_taking_lower:FuncData
 a_levels_leaving:Addr
 f_levels_leaving:FuncData
 a_first_after:Addr
 f_first_after:FuncData
 a_is_inside:Addr
 f_is_inside:FuncData
 a_joined:Addr
 f_joined:FuncData
 a_member_at:Addr
 f_member_at:FuncData
 a_place_of:Addr
 f_place_of:FuncData
 a_two_words:Addr
 f_two_words:FuncData
 a_are_points:Addr
 f_are_points:FuncData
 a_yes_or_no:Addr
 f_yes_or_no:FuncData
 a_answer_new:Addr
 f_answer_new:FuncData
 a_answer_fix:Addr
 f_answer_fix:FuncData
 a_answer_inside:Addr
 f_answer_inside:FuncData
 a_answer_join:Addr
 f_answer_join:FuncData
 a_answer_add:Addr
 f_answer_add:FuncData
 a_answer_order:Addr
 f_answer_order:FuncData
 a_answer_has:Addr
 f_answer_has:FuncData
 a_answer_at:Addr
 f_answer_at:FuncData
 a_answer_rank:Addr
 f_answer_rank:FuncData
 a_answer_first:Addr
 f_answer_first:FuncData
 a_answer_orbit:Addr
 f_answer_orbit:FuncData
 a_answer_ways:Addr
 f_answer_ways:FuncData
 a_answer_commutes:Addr
 f_answer_commutes:FuncData
 a_answer_even:Addr
 f_answer_even:FuncData
 a_answer:Addr
 f_answer:FuncData
 a_answers:Addr
 f_answers:FuncData
 t_MOST_POINTS:Tok
 t_WORD:Tok
 t_OUT_OF_RANGE:Tok
 t_NOT_THERE:Tok
 t_NOT_AS_MANY_POINTS:Tok
 o_NUMBERS_OF:Addr
 o_WITH_ROW:Addr
 o_WITH_POINTS:Addr
 o_ANSWERS_OF_HELD:Addr
 o_ANSWERS_OF_ONE:Addr
structure Txt(K:PySem.W.Frag)(mg:Str->Option Value)(d:Ad):Prop where
 c_Level:Cls K d.C_Level
 m_Level:mg "Level"=some (.ref d.C_Level)
 k_Level:Mk K d.C_Level d.a_Level_init
 n_Level_point:yw K d.C_Level "point"
 n_Level_reached:yw K d.C_Level "reached"
 n_Level_out:yw K d.C_Level "out"
 n_Level_back:yw K d.C_Level "back"
 n_Level_makers:yw K d.C_Level "makers"
 n_Level_done:yw K d.C_Level "done"
 n_Level_kin:yw K d.C_Level "kin"
 n_Level_all_even:yw K d.C_Level "all_even"
 c_MovableChain:Cls K d.C_MovableChain
 m_MovableChain:mg "MovableChain"=some (.ref d.C_MovableChain)
 k_MovableChain:Mk K d.C_MovableChain d.a_MovableChain_init
 n_MovableChain_base:yw K d.C_MovableChain "base"
 n_MovableChain_outs:yw K d.C_MovableChain "outs"
 F_none_row:Fun K "none_row" "none_row" Z2 d.a_none_row d.f_none_row
 m_none_row:mg "none_row"=some (.ref d.a_none_row)
 F_is_permutation:Fun K "is_permutation" "is_permutation" Z7 d.a_is_permutation d.f_is_permutation
 m_is_permutation:mg "is_permutation"=some (.ref d.a_is_permutation)
 F_then:Fun K "then" "then" qL d.a_then d.f_then
 m_then:mg "then"=some (.ref d.a_then)
 F_inverse:Fun K "inverse" "inverse" Ya d.a_inverse d.f_inverse
 m_inverse:mg "inverse"=some (.ref d.a_inverse)
 F_is_even:Fun K "is_even" "is_even" Z9 d.a_is_even d.f_is_even
 m_is_even:mg "is_even"=some (.ref d.a_is_even)
 F_Level_init:Fun K "__init__" "Level.__init__" YB d.a_Level_init d.f_Level_init
 F_Level_fill:Fun K "fill" "Level.fill" YC d.a_Level_fill d.f_Level_fill
 me_Level_fill:Meth K d.C_Level "fill" d.a_Level_fill
 F_Level_take_maker:Fun K "take_maker" "Level.take_maker" Yv d.a_Level_take_maker d.f_Level_take_maker
 me_Level_take_maker:Meth K d.C_Level "take_maker" d.a_Level_take_maker
 F_Level_note_maker:Fun K "note_maker" "Level.note_maker" Yy d.a_Level_note_maker d.f_Level_note_maker
 me_Level_note_maker:Meth K d.C_Level "note_maker" d.a_Level_note_maker
 F_Level_join_kin:Fun K "join_kin" "Level.join_kin" qW d.a_Level_join_kin d.f_Level_join_kin
 me_Level_join_kin:Meth K d.C_Level "join_kin" d.a_Level_join_kin
 F_Level_reach:Fun K "reach" "Level.reach" Yx d.a_Level_reach d.f_Level_reach
 me_Level_reach:Meth K d.C_Level "reach" d.a_Level_reach
 F_Level_keep:Fun K "keep" "Level.keep" YA d.a_Level_keep d.f_Level_keep
 me_Level_keep:Meth K d.C_Level "keep" d.a_Level_keep
 F_Level_untried:Fun K "untried" "Level.untried" Yu d.a_Level_untried d.f_Level_untried
 me_Level_untried:Meth K d.C_Level "untried" d.a_Level_untried
 F_Level_skip_untried:Fun K "skip_untried" "Level.skip_untried" Yw d.a_Level_skip_untried d.f_Level_skip_untried
 me_Level_skip_untried:Meth K d.C_Level "skip_untried" d.a_Level_skip_untried
 F_Level_most_members:Fun K "most_members" "Level.most_members" Yz d.a_Level_most_members d.f_Level_most_members
 me_Level_most_members:Meth K d.C_Level "most_members" d.a_Level_most_members
 F_new_levels:Fun K "new_levels" "new_levels" qO d.a_new_levels d.f_new_levels
 m_new_levels:mg "new_levels"=some (.ref d.a_new_levels)
 F_levels_of:Fun K "levels_of" "levels_of" Z4 d.a_levels_of d.f_levels_of
 m_levels_of:mg "levels_of"=some (.ref d.a_levels_of)
 F_count_members:Fun K "count_members" "count_members" Yd d.a_count_members d.f_count_members
 m_count_members:mg "count_members"=some (.ref d.a_count_members)
 F_is_member:Fun K "is_member" "is_member" Z8 d.a_is_member d.f_is_member
 m_is_member:mg "is_member"=some (.ref d.a_is_member)
 F_makers_of:Fun K "makers_of" "makers_of" Z3 d.a_makers_of d.f_makers_of
 m_makers_of:mg "makers_of"=some (.ref d.a_makers_of)
 F_orbit_of:Fun K "orbit_of" "orbit_of" qN d.a_orbit_of d.f_orbit_of
 m_orbit_of:mg "orbit_of"=some (.ref d.a_orbit_of)
 F_extend:Fun K "extend" "extend" Yc d.a_extend d.f_extend
 m_extend:mg "extend"=some (.ref d.a_extend)
 F_first_stranger:Fun K "first_stranger" "first_stranger" Yb d.a_first_stranger d.f_first_stranger
 m_first_stranger:mg "first_stranger"=some (.ref d.a_first_stranger)
 F_MovableChain_init:Fun K "__init__" "MovableChain.__init__" jj d.a_MovableChain_init d.f_MovableChain_init
 F_MovableChain_move_up:Fun K "move_up" "MovableChain.move_up" Yt d.a_MovableChain_move_up d.f_MovableChain_move_up
 me_MovableChain_move_up:Meth K d.C_MovableChain "move_up" d.a_MovableChain_move_up
 F_MovableChain_swap:Fun K "swap" "MovableChain.swap" Ys d.a_MovableChain_swap d.f_MovableChain_swap
 me_MovableChain_swap:Meth K d.C_MovableChain "swap" d.a_MovableChain_swap
 F_leaving_lower:Fun K "leaving_lower" "leaving_lower" Z6 d.a_leaving_lower d.f_leaving_lower
 m_leaving_lower:mg "leaving_lower"=some (.ref d.a_leaving_lower)
 F_taking_lower:Fun K "taking_lower" "taking_lower" Z1 d.a_taking_lower d.f_taking_lower
 m_taking_lower:mg "taking_lower"=some (.ref d.a_taking_lower)
 F_levels_leaving:Fun K "levels_leaving" "levels_leaving" Z5 d.a_levels_leaving d.f_levels_leaving
 m_levels_leaving:mg "levels_leaving"=some (.ref d.a_levels_leaving)
 F_first_after:Fun K "first_after" "first_after" qS d.a_first_after d.f_first_after
 m_first_after:mg "first_after"=some (.ref d.a_first_after)
 F_is_inside:Fun K "is_inside" "is_inside" qR d.a_is_inside d.f_is_inside
 m_is_inside:mg "is_inside"=some (.ref d.a_is_inside)
 F_joined:Fun K "joined" "joined" qQ d.a_joined d.f_joined
 m_joined:mg "joined"=some (.ref d.a_joined)
 F_member_at:Fun K "member_at" "member_at" qP d.a_member_at d.f_member_at
 m_member_at:mg "member_at"=some (.ref d.a_member_at)
 F_place_of:Fun K "place_of" "place_of" qM d.a_place_of d.f_place_of
 m_place_of:mg "place_of"=some (.ref d.a_place_of)
 F_two_words:Fun K "two_words" "two_words" Z0 d.a_two_words d.f_two_words
 m_two_words:mg "two_words"=some (.ref d.a_two_words)
 F_are_points:Fun K "are_points" "are_points" qT d.a_are_points d.f_are_points
 m_are_points:mg "are_points"=some (.ref d.a_are_points)
 F_yes_or_no:Fun K "yes_or_no" "yes_or_no" ZZ d.a_yes_or_no d.f_yes_or_no
 m_yes_or_no:mg "yes_or_no"=some (.ref d.a_yes_or_no)
 F_answer_new:Fun K "answer_new" "answer_new" Yj d.a_answer_new d.f_answer_new
 m_answer_new:mg "answer_new"=some (.ref d.a_answer_new)
 F_answer_fix:Fun K "answer_fix" "answer_fix" Yn d.a_answer_fix d.f_answer_fix
 m_answer_fix:mg "answer_fix"=some (.ref d.a_answer_fix)
 F_answer_inside:Fun K "answer_inside" "answer_inside" Yl d.a_answer_inside d.f_answer_inside
 m_answer_inside:mg "answer_inside"=some (.ref d.a_answer_inside)
 F_answer_join:Fun K "answer_join" "answer_join" Yk d.a_answer_join d.f_answer_join
 m_answer_join:mg "answer_join"=some (.ref d.a_answer_join)
 F_answer_add:Fun K "answer_add" "answer_add" Yq d.a_answer_add d.f_answer_add
 m_answer_add:mg "answer_add"=some (.ref d.a_answer_add)
 F_answer_order:Fun K "answer_order" "answer_order" Yh d.a_answer_order d.f_answer_order
 m_answer_order:mg "answer_order"=some (.ref d.a_answer_order)
 F_answer_has:Fun K "answer_has" "answer_has" Ym d.a_answer_has d.f_answer_has
 m_answer_has:mg "answer_has"=some (.ref d.a_answer_has)
 F_answer_at:Fun K "answer_at" "answer_at" Yp d.a_answer_at d.f_answer_at
 m_answer_at:mg "answer_at"=some (.ref d.a_answer_at)
 F_answer_rank:Fun K "answer_rank" "answer_rank" Yg d.a_answer_rank d.f_answer_rank
 m_answer_rank:mg "answer_rank"=some (.ref d.a_answer_rank)
 F_answer_first:Fun K "answer_first" "answer_first" Yo d.a_answer_first d.f_answer_first
 m_answer_first:mg "answer_first"=some (.ref d.a_answer_first)
 F_answer_orbit:Fun K "answer_orbit" "answer_orbit" Yi d.a_answer_orbit d.f_answer_orbit
 m_answer_orbit:mg "answer_orbit"=some (.ref d.a_answer_orbit)
 F_answer_ways:Fun K "answer_ways" "answer_ways" Yf d.a_answer_ways d.f_answer_ways
 m_answer_ways:mg "answer_ways"=some (.ref d.a_answer_ways)
 F_answer_commutes:Fun K "answer_commutes" "answer_commutes" qV d.a_answer_commutes d.f_answer_commutes
 m_answer_commutes:mg "answer_commutes"=some (.ref d.a_answer_commutes)
 F_answer_even:Fun K "answer_even" "answer_even" qU d.a_answer_even d.f_answer_even
 m_answer_even:mg "answer_even"=some (.ref d.a_answer_even)
 F_answer:Fun K "answer" "answer" Yr d.a_answer d.f_answer
 m_answer:mg "answer"=some (.ref d.a_answer)
 F_answers:Fun K "answers" "answers" Ye d.a_answers d.f_answers
 m_answers:mg "answers"=some (.ref d.a_answers)
 m_MOST_POINTS:mg "MOST_POINTS"=some (.int (34) d.t_MOST_POINTS)
 m_WORD:mg "WORD"=some (.int (18446744073709551616) d.t_WORD)
 m_OUT_OF_RANGE:mg "OUT_OF_RANGE"=some (.int (-2) d.t_OUT_OF_RANGE)
 m_NOT_THERE:mg "NOT_THERE"=some (.int (-1) d.t_NOT_THERE)
 m_NOT_AS_MANY_POINTS:mg "NOT_AS_MANY_POINTS"=some (.int (-1) d.t_NOT_AS_MANY_POINTS)
 m_NUMBERS_OF:mg "NUMBERS_OF"=some (.ref d.o_NUMBERS_OF)
 m_WITH_ROW:mg "WITH_ROW"=some (.ref d.o_WITH_ROW)
 m_WITH_POINTS:mg "WITH_POINTS"=some (.ref d.o_WITH_POINTS)
 m_ANSWERS_OF_HELD:mg "ANSWERS_OF_HELD"=some (.ref d.o_ANSWERS_OF_HELD)
 m_ANSWERS_OF_ONE:mg "ANSWERS_OF_ONE"=some (.ref d.o_ANSWERS_OF_ONE)
 n_all:mg "all"=none
 n_dict:mg "dict"=none
 n_enumerate:mg "enumerate"=none
 n_len:mg "len"=none
 n_list:mg "list"=none
 n_min:mg "min"=none
 n_range:mg "range"=none
 n_sorted:mg "sorted"=none
section
variable{K:PySem.W.Frag}{mg:Str->Option Value}{d:Ad}
theorem jQ(T:Txt K mg d):Binds K d.f_none_row ["points"] []:=bn1 T.F_none_row λ_ _ _ _ _ _ _=>rfl
theorem zfz(T:Txt K mg d):Binds K d.f_is_permutation ["row","points"] []:=bn2 T.F_is_permutation λ_ _ _ _ _ _ _ _=>rfl
theorem xK(T:Txt K mg d):Binds K d.f_then ["p","q"] []:=bn2 T.F_then λ_ _ _ _ _ _ _ _=>rfl
theorem QR(T:Txt K mg d):Binds K d.f_inverse ["row"] []:=bn1 T.F_inverse λ_ _ _ _ _ _ _=>rfl
theorem QQ(T:Txt K mg d):Binds K d.f_is_even ["row"] []:=bn1 T.F_is_even λ_ _ _ _ _ _ _=>rfl
theorem zfW(T:Txt K mg d):Binds K d.f_Level_init ["self","point","none"] []:=bn3 T.F_Level_init λ_ _ _ _ _ _ _ _ _=>rfl
theorem zfX(T:Txt K mg d):Binds K d.f_Level_fill ["self","kept","below"] []:=bn3 T.F_Level_fill λ_ _ _ _ _ _ _ _ _=>rfl
theorem QW(T:Txt K mg d):Binds K d.f_Level_take_maker ["self","row"] []:=bn2 T.F_Level_take_maker λ_ _ _ _ _ _ _ _=>rfl
theorem QY(T:Txt K mg d):Binds K d.f_Level_note_maker ["self","row"] []:=bn2 T.F_Level_note_maker λ_ _ _ _ _ _ _ _=>rfl
theorem zfV(T:Txt K mg d):Binds K d.f_Level_join_kin ["self","row"] []:=bn2 T.F_Level_join_kin λ_ _ _ _ _ _ _ _=>rfl
theorem zfT(T:Txt K mg d):Binds K d.f_Level_reach ["self"] []:=bn1 T.F_Level_reach λ_ _ _ _ _ _ _=>rfl
theorem QZ(T:Txt K mg d):Binds K d.f_Level_keep ["self","row"] []:=bn2 T.F_Level_keep λ_ _ _ _ _ _ _ _=>rfl
theorem QV(T:Txt K mg d):Binds K d.f_Level_untried ["self"] []:=bn1 T.F_Level_untried λ_ _ _ _ _ _ _=>rfl
theorem QX(T:Txt K mg d):Binds K d.f_Level_skip_untried ["self"] []:=bn1 T.F_Level_skip_untried λ_ _ _ _ _ _ _=>rfl
theorem zfU(T:Txt K mg d):Binds K d.f_Level_most_members ["self"] []:=bn1 T.F_Level_most_members λ_ _ _ _ _ _ _=>rfl
theorem QM(T:Txt K mg d):Binds K d.f_new_levels ["points"] []:=bn1 T.F_new_levels λ_ _ _ _ _ _ _=>rfl
theorem QN(T:Txt K mg d):Binds K d.f_levels_of ["outs"] []:=bn1 T.F_levels_of λ_ _ _ _ _ _ _=>rfl
theorem vF(T:Txt K mg d):Binds K d.f_count_members ["levels","start"] []:=bn2 T.F_count_members λ_ _ _ _ _ _ _ _=>rfl
theorem uS(T:Txt K mg d):Binds K d.f_is_member ["levels","start","row"] []:=bn3 T.F_is_member λ_ _ _ _ _ _ _ _ _=>rfl
theorem Zk(T:Txt K mg d):Binds K d.f_makers_of ["levels"] []:=bn1 T.F_makers_of λ_ _ _ _ _ _ _=>rfl
theorem X1(T:Txt K mg d):Binds K d.f_orbit_of ["levels","point"] []:=bn2 T.F_orbit_of λ_ _ _ _ _ _ _ _=>rfl
theorem QS(T:Txt K mg d):Binds K d.f_extend ["levels","row"] []:=bn2 T.F_extend λ_ _ _ _ _ _ _ _=>rfl
theorem zfA(T:Txt K mg d):Binds K d.f_first_stranger ["levels","i"] []:=bn2 T.F_first_stranger λ_ _ _ _ _ _ _ _=>rfl
theorem QU(T:Txt K mg d):Binds K d.f_MovableChain_init ["self","levels"] []:=bn2 T.F_MovableChain_init λ_ _ _ _ _ _ _ _=>rfl
theorem QT(T:Txt K mg d):Binds K d.f_MovableChain_move_up ["self","point","k"] []:=bn3 T.F_MovableChain_move_up λ_ _ _ _ _ _ _ _ _=>rfl
theorem zfS(T:Txt K mg d):Binds K d.f_MovableChain_swap ["self","k"] []:=bn2 T.F_MovableChain_swap λ_ _ _ _ _ _ _ _=>rfl
theorem zfy(T:Txt K mg d):Binds K d.f_leaving_lower ["high","low","lower_point"] []:=bn3 T.F_leaving_lower λ_ _ _ _ _ _ _ _ _=>rfl
theorem zfu(T:Txt K mg d):Binds K d.f_taking_lower ["high","low","places"] []:=bn3 T.F_taking_lower λ_ _ _ _ _ _ _ _ _=>rfl
theorem zfx(T:Txt K mg d):Binds K d.f_levels_leaving ["levels","point"] []:=bn2 T.F_levels_leaving λ_ _ _ _ _ _ _ _=>rfl
theorem zfB(T:Txt K mg d):Binds K d.f_first_after ["levels","row"] []:=bn2 T.F_first_after λ_ _ _ _ _ _ _ _=>rfl
theorem QP(T:Txt K mg d):Binds K d.f_is_inside ["levels","others"] []:=bn2 T.F_is_inside λ_ _ _ _ _ _ _ _=>rfl
theorem QO(T:Txt K mg d):Binds K d.f_joined ["levels","others"] []:=bn2 T.F_joined λ_ _ _ _ _ _ _ _=>rfl
theorem zfw(T:Txt K mg d):Binds K d.f_member_at ["levels","place"] []:=bn2 T.F_member_at λ_ _ _ _ _ _ _ _=>rfl
theorem zfv(T:Txt K mg d):Binds K d.f_place_of ["levels","row"] []:=bn2 T.F_place_of λ_ _ _ _ _ _ _ _=>rfl
theorem X0(T:Txt K mg d):Binds K d.f_two_words ["number"] []:=bn1 T.F_two_words λ_ _ _ _ _ _ _=>rfl
theorem zfC(T:Txt K mg d):Binds K d.f_are_points ["numbers","points"] []:=bn2 T.F_are_points λ_ _ _ _ _ _ _ _=>rfl
theorem Zj(T:Txt K mg d):Binds K d.f_yes_or_no ["truth"] []:=bn1 T.F_yes_or_no λ_ _ _ _ _ _ _=>rfl
theorem zfH(T:Txt K mg d):Binds K d.f_answer_new ["held","numbers"] []:=bn2 T.F_answer_new λ_ _ _ _ _ _ _ _=>rfl
theorem zfL(T:Txt K mg d):Binds K d.f_answer_fix ["held","numbers"] []:=bn2 T.F_answer_fix λ_ _ _ _ _ _ _ _=>rfl
theorem zfJ(T:Txt K mg d):Binds K d.f_answer_inside ["held","numbers"] []:=bn2 T.F_answer_inside λ_ _ _ _ _ _ _ _=>rfl
theorem zfI(T:Txt K mg d):Binds K d.f_answer_join ["held","numbers"] []:=bn2 T.F_answer_join λ_ _ _ _ _ _ _ _=>rfl
theorem zfQ(T:Txt K mg d):Binds K d.f_answer_add ["levels","numbers","row"] []:=bn3 T.F_answer_add λ_ _ _ _ _ _ _ _ _=>rfl
theorem zfF(T:Txt K mg d):Binds K d.f_answer_order ["levels","numbers","row"] []:=bn3 T.F_answer_order λ_ _ _ _ _ _ _ _ _=>rfl
theorem zfK(T:Txt K mg d):Binds K d.f_answer_has ["levels","numbers","row"] []:=bn3 T.F_answer_has λ_ _ _ _ _ _ _ _ _=>rfl
theorem zfP(T:Txt K mg d):Binds K d.f_answer_at ["levels","numbers","row"] []:=bn3 T.F_answer_at λ_ _ _ _ _ _ _ _ _=>rfl
theorem zfE(T:Txt K mg d):Binds K d.f_answer_rank ["levels","numbers","row"] []:=bn3 T.F_answer_rank λ_ _ _ _ _ _ _ _ _=>rfl
theorem zfM(T:Txt K mg d):Binds K d.f_answer_first ["levels","numbers","row"] []:=bn3 T.F_answer_first λ_ _ _ _ _ _ _ _ _=>rfl
theorem zfG(T:Txt K mg d):Binds K d.f_answer_orbit ["levels","numbers","row"] []:=bn3 T.F_answer_orbit λ_ _ _ _ _ _ _ _ _=>rfl
theorem zfD(T:Txt K mg d):Binds K d.f_answer_ways ["levels","numbers","row"] []:=bn3 T.F_answer_ways λ_ _ _ _ _ _ _ _ _=>rfl
theorem zfO(T:Txt K mg d):Binds K d.f_answer_commutes ["levels","numbers","row"] []:=bn3 T.F_answer_commutes λ_ _ _ _ _ _ _ _ _=>rfl
theorem zfN(T:Txt K mg d):Binds K d.f_answer_even ["levels","numbers","row"] []:=bn3 T.F_answer_even λ_ _ _ _ _ _ _ _ _=>rfl
theorem zfR(T:Txt K mg d):Binds K d.f_answer ["held","call","numbers","row"] []:=bn4 T.F_answer λ_ _ _ _ _ _ _ _ _ _=>rfl
theorem zgj(T:Txt K mg d):Binds K d.f_answers ["calls"] []:=bn1 T.F_answers λ_ _ _ _ _ _ _=>rfl
end
end Gd
end
section
set_option Elab.async false
set_option autoImplicit false
set_option linter.all false
set_option maxRecDepth 100000
set_option maxHeartbeats 2000000
namespace Gd
open PySem PyProof.Rows L2 GP
open Md07 (Row then_ none_ at_)
theorem _root_.L2.same_upd{H:Hp}{a:Addr}{o:HO}(h:H a=none):Same H (upd H a o):=λb u e=>by rw[zh (zw e h)];exact e
theorem _root_.L2.Same.upd{H H':Hp}{a:Addr}{o:HO}(s:Same H H')(h:H a=none):Same H (L2.upd H' a o):=λb u e=>by rw[zh (zw e h)];exact s b u e
theorem _root_.L2.upd_none{H:Hp}{a b:Addr}{o:HO}(h:upd H a o b=none):H b=none/\b≠a:=by
 by_cases q:b=a
 .rw[q,zj] at h;cases h
 .rw[zh q] at h;exact⟨h,q⟩
inductive Tag where
 |row
 |held
 |lvs (g:Addr)
 |part (g i k:Nat)
 deriving DecidableEq
def Tag.grp:Tag->Option Addr
 |.lvs g=>some g
 |.part g _ _=>some g
 |_=>none
abbrev Own:=Addr->Option Tag
def zS(w:Own)(H:Hp):Prop:=∀b t,w b=some t->(∃o,H b=some o)/\∀g,t.grp=some g->∃o,H g=some o
structure Kp(P:Tag->Prop)(w:Own)(H:Hp)(w':Own)(H':Hp):Prop where
 ow:∀b o,H b=some o->w' b=w b
 hp:∀b o,H b=some o->(∀t,w b=some t->¬P t)->H' b=some o
 th:∀b o,H b=some o->∃o',H' b=some o'
 ok:zS w' H'
abbrev P0:Tag->Prop:=λ_=>False
theorem Kp.refl{P:Tag->Prop}{w:Own}{H:Hp}(h:zS w H):Kp P w H w H:=⟨λ_ _ _=>rfl,λ_ _ e _=>e,λ_ o e=>⟨o,e⟩,h⟩
theorem Kp.trans{P:Tag->Prop}{w w1 w2:Own}{H H1 H2:Hp}(a:Kp P w H w1 H1)(b:Kp P w1 H1 w2 H2):Kp P w H w2 H2:=by
 refine⟨λc o e=>?_,λc o e n=>?_,λc o e=>?_,b.ok⟩
 .obtain⟨o',e'⟩:=a.th c o e
  rw[b.ow c o' e',a.ow c o e]
 .exact b.hp c o (a.hp c o e n) λt ht=>n t (by rw[<- a.ow c o e];exact ht)
 .obtain⟨o',e'⟩:=a.th c o e
  exact b.th c o' e'
theorem Kp.mono{P P':Tag->Prop}{w w':Own}{H H':Hp}(k:Kp P w H w' H')(h:∀t,P t->P' t):Kp P' w H w' H':=⟨k.ow,λb o e n=>k.hp b o e λt ht z=>n t ht (h t z),k.th,k.ok⟩
theorem Kp.mono0{P:Tag->Prop}{w w':Own}{H H':Hp}(k:Kp P0 w H w' H'):Kp P w H w' H':=k.mono λ_ z=>z.elim
theorem Kp.same0{w w':Own}{H H':Hp}(k:Kp P0 w H w' H'):Same H H':=λb o e=>k.hp b o e λ_ _ z=>z
theorem zS.same{w:Own}{H H':Hp}(h:zS w H)(s:Same H H'):zS w H':=λb t e=>⟨let ⟨o,q⟩:=(h b t e).1;⟨o,s b o q⟩,λg hg=>let ⟨o,q⟩:=(h b t e).2 g hg;⟨o,s g o q⟩⟩
theorem Kp.same{P:Tag->Prop}{w:Own}{H H':Hp}(h:zS w H)(s:Same H H'):Kp P w H w H':=⟨λ_ _ _=>rfl,λb o e _=>s b o e,λb o e=>⟨o,s b o e⟩,h.same s⟩
theorem Kp.lay{P:Tag->Prop}{w w':Own}{H H' H2:Hp}(k:Kp P w H w' H')(s:Same H' H2):Kp P w H w' H2:=k.trans (Kp.same k.ok s)
theorem Kp.free{P:Tag->Prop}{w w':Own}{H H':Hp}(k:Kp P w H w' H'){a:Addr}(h:H' a=none):H a=none:=by
 cases q:H a with
 |none=>rfl
 |some o=>obtain⟨o',e⟩:=k.th a o q;rw[h] at e;cases e
theorem zS.free{w:Own}{H:Hp}(k:zS w H){a:Addr}(h:H a=none):w a=none:=by
 cases q:w a with
 |none=>rfl
 |some t=>obtain⟨o,e⟩:=(k a t q).1;rw[h] at e;cases e
theorem zS.free'{w:Own}{H H':Hp}(_:zS w H'){a:Addr}(h:H a=none)(k:zS w H):w a=none:=k.free h
def own(w:Own)(a:Addr)(t:Tag):Own:=λb=>if b=a then some t else w b
theorem y4{w:Own}{a:Addr}{t:Tag}:own w a t a=some t:=by unfold own;rw[if_pos rfl]
theorem zcM{w:Own}{a b:Addr}{t u:Tag}(h:w b=some u)(n:w a=none):own w a t b=some u:=by
 unfold own
 rw[if_neg (λz=>by rw[z,n] at h;cases h)];exact h
theorem wW{w:Own}{a b:Addr}{t:Tag}(h:b≠a):own w a t b=w b:=by unfold own;rw[if_neg h]
theorem Kp.name{P:Tag->Prop}{w w':Own}{H H':Hp}{a:Addr}{t:Tag}{o:HO}(k:Kp P w H w' H')(hn:H a=none)(ha:H' a=some o)(hg:∀g,t.grp=some g->∃o,H' g=some o):Kp P w H (own w' a t) H':=by
 refine⟨λb u e=>?_,k.hp,k.th,λb u e=>?_⟩
 .rw[wW (zw e hn)];exact k.ow b u e
 .by_cases q:b=a
  .subst q;rw[y4] at e;cases e;exact⟨⟨o,ha⟩,hg⟩
  .rw[wW q] at e;exact k.ok b u e
open Classical in
noncomputable def owns (w:Own) (S:Addr->Prop) (t:Tag):Own:=λb=>if S b then some t else w b
open Classical in
theorem VT{w:Own}{S:Addr->Prop}{t:Tag}{b:Addr}(h:S b):owns w S t b=some t:=by unfold owns;rw[if_pos h]
open Classical in
theorem jr{w:Own}{S:Addr->Prop}{t:Tag}{b:Addr}(h:¬S b):owns w S t b=w b:=by unfold owns;rw[if_neg h]
theorem Kp.names{P:Tag->Prop}{w w':Own}{H H':Hp}{S:Addr->Prop}(k:Kp P w H w' H')(hn:∀b,S b->H b=none)(ha:∀b,S b->∃o,H' b=some o):Kp P w H (owns w' S .row) H':=by
 refine⟨λb u e=>?_,k.hp,k.th,λb u e=>?_⟩
 .rw[jr λz=>by rw[hn b z] at e;cases e];exact k.ow b u e
 .by_cases q:S b
  .rw[VT q] at e;cases e;exact⟨ha b q,λg z=>by cases z⟩
  .rw[jr q] at e;exact k.ok b u e
theorem yM{H:Hp}{a b:Addr}{o:HO}(h:∃o',H b=some o'):∃o',upd H a o b=some o':=by
 by_cases q:b=a
 .rw[q,zj];exact⟨o,rfl⟩
 .rw[zh q];exact h
theorem zS.upd{w:Own}{H:Hp}{a:Addr}{o:HO}(h:zS w H):zS w (L2.upd H a o):=λb t e=>⟨yM (h b t e).1,λg hg=>yM ((h b t e).2 g hg)⟩
theorem Kp.write{P:Tag->Prop}{w w':Own}{H H':Hp}{a:Addr}{t:Tag}{o:HO}(k:Kp P w H w' H')(ha:w' a=some t)(hp:P t):Kp P w H w' (upd H' a o):=by
 refine⟨k.ow,λb u e n=>?_,λb u e=>yM (k.th b u e),k.ok.upd⟩
 have:b≠a:=λz=>by
  subst z
  exact n t (by rw[<- k.ow b u e];exact ha) hp
 rw[zh this];exact k.hp b u e n
theorem Kp.writeNew{P:Tag->Prop}{w w':Own}{H H':Hp}{a:Addr}{o:HO}(k:Kp P w H w' H')(ha:H a=none):Kp P w H w' (upd H' a o):=by
 refine⟨k.ow,λb u e n=>?_,λb u e=>yM (k.th b u e),k.ok.upd⟩
 rw[zh (zw e ha)];exact k.hp b u e n
theorem Kp.hide{P:Tag->Prop}{w w1 w2:Own}{H H1 H2:Hp}(a:Kp P0 w H w1 H1)(b:Kp P w1 H1 w2 H2)(h:∀c t,w c=some t->¬P t):Kp P0 w H w2 H2:=by
 refine⟨λc o e=>?_,λc o e _=>?_,λc o e=>b.th c o (a.same0 c o e),b.ok⟩
 .rw[b.ow c o (a.same0 c o e),a.ow c o e]
 .exact b.hp c o (a.same0 c o e) λt ht=>h c t (by rw[<- a.ow c o e];exact ht)
theorem Kp.unlock{P:Tag->Prop}{w w':Own}{H H':Hp}{c:Addr}{u o:HO}(k:Kp P w (upd H c o) w' H')(hc:H c=some u):Kp P w H w' (upd H' c u):=by
 have lk:∀b v,H b=some v->∃v',upd H c o b=some v':=λb v e=>yM ⟨v,e⟩
 refine⟨λb v e=>let ⟨v',e'⟩:=lk b v e;k.ow b v' e',λb v e n=>?_,λb v e=>let ⟨v',e'⟩:=lk b v e;yM (k.th b v' e'),k.ok.upd⟩
 by_cases q:b=c
 .subst q;rw[zj,<- hc,e]
 .rw[zh q];exact k.hp b v (by rw[zh q];exact e) n
structure Stp(x:Addr)(w:Own)(H:Hp)(w':Own)(H':Hp)(p:Addr)(v o:HO)(t:Tag):Prop where
 ok:zS w' H'
 kp:∀b u,H b=some u->b≠x->H' b=some u/\w' b=w b
 at_:H' p=some v
 tg:w' p=some t
 nx:p≠x
 xx:H' x=some o
 wx:w' x=w x
 th:∀b u,H b=some u->∃u',H' b=some u'
theorem Stp.mk'{x p:Addr}{w:Own}{H:Hp}{v o u:HO}{t:Tag}(ok:zS w H)(hx:H x=some u)(hp:H p=none)(hg:∀g,t.grp=some g->∃o,H g=some o):Stp x w H (own w p t) (upd (upd H p v) x o) p v o t:=by
 have nx:x≠p:=zw hx hp
 have th:∀b u,H b=some u->∃u',upd (upd H p v) x o b=some u':=λb u e=>yM (yM ⟨u,e⟩)
 refine⟨λb t' e=>?_,λb u e ne=>?_,?_,y4,nx.symm,zj,wW nx,th⟩
 .by_cases q:b=p
  .subst q
   rw[y4] at e;cases e
   exact⟨⟨v,by rw[zh nx.symm,zj]⟩,λg z=>let ⟨o',e'⟩:=hg g z;th g o' e'⟩
  .rw[wW q] at e
   obtain⟨⟨o1,e1⟩,h2⟩:=ok b t' e
   exact⟨th b o1 e1,λg z=>let ⟨o',e'⟩:=h2 g z;th g o' e'⟩
 .have np:=zw e hp
  exact⟨by rw[zh ne,zh np];exact e,wW np⟩
 .rw[zh nx.symm,zj]
def iv(l:List Nat):List V:=l.map λ(x:Nat)=>V.int (x:Int)
theorem zR{l:List Nat}:(iv l).length=l.length:=by unfold iv;rw[List.length_map]
theorem uJ{l:List Nat}{i:Nat}(h:i<l.length):(iv l)[i]? = some (V.int ((at_ l i:Nat):Int)):=by
 unfold iv
 rw[List.getElem?_map,List.getElem?_eq_getElem h,yk h];rfl
theorem vv{l:List Nat}{i:Nat}{v:V}(h:(iv l)[i]? = some v):i<l.length/\v=V.int ((at_ l i:Nat):Int):=by
 have hi:i<l.length:=by rw[<- zR];exact(List.getElem?_eq_some_iff.mp h).1
 rw[uJ hi] at h
 exact⟨hi,(Option.some.inj h).symm⟩
theorem yC{l:List Nat}{i:Nat}(h:i<l.length):atI (iv l) (i:Int)=some (V.int ((at_ l i:Nat):Int)):=uT (uJ h)
theorem wu{l:List Nat}:iv l=(l.map λ(x:Nat)=>(x:Int)).map V.int:=by unfold iv;rw[List.map_map];rfl
theorem jE{l:List Nat}{x:Nat}:iv l++[V.int (x:Int)]=iv (l++[x]):=by unfold iv;rw[List.map_append];rfl
theorem jD{l:List Nat}{i:Nat}(h:i<l.length):iv (l.take i)++[V.int ((at_ l i:Nat):Int)]=iv (l.take (i+1)):=by
 rw[List.take_succ_eq_append_getElem h,<- jE,yk h]
theorem kM{l:List Nat}{i x:Nat}:(iv l).set i (V.int (x:Int))=iv (l.set i x):=by unfold iv;rw[List.map_set]
theorem vY{n j:Nat}(h:j<n):ixN n (j:Int)=some j:=by
 unfold ixN
 rw[if_pos (by omega),if_pos (by omega)]
 simp
theorem zfZ{B:Row}{x v:Nat}(h:x<B.length):at_ (B.set x v) x=v:=by unfold at_;rw[List.getD_eq_getElem?_getD,List.getElem?_set_self h];rfl
theorem zf0{B:Row}{x y v:Nat}(h:x≠y):at_ (B.set x v) y=at_ B y:=by unfold at_;rw[List.getD_eq_getElem?_getD,List.getElem?_set_ne h,<- List.getD_eq_getElem?_getD]
theorem qY{v:V}:∀n:Nat,(List.replicate n [v]).flatten=List.replicate n v
 |0=>rfl
 |n+1=>by rw[List.replicate_succ,List.flatten_cons,qY n,List.replicate_succ];rfl
theorem yP{n:Nat}(h:n<=1000):n<=sizeLine:=Nat.le_trans h (by rw[sizeLine_eq];omega)
theorem yJ{n:Nat}(h:n<=1000):n<sizeLine:=Nat.lt_of_le_of_lt h (by rw[sizeLine_eq];omega)
abbrev At(H:Hp)(a:Addr)(l:List Nat):Prop:=H a=some (.lst (iv l))
def uV(H:Hp)(r:List Nat)(Q:VK):Prop:=∀(H':Hp)(l:Addr),Same H H'->H l=none->At H' l r->Q (.ref l) H'
def Just(H:Hp)(v:V)(Q:VK):Prop:=∀H':Hp,Same H H'->Q v H'
end Gd
end
section
set_option Elab.async false
set_option autoImplicit false
set_option linter.all false
set_option maxRecDepth 100000
set_option maxHeartbeats 2000000
namespace Gd
open PySem PyProof.Rows L2 GP
open Md07 (Row then_ none_ at_ isPerm inversions)
def vO(_:PySem.W.Frag)(_:Ad):Sp:=λvs H Q _=>∃n:Nat,vs=[.int n]/\n<=1000/\uV H (none_ n) Q
def qd(_:PySem.W.Frag)(_:Ad):Sp:=λvs H Q _=>∃(a:Addr)(l:Row)(n:Nat),vs=[.ref a,.int n]/\At H a l/\l.length<64/\n<=1000/\Just H (.bl (isPerm n l)) Q
def yR(_:PySem.W.Frag)(_:Ad):Sp:=λvs H Q _=>∃(a b:Addr)(p q:Row),vs=[.ref a,.ref b]/\At H a p/\At H b q/\(∀x,x∈p->x<q.length)/\p.length<=1000/\uV H (then_ p q) Q
def qg(_:PySem.W.Frag)(_:Ad):Sp:=λvs H Q _=>∃(a:Addr)(p:Row)(n:Nat),vs=[.ref a]/\At H a p/\Pm n p/\n<=1000/\uV H (inv p) Q
def qf(_:PySem.W.Frag)(_:Ad):Sp:=λvs H Q _=>∃(a:Addr)(p:Row)(n:Nat),vs=[.ref a]/\At H a p/\Pm n p/\n<=1000/\Just H (.bl (inversions p % 2 == 0)) Q
end Gd
end
section
set_option Elab.async false
set_option autoImplicit false
set_option linter.all false
set_option maxRecDepth 100000
set_option maxHeartbeats 2000000
namespace Gd
open PySem PyProof.Rows L2 GP
abbrev zay(K:PySem.W.Frag)(d:Ad):TS :=
 (zE (tCB YG (zb (tCB YE (zb (za 0) zd)) zd)))
abbrev n_none_row:List Str:=["points"]
abbrev zaG(K:PySem.W.Frag)(d:Ad):TS :=
 (zE (tOp (kb K) (tCB (YD K) (zb (za 0) zd)) (tCB YG (zb (tCB YE (zb (za 1) zd)) zd))))
abbrev n_is_permutation:List Str:=["row","points"]
abbrev zau(K:PySem.W.Frag)(d:Ad):TS :=
 (zE (tLc (yT K (za 0)) (zl 2) xc (tOp (zu K) (za 1) (za 2)) [2]))
abbrev n_then:List Str:=["p","q","x"]
abbrev zaK(K:PySem.W.Frag)(d:Ad):TS :=
 (zg (zn (tOp qZ (zU (zb (tC (.int 0)) zd)) (tCB (zZ K) (zb (za 0) zd))) (zl 1))
 (zg (y9 (Xz K (zb (za 0) zd)) (XD K 2 (jI (zl 2) (jI (zl 3) XE)))
  (zn (za 2) (wL (za 1) (za 3) xS)))
 (zE (za 1))))
abbrev n_inverse:List Str:=["row","back","i","x"]
abbrev zaJ(K:PySem.W.Frag)(d:Ad):TS :=
 (zg (zn (tC (.int 0)) (zl 1))
 (zg (zn (tOp qZ (zU (zb (tC (.bl false)) zd)) (tCB (zZ K) (zb (za 0) zd))) (zl 2))
 (zg (y9 (jG (zb (tCB (zZ K) (zb (za 0) zd)) zd)) (zl 3)
  (zY (xP (tB (tOp (zu K) (za 2) (za 3))))
   (zg (xQ 1 (tC (.int 1)) (ipI λi j=>i+j))
   (zg (zn (za 3) (zl 4))
   (wa (xP (tB (tOp (zu K) (za 2) (za 4))))
    (zg (zn (tC (.bl true)) (wL (za 2) (za 4) xS))
    (zn (tOp (zu K) (za 0) (za 4)) (zl 4))))))
   z7))
 (zE (tOp rEq (tOp (rI (λ_ j=>0<j) λi j=>V.int (i % j)) (tOp (rI0 λi j=>V.int (i-j)) (tCB (zZ K) (zb (za 0) zd)) (za 1)) (tC (.int 2))) (tC (.int 0)))))))
abbrev n_is_even:List Str:=["row","cycles","seen","start","x"]
end Gd
end
section
set_option Elab.async false
set_option autoImplicit false
set_option linter.all false
set_option maxRecDepth 100000
set_option maxHeartbeats 2000000
namespace Gd
open PySem PyProof.Rows L2 GP
open Md07 (Row then_ none_ at_ isPerm inversions)
abbrev DQ(Q:VK):Ends:={ nx:=λ_ H'=>Q .non H',rt:=Q }
theorem yes{σ:L2.St}{H:Hp}{A B:Hp->Prop}(h:A H):xc σ H λb H3=>if b=true then A H3 else B H3:=by
 show if true=true then A H else B H
 rw[if_pos rfl];exact h
section
variable{K:PySem.W.Frag}{d:Ad}{vs:List V}{H:Hp}{Q:VK}{E:XK}
theorem zbQ(h:vO K d vs H Q E):zay K d (DQ Q) (start n_none_row vs) H:=by
 obtain⟨n,rfl,hn,k⟩:=h
 refine⟨_,rfl,_,rfl,λp hp=>⟨p,n,rfl,zj,hn,λl hl=>?_⟩⟩
 have s1:Same H (upd H p (.rng 0 n)):=same_upd hp
 exact k _ l (s1.trans (same_upd hl)) (s1.free hl) zj
theorem zbM(h:yR K d vs H Q E):zau K d (DQ Q) (start n_then vs) H:=by
 obtain⟨a,b,p,q,rfl,ha,hb,hlt,hlen,k⟩:=h
 refine⟨_,rfl,a,rfl,⟨_,SqL.of ha⟩,λD hD=>?_⟩
 refine wt (K:=K) (a:=a) (xs:=iv p) (λi H'=>Same H H'/\At H' D ((then_ p q).take i)) ⟨same_upd hD,zj⟩ (λi H' _ h=>SqL.of (h.1 _ _ ha)) (λi x H' hx h=>?_) (λH' h=>?_)
 .obtain⟨hi,rfl⟩:=vv hx
  have hq:at_ p i<q.length:=hlt _ (jR hi)
  refine⟨rfl,yes ?_⟩
  refine⟨_,rfl,_,rfl,b,_,_,_,rfl,rfl,SqL.of (h.1 _ _ hb),yC hq,_,h.2,?_,h.1.upd hD,?_⟩
  .rw[zR,List.length_take,yf]
   exact yJ (Nat.le_trans (Nat.min_le_right _ _) hlen)
  .show upd _ _ _ _=_
   rw[zj,<- zJ hi,jD (by rw[yf];exact hi)]
 .refine k H' D h.1 hD ?_
  have:=h.2
  rw[zR,List.take_of_length_le (by rw[yf];exact Nat.le_refl _)] at this
  exact this
theorem zbu{l:Row}{n:Nat}{ns:List Int}(hp:ns.Perm (l.map λ(x:Nat)=>(x:Int)))(hs:ns.Pairwise (·<=·)):decide (ns=(List.range n).map λ(x:Nat)=>(x:Int))=isPerm n l:=by
 have inj:Function.Injective (λ(x:Nat)=>(x:Int)):=λa b h=>Int.ofNat_inj.mp h
 by_cases h:isPerm n l=true
 .rw[h,decide_eq_true_iff]
  have h1:=(xY.mp h).perm
  have h2:ns.Perm ((List.range n).map λ(x:Nat)=>(x:Int)):=hp.trans (h1.symm.map _)
  refine h2.eq_of_pairwise (λa b _ _ x y=>Int.le_antisymm x y) hs ?_
  rw[List.pairwise_map]
  exact List.pairwise_lt_range.imp λh=>by omega
 .have h':isPerm n l=false:=by simpa using h
  rw[h',decide_eq_false_iff_not]
  intro e
  subst e
  apply h
  rw[xY]
  have h1:(List.range n).Perm l:=by
   have h2:=hp.map Int.toNat
   rw[List.map_map,List.map_map] at h2
   have e1:(Int.toNat ∘ λ(x:Nat)=>(x:Int))=id:=by funext x;simp
   rw[e1,List.map_id,List.map_id] at h2
   exact h2
  exact⟨by rw[<- h1.length_eq,List.length_range],λi hi=>h1.mem_iff.mp (List.mem_range.mpr hi)⟩
theorem zbY(h:qd K d vs H Q E):zaG K d (DQ Q) (start n_is_permutation vs) H:=by
 obtain⟨a,l,n,rfl,ha,hl,hn,k⟩:=h
 refine⟨_,rfl,a,l.map λ(x:Nat)=>(x:Int),rfl,SqL.of (by rw[<- wu];exact ha),by rw[List.length_map];exact hl,λns p hperm hs hp=>?_⟩
 have s1:Same H (upd H p (.lst (ns.map V.int))):=same_upd hp
 refine⟨_,rfl,_,rfl,λp2 hp2=>⟨p2,n,rfl,zj,hn,λq hq=>?_⟩⟩
 have s2:=s1.trans (same_upd (o:=.rng 0 n) hp2)
 have s3:=s2.trans (same_upd (o:=.lst ((List.range n).map λ(i:Nat)=>V.int (i:Int))) hq)
 have e:upd (upd (upd H p (.lst (ns.map V.int))) p2 (.rng 0 n)) q (.lst ((List.range n).map λ(i:Nat)=>V.int (i:Int))) p=some (.lst (ns.map V.int)):=by
  have n1:p≠p2:=zw zj hp2
  rw[zh (zw (H:=upd (upd H p (.lst (ns.map V.int))) p2 (.rng 0 n)) (by rw[zh n1];exact zj) hq),zh n1]
  exact zj
 refine⟨p,q,ns,(List.range n).map λ(x:Nat)=>(x:Int),rfl,rfl,SqL.of e,SqL.of (by rw[zj,List.map_map];rfl),?_⟩
 rw[zbu hperm hs]
 exact k _ s3
theorem zb2(h:qg K d vs H Q E):zaK K d (DQ Q) (start n_inverse vs) H:=by
 obtain⟨a,p,n,rfl,ha,hp,hn,k⟩:=h
 have hl:p.length=n:=hp.1
 refine⟨by show 1<=sizeLine;exact yP (by omega),λz hz=>?_⟩
 have s1:Same H (upd H z (.lst [.int 0])):=same_upd hz
 refine⟨_,rfl,a,_,rfl,.inl (SqL.of (s1 _ _ ha)),z,_,_,rfl,rfl,zj,?_,?_,?_,λb hb=>?_⟩
 .rw[zR];omega
 .rw[zR];omega
 .rw[zR];show 1*(p.length:Int).toNat<=sizeLine;rw[Nat.one_mul,Int.toNat_natCast];exact yP (by omega)
 have s2:=s1.trans (same_upd (o:=.lst (List.replicate ((iv p).length:Int).toNat [V.int 0]).flatten) hb)
 have hb0:H b=none:=s1.free hb
 have e0:(List.replicate ((iv p).length:Int).toNat [V.int 0]).flatten=iv (List.replicate n 0):=by
  rw[zR,Int.toNat_natCast,hl]
  rw[qY];unfold iv;rw[List.map_replicate];rfl
 rw[e0] at s2 ⊢
 refine⟨_,rfl,a,_,rfl,SqL.of (s2 _ _ ha),Qa (K:=K) (a:=a) (xs:=iv p) (λi σ H'=>∃(u v:Option V)(B:Row),σ=[some (.ref a),some (.ref b),u,v]/\Same H H'/\At H' b B/\B.length=n/\∀j,j<i->at_ B (at_ p j)=j)
  ⟨none,none,_,rfl,s2,zj,by simp,λj hj=>absurd hj (Nat.not_lt_zero _)⟩ (λi σ H' _ ⟨_,_,_,_,s3,_⟩=>SqL.of (s3 _ _ ha)) ?_ ?_⟩
 .rintro i x T σ H' hx ⟨u,v,B,rfl,s3,hB,lB,eB⟩ hT
  obtain⟨hi,rfl⟩:=vv hx
  have hin:i<n:=by omega
  have nT:b≠T:=zw hB hT
  refine⟨T,_,rfl,SqT.of zj,rfl,_,_,rfl,_,_,rfl,rfl,?_⟩
  refine⟨_,rfl,_,rfl,_,rfl,b,_,_,at_ p i,rfl,rfl,by rw[zh nT];exact hB,vY (by rw[zR,lB];exact hp.at_lt hin),?_⟩
  refine⟨_,_,B.set (at_ p i) i,rfl,(s3.upd (s3.free hT)).upd hb0,by rw[kM];exact zj,by rw[List.length_set];exact lB,λj hj=>?_⟩
  have hpi:at_ p i<B.length:=by rw[lB];exact hp.at_lt hin
  by_cases q:j=i
  .subst q
   exact zfZ hpi
  .have hjn:j<n:=by omega
   rw[zf0 λz=>q (hp.at_inj hjn hin z.symm)]
   exact eB j (by omega)
 .rintro σ H' ⟨u,v,B,rfl,s3,hB,lB,eB⟩
  have e:B=inv p:=xR lB (by rw[vw];exact hl) λx hx=>by
   obtain⟨j,hj,ej⟩:=hp.at_surj hx
   rw[<- ej,eB j (by rw[zR];omega),yK hp hj]
  subst e
  exact⟨_,rfl,k H' b s3 hb0 hB⟩
theorem Wy{s:List Bool}{x:Nat}(h:x<s.length):(s.map V.bl)[x]? = some (V.bl (sn s x)):=by
 rw[List.getElem?_map,List.getElem?_eq_getElem h];unfold sn;rw[List.getD_eq_getElem?_getD,List.getElem?_eq_getElem h];rfl
theorem zb1(h:qf K d vs H Q E):zaJ K d (DQ Q) (start n_is_even vs) H:=by
 obtain⟨a,p,n,rfl,ha,hp,hn,k⟩:=h
 have hl:p.length=n:=hp.1
 refine⟨by show 1<=sizeLine;exact yP (by omega),λz hz=>?_⟩
 have s1:Same H (upd H z (.lst [.bl false])):=same_upd hz
 refine⟨_,rfl,a,_,rfl,.inl (SqL.of (s1 _ _ ha)),z,_,_,rfl,rfl,zj,?_,?_,?_,λb hb=>?_⟩
 .rw[zR];omega
 .rw[zR];omega
 .rw[zR];show 1*(p.length:Int).toNat<=sizeLine;rw[Nat.one_mul,Int.toNat_natCast];exact yP (by omega)
 have e0:(List.replicate ((iv p).length:Int).toNat [V.bl false]).flatten=(List.replicate n false).map V.bl:=by
  rw[zR,Int.toNat_natCast,hl,qY,List.map_replicate]
 rw[e0]
 have s2:=s1.trans (same_upd (o:=.lst ((List.replicate n false).map V.bl)) hb)
 have hb0:H b=none:=s1.free hb
 refine⟨_,rfl,a,_,rfl,.inl (SqL.of (s2 _ _ ha)),_,rfl,by rw[zR];omega,by rw[zR];omega,?_⟩
 rw[zR,Int.toNat_natCast,hl]
 refine J9 (lo:=0) (n:=n) (λi σ H'=>∃(c:Nat)(u v:Option V)(S:List Bool),σ=[some (.ref a),some (.int (c:Int)),some (.ref b),u,v]/\Same H H'/\H' b=some (.lst (S.map V.bl))/\Cyc n p S c/\∀j,j<i->sn S j=true)
  ⟨0,none,none,_,rfl,s2,zj,Cyc.start,λj hj=>absurd hj (Nat.not_lt_zero _)⟩ ?_ ?_
 .rintro i σ H' hi ⟨c,u,v,S,rfl,s3,hS,C,sn'⟩
  rw[Int.zero_add]
  have li:i<S.length:=by rw[C.len];exact hi
  refine⟨_,rfl,_,rfl,b,_,_,_,rfl,rfl,SqL.of hS,uT (Wy li),_,rfl,?_⟩
  cases hsi:sn S i with
  |true=>
   refine zM ⟨c,_,_,S,rfl,s3,hS,C,λj hj=>?_⟩
   by_cases q:j=i
   .rw[q];exact hsi
   .exact sn' j (by omega)
  |false=>
   refine yj ⟨_,rfl,_,_,rfl,rfl,_,rfl,?_⟩
   refine Zr (fun σ H'=>∃(x:Nat)(S:List Bool),σ=[some (.ref a),some (.int ((c:Int)+1)),some (.ref b),some (.int (i:Int)),some (.int (x:Int))]/\Same H H'/\H' b=some (.lst (S.map V.bl))/\vd n p S c i x/\x<n/\∀j,j<i->sn S j=true)
    (fun σ H'=>match H' b with|some (.lst l)=>n-cnt (l.map λv=>decide (v=V.bl true))|_=>0)
    ⟨i,S,rfl,s3,hS,C.seen (x:=i) hsi,hi,sn'⟩ ?_ ?_
   .rintro σ H2 ⟨x,S2,rfl,s4,hS2,C2,hx,sn2⟩
    have lx:x<S2.length:=by rw[C2.len];exact hx
    refine⟨_,rfl,_,rfl,b,_,_,_,rfl,rfl,SqL.of hS2,uT (Wy lx),_,rfl,?_⟩
    have em:∀T:List Bool,(T.map V.bl).map (λv=>decide (v=V.bl true))=T:=λT=>by
     rw[List.map_map]
     conv=>rhs;rw[<- List.map_id T]
     refine List.map_congr_left λt _=>?_
     cases t<;>simp
    cases hsx:sn S2 x with
    |true=>
     obtain⟨C3,hz3⟩:=C2.done hp hi hx hsx
     refine zM ⟨c+1,_,_,S2,rfl,s4,hS2,C3,λj hj=>?_⟩
     by_cases q:j=i
     .rw[q];exact hz3
     .exact sn2 j (by omega)
    |false=>
     have C3:=C2.step hp hi hx hsx
     refine yj ⟨_,rfl,_,rfl,b,_,_,x,rfl,rfl,hS2,vY (by rw[List.length_map];exact lx),?_⟩
     rw[<- List.map_set]
     refine⟨_,rfl,_,rfl,a,_,_,_,rfl,rfl,SqL.of ((s4.upd hb0) _ _ ha),yC (by omega),?_⟩
     refine⟨⟨at_ p x,S2.set x true,rfl,s4.upd hb0,zj,C3,hp.at_lt hx,λj hj=>?_⟩,?_⟩
     .rw[wP lx];split
      .rfl
      .exact sn2 j hj
     .show(match upd H2 b _ b with|some (.lst l)=>n-cnt (l.map λv=>decide (v=V.bl true))|_=>0)<(match H2 b with|some (.lst l)=>n-cnt (l.map λv=>decide (v=V.bl true))|_=>0)
      rw[zj,hS2]
      show n-cnt (((S2.set x true).map V.bl).map λv=>decide (v=V.bl true))<n-cnt ((S2.map V.bl).map λv=>decide (v=V.bl true))
      rw[em,em,jO lx hsx]
      have h1:=zfg (S2.set x true)
      rw[jO lx hsx,List.length_set,C2.len] at h1
      omega
   .rintro σ H Q Q' hq ⟨v,e1,w,e2,r⟩
    obtain⟨p1,xs,i1,v1,g1,g2,g3,g4,c1,g5,g6⟩:=r
    exact⟨v,e1,w,e2,p1,xs,i1,v1,g1,g2,g3,g4,c1,g5,hq _ _ g6⟩
 .rintro σ H' ⟨c,u,v,S,rfl,s3,hS,C,sn'⟩
  have par:=C.all hp sn'
  refine⟨_,rfl,a,_,rfl,.inl (SqL.of (s3 _ _ ha)),_,rfl,_,_,rfl,rfl,_,_,rfl,rfl,by show(0:Int)<2;decide,rfl,?_⟩
  have e:decide (V.int ((((iv p).length:Nat):Int)-(c:Int) |>.emod 2)=V.int 0)=(inversions p % 2 == 0):=by
   rw[zR,hl]
   have q:((n:Int)-(c:Int)).emod 2=0↔inversions p % 2=0:=by
    show((n:Int)-(c:Int)) % 2=0↔_
    omega
   by_cases z:inversions p % 2=0
   .rw[z,q.mpr z];rfl
   .rw[decide_eq_false (λw=>z (q.mp (V.int.inj w)))]
    exact(beq_eq_false_iff_ne.mpr z).symm
  show Q (.bl _) H'
  exact e ▸ k H' s3
end
end Gd
end
section
set_option Elab.async false
set_option autoImplicit false
set_option linter.all false
set_option maxRecDepth 100000
set_option maxHeartbeats 2000000
namespace Gd
open PySem PyProof.Rows L2 GP
open Md07 (Row then_ none_ at_ isPerm inversions)
structure Tx(K:PySem.W.Frag)(d:Ad):Prop where
 cL:Cls K d.C_Level
 point:yw K d.C_Level "point"
 reached:yw K d.C_Level "reached"
 out:yw K d.C_Level "out"
 back:yw K d.C_Level "back"
 makers:yw K d.C_Level "makers"
 done:yw K d.C_Level "done"
 kin:yw K d.C_Level "kin"
 all_even:yw K d.C_Level "all_even"
 cM:Cls K d.C_MovableChain
 base:yw K d.C_MovableChain "base"
 outs:yw K d.C_MovableChain "outs"
 withRow:∀H,SqT K H d.o_WITH_ROW [.int 2,.int 4,.int 6,.int 7,.int 13]
 withPoints:∀H,SqT K H d.o_WITH_POINTS [.int 8,.int 9,.int 10]
structure zQ(w:Own)(H:Hp)(a:Addr)(r:List Nat):Prop where
 at_:At H a r
 tag:w a=some .row
theorem zQ.keep{P:Tag->Prop}{w w':Own}{H H':Hp}{a:Addr}{r:List Nat}(h:zQ w H a r)(k:Kp P w H w' H')(hp:¬P .row):zQ w' H' a r :=
 ⟨k.hp a _ h.at_ (λt e=>by rw[h.tag] at e;cases e;exact hp),by rw[k.ow a _ h.at_];exact h.tag⟩
def wN(w:Own)(H:Hp):List Addr->List Row->Prop:=Paired λa r=>zQ w H a r
theorem wN.keep{P:Tag->Prop}{w w':Own}{H H':Hp}{as:List Addr}{rs:List Row}(h:wN w H as rs)(k:Kp P w H w' H')(hp:¬P .row):wN w' H' as rs:=Paired.mapP h λ_ _ x=>x.keep k hp
theorem Paired.get1{α β:Type}{R:α->β->Prop}:∀{l:List α}{m:List β}{i:Nat}{b:β},Paired R l m->m[i]? = some b->∃a,l[i]? = some a/\R a b
 |_,_,_,_,.nil,h=>by simp at h
 |_,_,0,_,.cons r _,h=>by simp at h;subst h;exact⟨_,rfl,r⟩
 |_,_,i+1,b,.cons _ t,h=>by
  obtain⟨a,h1,h2⟩:=Paired.get1 (i:=i) (b:=b) t (by simpa using h)
  exact⟨a,by simpa using h1,h2⟩
theorem Paired.get2{α β:Type}{R:α->β->Prop}:∀{l:List α}{m:List β}{i:Nat}{a:α},Paired R l m->l[i]? = some a->∃b,m[i]? = some b/\R a b
 |_,_,_,_,.nil,h=>by simp at h
 |_,_,0,_,.cons r _,h=>by simp at h;subst h;exact⟨_,rfl,r⟩
 |_,_,i+1,b,.cons _ t,h=>by
  obtain⟨a,h1,h2⟩:=Paired.get2 (i:=i) (a:=b) t (by simpa using h)
  exact⟨a,by simpa using h1,h2⟩
theorem Paired.snoc{α β:Type}{R:α->β->Prop}{a:α}{b:β}(r:R a b):∀{l:List α}{m:List β},Paired R l m->Paired R (l++[a]) (m++[b])
 |_,_,.nil=>.cons r .nil
 |_,_,.cons q t=>.cons q (Paired.snoc r t)
def DictAt(w:Own)(H:Hp):List (Key×V)->Tv->Prop:=Paired λkv xt=>kv.1=Sum.inl (xt.1:Int)/\∃a,kv.2=V.ref a/\zQ w H a xt.2
theorem DictAt.keep{P:Tag->Prop}{w w':Own}{H H':Hp}{kvs:List (Key×V)}{T:Tv}(h:DictAt w H kvs T)(k:Kp P w H w' H')(hp:¬P .row):DictAt w' H' kvs T:=Paired.mapP h λ_ _ ⟨e,a,e2,x⟩=>⟨e,a,e2,x.keep k hp⟩
def yF(H:Hp):List (Key×V)->Tv->Prop:=Paired λkv xt=>kv.1=Sum.inl (xt.1:Int)/\∃a,kv.2=V.ref a/\At H a xt.2
theorem yF.same{H H':Hp}{kvs:List (Key×V)}{T:Tv}(h:yF H kvs T)(s:∀b l,At H b l->At H' b l):yF H' kvs T:=Paired.mapP h λ_ _ ⟨e,a,e2,x⟩=>⟨e,a,e2,s _ _ x⟩
theorem yF.len{H:Hp}{kvs:List (Key×V)}{T:Tv}(h:yF H kvs T):kvs.length=T.length:=Paired.length h
theorem DictAt.len{w:Own}{H:Hp}{kvs:List (Key×V)}{T:Tv}(h:DictAt w H kvs T):kvs.length=T.length:=Paired.length h
theorem JK{x y:Nat}(h:¬y=x):¬(Sum.inl (x:Int):Key)=Sum.inl (y:Int):=λz=>h (Int.ofNat_inj.mp (Sum.inl.inj z)).symm
section
variable{R:Addr->Row->Prop}
theorem XL{x:Nat}{t:Row}:∀{kvs:List (Key×V)}{T:Tv},Paired (λ(kv:Key×V)(xt:Nat×Row)=>kv.1=Sum.inl (xt.1:Int)/\∃a,kv.2=V.ref a/\R a xt.2) kvs T->T.lookup x=some t->∃a,zX kvs (Sum.inl (x:Int))=some (V.ref a)/\R a t
 |_,_,.nil,h=>by simp at h
 |_,_,.cons (a:=kv) (b:=xt) (l₁:=kvs) (l₂:=T) ⟨e,a,e2,r⟩ q,h=>by
  by_cases z:x=xt.1
  .subst z
   rw[show(xt::T)=(xt.1,xt.2)::T from rfl,List.lookup_cons,beq_self_eq_true] at h
   have h':xt.2=t:=Option.some.inj h
   subst h'
   exact⟨a,by rw[xN e,e2],r⟩
  .rw[show(xt::T)=(xt.1,xt.2)::T from rfl,List.lookup_cons,show(x == xt.1)=false by simp[z]] at h
   obtain⟨b,h1,h2⟩:=XL (kvs:=kvs) (T:=T) q h
   refine⟨b,?_,h2⟩
   rw[xD (by rw[e];exact JK z)]
   exact h1
theorem XM{x:Nat}:∀{kvs:List (Key×V)}{T:Tv},Paired (λ(kv:Key×V)(xt:Nat×Row)=>kv.1=Sum.inl (xt.1:Int)/\∃a,kv.2=V.ref a/\R a xt.2) kvs T->T.lookup x=none->zX kvs (Sum.inl (x:Int))=none
 |_,_,.nil,_=>zag
 |_,_,.cons (a:=kv) (b:=xt) (l₁:=kvs) (l₂:=T) ⟨e,a,e2,r⟩ q,h=>by
  by_cases z:x=xt.1
  .subst z
   rw[show(xt::T)=(xt.1,xt.2)::T from rfl,List.lookup_cons,beq_self_eq_true] at h
   cases h
  .rw[show(xt::T)=(xt.1,xt.2)::T from rfl,List.lookup_cons,show(x == xt.1)=false by simp[z]] at h
   rw[xD (by rw[e];exact JK z)]
   exact XM (kvs:=kvs) (T:=T) q h
end
theorem yF.get{H:Hp}{x:Nat}{t:Row}{kvs:List (Key×V)}{T:Tv}(h:yF H kvs T)(e:T.lookup x=some t):∃a,zX kvs (Sum.inl (x:Int))=some (V.ref a)/\At H a t:=XL (R:=At H) h e
theorem yF.non{H:Hp}{x:Nat}{kvs:List (Key×V)}{T:Tv}(h:yF H kvs T)(e:T.lookup x=none):zX kvs (Sum.inl (x:Int))=none:=XM (R:=At H) h e
theorem DictAt.get{w:Own}{H:Hp}{x:Nat}{t:Row}{kvs:List (Key×V)}{T:Tv}(h:DictAt w H kvs T)(e:T.lookup x=some t):∃a,zX kvs (Sum.inl (x:Int))=some (V.ref a)/\zQ w H a t:=XL (R:=zQ w H) h e
theorem DictAt.non{w:Own}{H:Hp}{x:Nat}{kvs:List (Key×V)}{T:Tv}(h:DictAt w H kvs T)(e:T.lookup x=none):zX kvs (Sum.inl (x:Int))=none:=XM (R:=zQ w H) h e
theorem DictAt.put{w:Own}{H:Hp}{x:Nat}{t:Row}{a:Addr}{kvs:List (Key×V)}{T:Tv}(h:DictAt w H kvs T)(e:T.lookup x=none)(r:zQ w H a t):DictAt w H (yp kvs (Sum.inl (x:Int)) (.ref a)) (T++[(x,t)]):=by
 rw[YJ _ (h.non e)]
 exact Paired.snoc ⟨rfl,a,rfl,r⟩ h
theorem yF.put{H:Hp}{x:Nat}{t:Row}{a:Addr}{kvs:List (Key×V)}{T:Tv}(h:yF H kvs T)(e:T.lookup x=none)(r:At H a t):yF H (yp kvs (Sum.inl (x:Int)) (.ref a)) (T++[(x,t)]):=by
 rw[YJ _ (h.non e)]
 exact Paired.snoc ⟨rfl,a,rfl,r⟩ h
structure LAdr where
 dx:Addr
 r:Addr
 o:Addr
 b:Addr
 m:Addr
 dn:Addr
 k:Addr
 kvs:List (Key×V)
 bvs:List (Key×V)
 ms:List Addr
def lf(i:Nat)(A:LAdr)(ev:Bool):List (Str×V):=[("point",.int i),("reached",.ref A.r),("out",.ref A.o),("back",.ref A.b),("makers",.ref A.m),("done",.ref A.dn),("kin",.ref A.k),("all_even",.bl ev)]
section
variable{i:Nat}{A:LAdr}{ev:Bool}
theorem zdS:(lf i A ev).lookup ("point":Str)=some (.int i):=rfl
theorem zdP:(lf i A ev).lookup ("reached":Str)=some (.ref A.r):=rfl
theorem zdT:(lf i A ev).lookup ("out":Str)=some (.ref A.o):=rfl
theorem zdZ:(lf i A ev).lookup ("back":Str)=some (.ref A.b):=rfl
theorem zdV:(lf i A ev).lookup ("makers":Str)=some (.ref A.m):=rfl
theorem zdY:(lf i A ev).lookup ("done":Str)=some (.ref A.dn):=rfl
theorem zdW:(lf i A ev).lookup ("kin":Str)=some (.ref A.k):=rfl
theorem zdX:(lf i A ev).lookup ("all_even":Str)=some (.bl ev):=rfl
theorem uF:(lf i A ev).length<1000:=by show 8<1000;decide
theorem xy{m:Str}(h:m∈(["fill","take_maker","note_maker","join_kin","reach","keep","untried","skip_untried","most_members"]:List Str)):(lf i A ev).lookup m=none:=by
 simp only[List.mem_cons,List.not_mem_nil,or_false] at h
 rcases h with rfl|rfl|rfl|rfl|rfl|rfl|rfl|rfl|rfl<;>rfl
theorem zdQ{x:Addr}:zp ("makers":Str) (.ref x) (lf i A ev)=lf i { A with m:=x } ev:=rfl
theorem zdR{x:Addr}:zp ("done":Str) (.ref x) (lf i A ev)=lf i { A with dn:=x } ev:=rfl
theorem Jx{x:Addr}:zp ("kin":Str) (.ref x) (lf i A ev)=lf i { A with k:=x } ev:=rfl
theorem Jy{b:Bool}:zp ("all_even":Str) (.bl b) (lf i A ev)=lf i A b:=rfl
theorem zdU{x r o b m dn k:Addr}:zp ("all_even":Str) (.bl ev) (zp ("kin":Str) (.ref k) (zp ("done":Str) (.ref dn) (zp ("makers":Str) (.ref m) (zp ("back":Str) (.ref b) (zp ("out":Str) (.ref o) (zp ("reached":Str) (.ref r) (zp ("point":Str) (.int i) [])))))))=lf i ⟨x,r,o,b,m,dn,k,[],[],[]⟩ ev:=rfl
end
def wv(T:Tv):Tv:=T.map λxt=>(xt.1,inv xt.2)
structure zW(d:Ad)(w:Own)(H:Hp)(a:Addr)(g i:Nat)(L:Lv)(A:LAdr):Prop where
 ins:H a=some (.ins d.C_Level A.dx (lf i A L.even))
 tin:w a=some (.part g i 0)
 re:At H A.r (keys L.out)
 tre:w A.r=some (.part g i 1)
 ou:H A.o=some (.dK A.kvs)
 tou:w A.o=some (.part g i 2)
 oud:DictAt w H A.kvs L.out
 ba:H A.b=some (.dK A.bvs)
 tba:w A.b=some (.part g i 3)
 bad:DictAt w H A.bvs (wv L.out)
 mkl:H A.m=some (.lst (A.ms.map V.ref))
 tmk:w A.m=some (.part g i 4)
 mks:wN w H A.ms L.makers
 dn:At H A.dn L.done
 tdn:w A.dn=some (.part g i 5)
 kn:zQ w H A.k L.kin
def yd(d:Ad)(w:Own)(H:Hp)(a:Addr)(g i:Nat)(L:Lv):Prop:=∃A,zW d w H a g i L A
def lvP(g i:Nat):Tag->Prop:=λt=>∃k,t=.part g i k
theorem wJ{g i:Nat}:¬lvP g i .row:=λ⟨_,h⟩=>by cases h
theorem zW.keep{P:Tag->Prop}{d:Ad}{w w':Own}{H H':Hp}{a:Addr}{g i:Nat}{L:Lv}{A:LAdr}(h:zW d w H a g i L A)(k:Kp P w H w' H')(hr:¬P .row)(hp:∀j,¬P (.part g i j)):zW d w' H' a g i L A:=by
 have f:∀{b:Addr}{o:HO}{j:Nat},H b=some o->w b=some (.part g i j)->H' b=some o/\w' b=some (.part g i j):=λ{b o j} e t=>
  ⟨k.hp b o e λt' ht z=>by rw[t] at ht;cases ht;exact hp j z,by rw[k.ow b o e];exact t⟩
 exact⟨(f h.ins h.tin).1,(f h.ins h.tin).2,(f h.re h.tre).1,(f h.re h.tre).2,(f h.ou h.tou).1,(f h.ou h.tou).2,h.oud.keep k hr,(f h.ba h.tba).1,(f h.ba h.tba).2,h.bad.keep k hr,(f h.mkl h.tmk).1,(f h.mkl h.tmk).2,h.mks.keep k hr,(f h.dn h.tdn).1,(f h.dn h.tdn).2,h.kn.keep k hr⟩
theorem yd.keep{P:Tag->Prop}{d:Ad}{w w':Own}{H H':Hp}{a:Addr}{g i:Nat}{L:Lv}(h:yd d w H a g i L)(k:Kp P w H w' H')(hr:¬P .row)(hp:∀j,¬P (.part g i j)):yd d w' H' a g i L:=let ⟨A,x⟩:=h;⟨A,x.keep k hr hp⟩
theorem zW.lay{d:Ad}{w:Own}{H H':Hp}{a:Addr}{g i:Nat}{L:Lv}{A:LAdr}(h:zW d w H a g i L A)(s:Same H H'):zW d w H' a g i L A :=
 have f:∀{x y},zQ w H x y->zQ w H' x y:=λr=>⟨s _ _ r.at_,r.tag⟩
 ⟨s _ _ h.ins,h.tin,s _ _ h.re,h.tre,s _ _ h.ou,h.tou,Paired.mapP h.oud λ_ _ ⟨e,a,e2,x⟩=>⟨e,a,e2,f x⟩,s _ _ h.ba,h.tba,Paired.mapP h.bad λ_ _ ⟨e,a,e2,x⟩=>⟨e,a,e2,f x⟩,s _ _ h.mkl,h.tmk,Paired.mapP h.mks λ_ _ x=>f x,s _ _ h.dn,h.tdn,f h.kn⟩
section
variable{K:PySem.W.Frag}{d:Ad}{w:Own}{H:Hp}{a:Addr}{g i:Nat}{L:Lv}{A:LAdr}{Q:V->Prop}
abbrev Fr(K:PySem.W.Frag)(H:Hp)(a:Addr)(f:Str)(Q:V->Prop):Prop:=∃a' C dx fs v,V.ref a=.ref a'/\H a'=some (.ins C dx fs)/\Cls K C/\yw K C f/\fs.lookup f=some v/\Q v
theorem vx{ev:Bool}(h:H a=some (.ins d.C_Level A.dx (lf i A ev)))(T:Tx K d)(q:Q (.int i)):Fr K H a "point" Q:=⟨a,_,_,_,_,rfl,h,T.cL,T.point,zdS,q⟩
theorem ww{ev:Bool}(h:H a=some (.ins d.C_Level A.dx (lf i A ev)))(T:Tx K d)(q:Q (.ref A.r)):Fr K H a "reached" Q:=⟨a,_,_,_,_,rfl,h,T.cL,T.reached,zdP,q⟩
theorem vy{ev:Bool}(h:H a=some (.ins d.C_Level A.dx (lf i A ev)))(T:Tx K d)(q:Q (.ref A.o)):Fr K H a "out" Q:=⟨a,_,_,_,_,rfl,h,T.cL,T.out,zdT,q⟩
theorem kP{ev:Bool}(h:H a=some (.ins d.C_Level A.dx (lf i A ev)))(T:Tx K d)(q:Q (.ref A.b)):Fr K H a "back" Q:=⟨a,_,_,_,_,rfl,h,T.cL,T.back,zdZ,q⟩
theorem vz{ev:Bool}(h:H a=some (.ins d.C_Level A.dx (lf i A ev)))(T:Tx K d)(q:Q (.ref A.m)):Fr K H a "makers" Q:=⟨a,_,_,_,_,rfl,h,T.cL,T.makers,zdV,q⟩
theorem kO{ev:Bool}(h:H a=some (.ins d.C_Level A.dx (lf i A ev)))(T:Tx K d)(q:Q (.ref A.dn)):Fr K H a "done" Q:=⟨a,_,_,_,_,rfl,h,T.cL,T.done,zdY,q⟩
theorem vA{ev:Bool}(h:H a=some (.ins d.C_Level A.dx (lf i A ev)))(T:Tx K d)(q:Q (.ref A.k)):Fr K H a "kin" Q:=⟨a,_,_,_,_,rfl,h,T.cL,T.kin,zdW,q⟩
theorem Xy{ev:Bool}(h:H a=some (.ins d.C_Level A.dx (lf i A ev)))(T:Tx K d)(q:Q (.bl ev)):Fr K H a "all_even" Q:=⟨a,_,_,_,_,rfl,h,T.cL,T.all_even,zdX,q⟩
end
theorem Zv{w:Own}{a b:Addr}{t u:Tag}(h:w a=some t)(h':w b=some u)(n:t≠u):a≠b:=λe=>by
 subst e;rw[h] at h';exact n (Option.some.inj h')
theorem zQ.upd{w:Own}{H:Hp}{a b:Addr}{r:List Nat}{o:HO}{t:Tag}(h:zQ w H a r)(hb:w b=some t)(n:t≠.row):zQ w (L2.upd H b o) a r:=⟨by show L2.upd H b o a=_;rw[zh (Zv h.tag hb n.symm)];exact h.at_,h.tag⟩
theorem wN.upd{w:Own}{H:Hp}{b:Addr}{o:HO}{t:Tag}{as:List Addr}{rs:List Row}(h:wN w H as rs)(hb:w b=some t)(n:t≠.row):wN w (L2.upd H b o) as rs:=Paired.mapP h λ_ _ x=>x.upd hb n
theorem DictAt.upd{w:Own}{H:Hp}{b:Addr}{o:HO}{t:Tag}{kvs:List (Key×V)}{T:Tv}(h:DictAt w H kvs T)(hb:w b=some t)(n:t≠.row):DictAt w (L2.upd H b o) kvs T:=Paired.mapP h λ_ _ ⟨e,a,e2,x⟩=>⟨e,a,e2,x.upd hb n⟩
section
variable{d:Ad}{w:Own}{H:Hp}{a:Addr}{g i:Nat}{L:Lv}{A:LAdr}
theorem zW.ne(n:Nat)(m:Nat)(h:n≠m){x y:Addr}(hx:w x=some (.part g i n))(hy:w y=some (.part g i m)):x≠y:=Zv hx hy λz=>h (by injection z)
theorem xV{g i j:Nat}:Tag.part g i j≠.row:=λz=>by cases z
theorem zW.reIns(h:zW d w H a g i L A){L':Lv}{A':LAdr}(e1:A'.dx=A.dx)(e2:A'.r=A.r)(e3:A'.o=A.o)(e4:A'.b=A.b)(e5:A'.kvs=A.kvs)(e6:A'.bvs=A.bvs)(eo:L'.out=L.out)
  (m1:H A'.m=some (.lst (A'.ms.map V.ref))) (m2:w A'.m=some (.part g i 4)) (m3:wN w H A'.ms L'.makers) (d1:At H A'.dn L'.done) (d2:w A'.dn=some (.part g i 5)) (k1:zQ w H A'.k L'.kin) :
  zW d w (upd H a (.ins d.C_Level A.dx (lf i A' L'.even))) a g i L' A':=by
 have f:∀{x:Addr}{o:HO}{j:Nat},H x=some o->w x=some (.part g i j)->j≠0->upd H a (.ins d.C_Level A.dx (lf i A' L'.even)) x=some o:=λe t n=>by
  rw[zh (zW.ne _ _ n t h.tin)];exact e
 refine⟨by rw[zj,e1],h.tin,?_,by rw[e2];exact h.tre,?_,by rw[e3];exact h.tou,?_,?_,by rw[e4];exact h.tba,?_,f m1 m2 (by decide),m2,m3.upd h.tin xV,f d1 d2 (by decide),d2,k1.upd h.tin xV⟩
 .rw[e2,eo];exact f h.re h.tre (by decide)
 .rw[e3,e5];exact f h.ou h.tou (by decide)
 .rw[e5,eo];exact h.oud.upd h.tin xV
 .rw[e4,e6];exact f h.ba h.tba (by decide)
 .rw[e6,eo];exact h.bad.upd h.tin xV
theorem zW.setMk(h:zW d w H a g i L A){ms:List Addr}{rs:List Row}(hr:wN w H ms rs):zW d w (upd H A.m (.lst (ms.map V.ref))) a g i { L with makers:=rs } { A with ms:=ms }:=by
 have f:∀{x:Addr}{o:HO}{j:Nat},H x=some o->w x=some (.part g i j)->j≠4->upd H A.m (.lst (ms.map V.ref)) x=some o:=λe t n=>by
  rw[zh (zW.ne _ _ n t h.tmk)];exact e
 exact⟨f h.ins h.tin (by decide),h.tin,f h.re h.tre (by decide),h.tre,f h.ou h.tou (by decide),h.tou,h.oud.upd h.tmk xV,f h.ba h.tba (by decide),h.tba,h.bad.upd h.tmk xV,zj,h.tmk,hr.upd h.tmk xV,f h.dn h.tdn (by decide),h.tdn,h.kn.upd h.tmk xV⟩
theorem zW.setDn(h:zW d w H a g i L A){l:List Nat}:zW d w (upd H A.dn (.lst (iv l))) a g i { L with done:=l } A:=by
 have f:∀{x:Addr}{o:HO}{j:Nat},H x=some o->w x=some (.part g i j)->j≠5->upd H A.dn (.lst (iv l)) x=some o:=λe t n=>by
  rw[zh (zW.ne _ _ n t h.tdn)];exact e
 exact⟨f h.ins h.tin (by decide),h.tin,f h.re h.tre (by decide),h.tre,f h.ou h.tou (by decide),h.tou,h.oud.upd h.tdn xV,f h.ba h.tba (by decide),h.tba,h.bad.upd h.tdn xV,f h.mkl h.tmk (by decide),h.tmk,h.mks.upd h.tdn xV,zj,h.tdn,h.kn.upd h.tdn xV⟩
theorem zW.ownW(h:zW d w H a g i L A){b:Addr}{t:Tag}(n:w b=none):zW d (Gd.own w b t) H a g i L A:=by
 have f:∀{x:Addr}{u:Tag},w x=some u->Gd.own w b t x=some u:=λq=>zcM q n
 have fr:∀{x y},zQ w H x y->zQ (Gd.own w b t) H x y:=λr=>⟨r.at_,f r.tag⟩
 exact⟨h.ins,f h.tin,h.re,f h.tre,h.ou,f h.tou,Paired.mapP h.oud λ_ _ ⟨e,a,e2,x⟩=>⟨e,a,e2,fr x⟩,h.ba,f h.tba,Paired.mapP h.bad λ_ _ ⟨e,a,e2,x⟩=>⟨e,a,e2,fr x⟩,h.mkl,f h.tmk,Paired.mapP h.mks λ_ _ x=>fr x,h.dn,f h.tdn,fr h.kn⟩
theorem zW.updO(h:zW d w H a g i L A){b:Addr}{o:HO}(hb:∀t,w b=some t->t≠.row/\∀k,t≠.part g i k):zW d w (upd H b o) a g i L A:=by
 have ne:∀{x:Addr}{t:Tag},w x=some t->(t=.row∨∃k,t=.part g i k)->x≠b:=λ{x t} e q z=>by
  subst z
  obtain⟨h1,h2⟩:=hb t e
  rcases q with q|⟨k,q⟩
  .exact h1 q
  .exact h2 k q
 have f:∀{x:Addr}{u:HO}{j:Nat},H x=some u->w x=some (.part g i j)->upd H b o x=some u:=λe t=>by rw[zh (ne t (.inr ⟨_,rfl⟩))];exact e
 have fr:∀{x y},zQ w H x y->zQ w (upd H b o) x y:=λr=>⟨by show upd H b o _=_;rw[zh (ne r.tag (.inl rfl))];exact r.at_,r.tag⟩
 exact⟨f h.ins h.tin,h.tin,f h.re h.tre,h.tre,f h.ou h.tou,h.tou,Paired.mapP h.oud λ_ _ ⟨e,a,e2,x⟩=>⟨e,a,e2,fr x⟩,f h.ba h.tba,h.tba,Paired.mapP h.bad λ_ _ ⟨e,a,e2,x⟩=>⟨e,a,e2,fr x⟩,f h.mkl h.tmk,h.tmk,Paired.mapP h.mks λ_ _ x=>fr x,f h.dn h.tdn,h.tdn,fr h.kn⟩
end
theorem zQ.updO{w:Own}{H:Hp}{a b:Addr}{r:List Nat}{o:HO}(h:zQ w H a r)(hb:∀t,w b=some t->t≠.row):zQ w (L2.upd H b o) a r:=⟨by show L2.upd H b o a=_;rw[zh (λ(z:a=b)=>hb .row (by rw[<- z];exact h.tag) rfl)];exact h.at_,h.tag⟩
theorem DictAt.updO{w:Own}{H:Hp}{b:Addr}{o:HO}{kvs:List (Key×V)}{T:Tv}(h:DictAt w H kvs T)(hb:∀t,w b=some t->t≠.row):DictAt w (L2.upd H b o) kvs T:=Paired.mapP h λ_ _ ⟨e,a,e2,x⟩=>⟨e,a,e2,x.updO hb⟩
end Gd
end
section
set_option Elab.async false
set_option autoImplicit false
set_option linter.all false
set_option maxRecDepth 100000
set_option maxHeartbeats 2000000
namespace Gd
open PySem PyProof.Rows L2 GP
open Md07 (Row then_ none_ at_ isPerm inversions)
def ZW(_:PySem.W.Frag)(d:Ad):Sp:=λvs H Q _=>∃(x dx z:Addr)(i n g:Nat)(w:Own),vs=[.ref x,.int i,.ref z]/\H x=some (.ins d.C_Level dx [])/\w x=none/\zS w H/\(∃o,H g=some o)/\zQ w H z (none_ n)/\i<n /\
 ∀(w':Own)(H':Hp),(∀b o,H b=some o->b≠x->H' b=some o/\w' b=w b)->zS w' H'->yd d w' H' x g i (xG n i)->Q .non H'
def uD(d:Ad)(w:Own)(H:Hp)(a:Addr)(g i:Nat)(L':Lv)(Q:VK):Prop:=∀(w':Own)(H':Hp),Kp (lvP g i) w H w' H'->yd d w' H' a g i L'->Q .non H'
def kpP(g i:Nat):Tag->Prop:=λt=>∃k,t=.part g i k/\1<=k/\k<=3
theorem uG{g i:Nat}:¬kpP g i .row:=λ⟨_,h,_⟩=>by cases h
theorem JG{g i:Nat}:∀t,kpP g i t->lvP g i t:=λt ⟨k,h,_⟩=>⟨k,h⟩
def qH(_:PySem.W.Frag)(d:Ad):Sp:=λvs H Q _=>∃(a r:Addr)(g i n:Nat)(w:Own)(L:Lv)(row:Row),vs=[.ref a,.ref r]/\zS w H/\yd d w H a g i L/\zQ w H r row/\Pm n row/\i<n/\n<=34/\at_ row i∉keys L.out/\L.out.length<=500 /\
 ∀(w':Own)(H':Hp),Kp (kpP g i) w H w' H'->yd d w' H' a g i { L with out:=L.out++[(at_ row i,row)] }->Q .non H'
def jh(_:PySem.W.Frag)(d:Ad):Sp:=λvs H Q _=>∃(a r:Addr)(g i n:Nat)(w:Own)(L:Lv)(row:Row),vs=[.ref a,.ref r]/\zS w H/\yd d w H a g i L/\zQ w H r row/\Pm n row/\n<=34/\L.kin.length=n/\L.makers.length<=500/\L.done.length<=500 /\
 uD d w H a g i (Lv.noted L row) Q
def qI(_:PySem.W.Frag)(d:Ad):Sp:=λvs H Q _=>∃(a r:Addr)(g i n:Nat)(w:Own)(L:Lv)(row:Row),vs=[.ref a,.ref r]/\zS w H/\yd d w H a g i L/\zQ w H r row/\Pm n row/\n<=34/\L.kin.length=n /\
 uD d w H a g i { L with kin:=yS L.kin row } Q
def ZU(_:PySem.W.Frag)(d:Ad):Sp:=λvs H Q _=>∃(a:Addr)(g i n:Nat)(w:Own)(L:Lv),vs=[.ref a]/\zS w H/\yd d w H a g i L/\LvPre n i L/\n<=34 /\
 ∀ext,LvOk n i { L with out:=L.out++ext }->uD d w H a g i { L with out:=L.out++ext } Q
def qF(_:PySem.W.Frag)(d:Ad):Sp:=λvs H Q _=>∃(a r:Addr)(g i n:Nat)(w:Own)(L:Lv)(row:Row),vs=[.ref a,.ref r]/\zS w H/\yd d w H a g i L/\zQ w H r row/\LvPre n i L/\Pm n row/\(∀j,j<i->at_ row j=j)/\n<=34/\L.makers.length<=500 /\
 ∀ext,LvOk n i { Lv.noted L row with out:=L.out++ext }->uD d w H a g i { Lv.noted L row with out:=L.out++ext } Q
def vg(_:PySem.W.Frag)(d:Ad):Sp:=λvs H Q _=>∃(a:Addr)(g i n:Nat)(w:Own)(L:Lv),vs=[.ref a]/\zS w H/\yd d w H a g i L/\LvPre n i L/\n<=34/\L.makers.length<=500 /\
 ((∀k,k<L.makers.length->L.done.getD k 0=L.out.length)->Just H .non Q) /\
 ∀(k:Nat)(m:Row)(x:Nat)(t:Row),L.makers[k]? = some m->L.out[L.done.getD k 0]? = some (x,t)->∀(w':Own)(H':Hp)(l:Addr),Kp (lvP g i) w H w' H'->yd d w' H' a g i { L with done:=L.done.set k (L.done.getD k 0+1) }->zQ w' H' l (then_ t m)->Q (.ref l) H'
def qG(_:PySem.W.Frag)(d:Ad):Sp:=λvs H Q _=>∃(a:Addr)(g i:Nat)(w:Own)(L:Lv),vs=[.ref a]/\zS w H/\yd d w H a g i L/\L.makers.length<=500/\uD d w H a g i { L with done:=List.replicate L.makers.length L.out.length } Q
def ZV(_:PySem.W.Frag)(d:Ad):Sp:=λvs H Q _=>∃(a:Addr)(g i n:Nat)(w:Own)(L:Lv),vs=[.ref a]/\yd d w H a g i L/\L.kin.length=n/\n<=34/\Just H (.int (most n L)) Q
end Gd
end
section
set_option Elab.async false
set_option autoImplicit false
set_option linter.all false
set_option maxRecDepth 100000
set_option maxHeartbeats 2000000
namespace Gd
open PySem PyProof.Rows L2 GP
abbrev zbg(K:PySem.W.Frag)(d:Ad):TS :=
 (zg (yY K (za 0) (za 1) "point")
 (zg (yY K (za 0) (zU (zb (za 1) zd)) "reached")
 (zg (yY K (za 0) (j5 [((za 1),(za 2))]) "out")
 (zg (yY K (za 0) (j5 [((za 1),(za 2))]) "back")
 (zg (yY K (za 0) (zU zd) "makers")
 (zg (yY K (za 0) (zU zd) "done")
 (zg (yY K (za 0) (tCB (ka K) (zb (za 2) zd)) "kin")
 (yY K (za 0) (tC (.bl true)) "all_even"))))))))
abbrev n_Level_init:List Str:=["self","point","none"]
abbrev za9(K:PySem.W.Frag)(d:Ad):TS :=
 (zg (yr (yA d.C_Level "note_maker" (jh K d) [] E0 (za 0) (zb (za 1) zd)))
 (yr (yA d.C_Level "reach" (ZU K d) [] E0 (za 0) zd)))
abbrev n_Level_take_maker:List Str:=["self","row"]
abbrev zbc(K:PySem.W.Frag)(d:Ad):TS :=
 (zg (yr (tBM K "list" uo (zt K (za 0) "makers") (zb (za 1) zd)))
 (zg (yr (tBM K "list" uo (zt K (za 0) "done") (zb (tC (.int 0)) zd)))
 (zg (yY K (za 0) (j7 (zt K (za 0) "all_even") (zy (qf K d) [] E0 (zb (za 1) zd))) "all_even")
 (yr (yA d.C_Level "join_kin" (qI K d) [] E0 (za 0) (zb (za 1) zd))))))
abbrev n_Level_note_maker:List Str:=["self","row"]
abbrev zbf(K:PySem.W.Frag)(d:Ad):TS :=
 (y9 (Xz K (zb (za 1) zd)) (XD K 2 (jI (zl 2) (jI (zl 3) XE)))
  (zg (zn (tOp (zu K) (zt K (za 0) "kin") (za 2)) (zl 4))
  (zg (zn (tOp (zu K) (zt K (za 0) "kin") (za 3)) (zl 5))
  (zY (ya (tOp rNe (za 4) (za 5)))
   (yY K (za 0) (tLc (yT K (zt K (za 0) "kin")) (zl 6) xc (tIf (ya (tOp rEq (za 6) (za 5))) (za 4) (za 6)) [6]) "kin")
   z7))))
abbrev n_Level_join_kin:List Str:=["self","row","i","x","one","other","k"]
abbrev zbb(K:PySem.W.Frag)(d:Ad):TS :=
 (zg (zn (tC (.int 0)) (zl 1))
 (wa (ya (tOp (rI0 λi j=>V.bl (decide (i<j))) (za 1) (tCB (zZ K) (zb (zt K (za 0) "reached") zd))))
  (zg (zn (tOp (zu K) (zt K (za 0) "reached") (za 1)) (zl 2))
  (zg (y9 (yT K (zt K (za 0) "makers")) (zl 3)
   (zY (tB (j6 (tOp (zu K) (za 3) (za 2)) (zt K (za 0) "out")))
    (yr (yA d.C_Level "keep" (qH K d) [] E0 (za 0) (zb (zy (yR K d) [] E0 (zb (yB (zt K (za 0) "out") (za 2)) (zb (za 3) zd))) zd)))
    z7))
  (xQ 1 (tC (.int 1)) (ipI λi j=>i+j))))))
abbrev n_Level_reach:List Str:=["self","k","x","maker"]
abbrev zbe(K:PySem.W.Frag)(d:Ad):TS :=
 (zg (zn (tOp (zu K) (za 1) (zt K (za 0) "point")) (zl 2))
 (zg (yr (tBM K "list" uo (zt K (za 0) "reached") (zb (za 2) zd)))
 (zg (um (zt K (za 0) "out") (za 2) (za 1))
 (um (zt K (za 0) "back") (za 2) (zy (qg K d) [] E0 (zb (za 1) zd))))))
abbrev n_Level_keep:List Str:=["self","row","x"]
abbrev za8(K:PySem.W.Frag)(d:Ad):TS :=
 (zg (zn (tC (.int 0)) (zl 1))
 (zg (wa (vf (ya (tOp (rI0 λi j=>V.bl (decide (i<j))) (za 1) (tCB (zZ K) (zb (zt K (za 0) "makers") zd)))) (ya (tOp rEq (tOp (zu K) (zt K (za 0) "done") (za 1)) (tCB (zZ K) (zb (zt K (za 0) "reached") zd)))))
  (xQ 1 (tC (.int 1)) (ipI λi j=>i+j)))
 (zg (zY (ya (tOp rEq (za 1) (tCB (zZ K) (zb (zt K (za 0) "makers") zd))))
  (zE (tC .non))
  z7)
 (zg (zn (tOp (zu K) (zt K (za 0) "reached") (tOp (zu K) (zt K (za 0) "done") (za 1))) (zl 2))
 (zg (ZF (zt K (za 0) "done") (za 1) (tC (.int 1)) (YH K) (ipI λi j=>i+j) xS)
 (zE (zy (yR K d) [] E0 (zb (yB (zt K (za 0) "out") (za 2)) (zb (tOp (zu K) (zt K (za 0) "makers") (za 1)) zd)))))))))
abbrev n_Level_untried:List Str:=["self","k","x"]
abbrev zba(K:PySem.W.Frag)(d:Ad):TS :=
 (yY K (za 0) (tOp qZ (zU (zb (tCB (zZ K) (zb (zt K (za 0) "reached") zd)) zd)) (tCB (zZ K) (zb (zt K (za 0) "makers") zd))) "done")
abbrev n_Level_skip_untried:List Str:=["self"]
abbrev zbd(K:PySem.W.Frag)(d:Ad):TS :=
 (zg (zn (tC (.int 1)) (zl 1))
 (zg (zn ZC (zl 2))
 (zg (y9 (yT K (zt K (za 0) "kin")) (zl 3)
  (zg (um (za 2) (za 3) (tOp (rI0 λi j=>V.int (i+j)) (Wl (za 2) (za 3) (tC (.int 0))) (tC (.int 1))))
  (xQ 1 (yB (za 2) (za 3)) (ipC CMul λi j=>i*j))))
 (zE (tIf (vf (tB (zt K (za 0) "all_even")) (ya (tOp (rI0 λi j=>V.bl (decide (j<i))) (za 1) (tC (.int 1))))) (tOp (rI y8 λi j=>V.int (i / j)) (za 1) (tC (.int 2))) (za 1))))))
abbrev n_Level_most_members:List Str:=["self","most","met","k"]
end Gd
end
section
set_option Elab.async false
set_option autoImplicit false
set_option linter.all false
set_option maxRecDepth 100000
set_option maxHeartbeats 2000000
namespace Gd
open PySem PyProof.Rows L2 GP
open Md07 (Row then_ none_ at_ isPerm inversions)
section
variable{K:PySem.W.Frag}{d:Ad}{vs:List V}{H:Hp}{Q:VK}{E:XK}
theorem Jv{T:Tv}{x:Nat}(h:x∉keys T):T.lookup x=none:=uE.mpr h
theorem kK{T:Tv}{x:Nat}{t:Row}:keys (T++[(x,t)])=keys T++[x]:=by unfold keys;rw[List.map_append];rfl
theorem zes{T:Tv}{x:Nat}{t:Row}:wv (T++[(x,t)])=wv T++[(x,inv t)]:=by unfold wv;rw[List.map_append];rfl
theorem zeb{T:Tv}:keys (wv T)=keys T:=by unfold keys wv;rw[List.map_map];rfl
theorem xz{T:Tv}:(keys T).length=T.length:=by unfold keys;rw[List.length_map]
theorem zcx(T:Tx K d)(h:qH K d vs H Q E):zbe K d (DQ Q) (start n_Level_keep vs) H:=by
 obtain⟨a,r,g,i,n,w,L,row,rfl,ok,⟨A,hA⟩,hr,pm,hi,hn,hx,hl,k⟩:=h
 refine⟨_,rfl,_,rfl,vx hA.ins T ?_⟩
 refine⟨r,_,_,_,rfl,rfl,SqL.of hr.at_,yC (by rw[pm.1];exact hi),?_⟩
 refine⟨_,rfl,ww hA.ins T ⟨.inl ⟨rfl,_,SqL.of hA.re⟩,_,rfl,A.r,_,_,rfl,rfl,hA.re,by rw[zR,xz];exact yJ (by omega),?_⟩⟩
 rw[jE]
 have n12:=zW.ne (g:=g) (i:=i) 1 2 (by decide) hA.tre hA.tou
 have n13:=zW.ne (g:=g) (i:=i) 1 3 (by decide) hA.tre hA.tba
 have n10:=zW.ne (g:=g) (i:=i) 0 1 (by decide) hA.tin hA.tre
 have n23:=zW.ne (g:=g) (i:=i) 2 3 (by decide) hA.tou hA.tba
 have n20:=zW.ne (g:=g) (i:=i) 0 2 (by decide) hA.tin hA.tou
 have pr:∀{j:Nat},Tag.part g i j≠.row:=λz=>by cases z
 have e2:L.out.lookup (at_ row i)=none:=Jv hx
 have e3:(wv L.out).lookup (at_ row i)=none:=Jv (by rw[zeb];exact hx)
 have i1:upd H A.r (.lst (iv (keys L.out++[at_ row i]))) a=some (.ins d.C_Level A.dx (lf i A L.even)):=by rw[zh n10];exact hA.ins
 refine⟨_,rfl,_,rfl,vy i1 T ⟨_,rfl,A.o,_,rfl,DPut.k (k:=Sum.inl ((at_ row i:Nat):Int)) (by rw[zh n12.symm];exact hA.ou) (by rw[hA.oud.len];exact yJ (by omega)),?_⟩⟩
 have hr2:zQ w (upd (upd H A.r (.lst (iv (keys L.out++[at_ row i])))) A.o (.dK (yp A.kvs (Sum.inl ((at_ row i:Nat):Int)) (.ref r)))) r row:=(hr.upd hA.tre pr).upd hA.tou pr
 refine⟨_,rfl,r,row,n,rfl,hr2.at_,pm,by omega,λH' l s hl' hlr=>?_⟩
 have i2:H' a=some (.ins d.C_Level A.dx (lf i A L.even)):=s _ _ (by rw[zh n20];exact i1)
 have b2:H' A.b=some (.dK A.bvs):=s _ _ (by rw[zh n23.symm,zh n13.symm];exact hA.ba)
 refine⟨_,rfl,kP i2 T ⟨_,rfl,A.b,_,rfl,DPut.k (k:=Sum.inl ((at_ row i:Nat):Int)) b2 (by rw[hA.bad.len];unfold wv;rw[List.length_map];exact yJ (by omega)),?_⟩⟩
 have hl0:H l=none:=(upd_none (upd_none hl').1).1
 have k2:Kp (kpP g i) w H w H':=(((Kp.refl ok).write hA.tre ⟨1,rfl,by decide,by decide⟩).write hA.tou ⟨2,rfl,by decide,by decide⟩).lay s
 have k4:=k2.name (t:=.row) hl0 hlr (λg z=>by cases z)
 have tg:∀{x:Addr}{o:HO}{t:Tag},H x=some o->w x=some t->own w l .row x=some t:=λe t=>by rw[k4.ow _ _ e];exact t
 have k5:=k4.write (o:=.dK (yp A.bvs (Sum.inl ((at_ row i:Nat):Int)) (.ref l))) (tg hA.ba hA.tba) ⟨3,rfl,by decide,by decide⟩
 have f:∀{x:Addr}{o:HO}{j:Nat},H x=some o->w x=some (.part g i j)->j≠1->j≠2->j≠3->upd H' A.b (.dK (yp A.bvs (Sum.inl ((at_ row i:Nat):Int)) (.ref l))) x=some o:=λe t n1 n2 n3=>by
  rw[zh (zW.ne _ _ n3 t hA.tba)]
  exact s _ _ (by rw[zh (zW.ne _ _ n2 t hA.tou),zh (zW.ne _ _ n1 t hA.tre)];exact e)
 have hl5:zQ (own w l .row) (upd H' A.b (.dK (yp A.bvs (Sum.inl ((at_ row i:Nat):Int)) (.ref l)))) l (inv row):=zQ.upd ⟨hlr,y4⟩ (tg hA.ba hA.tba) pr
 refine k _ _ k5 ⟨{ A with kvs:=yp A.kvs (Sum.inl ((at_ row i:Nat):Int)) (.ref r),bvs:=yp A.bvs (Sum.inl ((at_ row i:Nat):Int)) (.ref l) },?_⟩
 refine⟨f hA.ins hA.tin (by decide) (by decide) (by decide),tg hA.ins hA.tin,?_,tg hA.re hA.tre,?_,tg hA.ou hA.tou,(hA.oud.keep k5 uG).put e2 (hr.keep k5 uG),zj,tg hA.ba hA.tba,?_,
  f hA.mkl hA.tmk (by decide) (by decide) (by decide),tg hA.mkl hA.tmk,hA.mks.keep k5 uG,f hA.dn hA.tdn (by decide) (by decide) (by decide),tg hA.dn hA.tdn,hA.kn.keep k5 uG⟩
 .show upd _ _ _ _=_
  rw[zh n13,kK]
  exact s _ _ (by rw[zh n12];exact zj)
 .show upd _ _ _ _=_
  rw[zh n23]
  exact s _ _ zj
 .show DictAt _ _ _ (wv (L.out++[(at_ row i,row)]))
  rw[zes]
  exact(hA.bad.keep k5 uG).put e3 hl5
theorem zcy(T:Tx K d)(h:qI K d vs H Q E):zbf K d (DQ Q) (start n_Level_join_kin vs) H:=by
 obtain⟨a,r,g,i,n,w,L,row,rfl,ok,hL,hr,pm,hn,hk,k⟩:=h
 refine⟨_,rfl,r,_,rfl,SqL.of hr.at_,Qa (K:=K) (a:=r) (xs:=iv row) (λj σ H'=>∃(u1 u2 u3 u4 u5:Option V)(w':Own),σ=[some (.ref a),some (.ref r),u1,u2,u3,u4,u5]/\Kp (lvP g i) w H w' H'/\yd d w' H' a g i { L with kin:=jkin row L.kin j })
  ⟨none,none,none,none,none,w,rfl,Kp.refl ok,hL⟩ (λj σ H' _ ⟨_,_,_,_,_,_,_,kp,_⟩=>SqL.of (hr.keep kp wJ).at_) ?_ ?_⟩
 .rintro j x T' σ H' hx ⟨u1,u2,u3,u4,u5,w',rfl,kp,A,hA⟩ hT
  obtain⟨hj,rfl⟩:=vv hx
  have hjn:j<n:=by rw[<- pm.1];exact hj
  have hkl:(jkin row L.kin j).length=n:=by rw[vX];exact hk
  have hrn:=pm.at_lt hjn
  have k1:=kp.lay (same_upd (o:=.tup [.int (j:Nat),.int ((at_ row j:Nat):Int)]) hT)
  have hA1:=hA.lay (same_upd (o:=.tup [.int (j:Nat),.int ((at_ row j:Nat):Int)]) hT)
  have hT1:SqT K (upd H' T' (.tup [.int (j:Nat),.int ((at_ row j:Nat):Int)])) T' [.int (j:Nat),.int ((at_ row j:Nat):Int)]:=SqT.of zj
  revert k1 hA1 hT1
  generalize upd H' T' (.tup [.int (j:Nat),.int ((at_ row j:Nat):Int)])=H1
  intro k1 hA1 hT1
  refine⟨T',_,rfl,hT1,rfl,_,_,rfl,_,_,rfl,rfl,?_⟩
  refine⟨_,rfl,vA hA1.ins T ⟨_,rfl,A.k,_,_,_,rfl,rfl,SqL.of hA1.kn.at_,yC (by show j<(jkin row L.kin j).length;omega),?_⟩⟩
  refine⟨_,rfl,vA hA1.ins T ⟨_,rfl,A.k,_,_,_,rfl,rfl,SqL.of hA1.kn.at_,yC (by show at_ row j<(jkin row L.kin j).length;omega),?_⟩⟩
  refine⟨_,rfl,_,rfl,rfl,_,rfl,?_⟩
  have ek:jkin row L.kin (j+1)=if at_ (jkin row L.kin j) j=at_ (jkin row L.kin j) (at_ row j) then jkin row L.kin j else jk (jkin row L.kin j) (at_ (jkin row L.kin j) j) (at_ (jkin row L.kin j) (at_ row j)):=rfl
  by_cases q:at_ (jkin row L.kin j) j=at_ (jkin row L.kin j) (at_ row j)
  .rw[show(!decide (V.int ((at_ (jkin row L.kin j) j:Nat):Int)=V.int ((at_ (jkin row L.kin j) (at_ row j):Nat):Int)))=false by rw[q];simp]
   refine zM ⟨_,_,_,_,_,w',rfl,k1,A,?_⟩
   rw[ek,if_pos q];exact hA1
  .rw[show(!decide (V.int ((at_ (jkin row L.kin j) j:Nat):Int)=V.int ((at_ (jkin row L.kin j) (at_ row j):Nat):Int)))=true by
    rw[decide_eq_false (λz=>q (Int.ofNat_inj.mp (V.int.inj z)))];rfl]
   rw[if_neg q] at ek
   refine yj ⟨_,rfl,vA hA1.ins T ⟨A.k,rfl,⟨_,SqL.of hA1.kn.at_⟩,λD hD=>?_⟩⟩
   refine wt (K:=K) (a:=A.k) (xs:=iv (jkin row L.kin j)) (λm H2=>Same H1 H2/\At H2 D ((jk (jkin row L.kin j) (at_ (jkin row L.kin j) j) (at_ (jkin row L.kin j) (at_ row j))).take m)) ⟨same_upd hD,zj⟩ (λm H2 _ h=>SqL.of (h.1 _ _ hA1.kn.at_)) (λm x H2 hx h=>?_) (λH2 h=>?_)
   .obtain⟨hm,rfl⟩:=vv hx
    refine⟨rfl,yes ?_⟩
    refine⟨_,rfl,_,rfl,rfl,_,rfl,?_⟩
    have hm2:m<(jk (jkin row L.kin j) (at_ (jkin row L.kin j) j) (at_ (jkin row L.kin j) (at_ row j))).length:=by rw[kL];exact hm
    have fin:∀y:Nat,y=at_ (jk (jkin row L.kin j) (at_ (jkin row L.kin j) j) (at_ (jkin row L.kin j) (at_ row j))) m->∃acc,H2 D=some (.lst acc)/\acc.length<sizeLine/\Same H1 (upd H2 D (.lst (acc++[V.int (y:Int)])))/\At (upd H2 D (.lst (acc++[V.int (y:Int)]))) D ((jk (jkin row L.kin j) (at_ (jkin row L.kin j) j) (at_ (jkin row L.kin j) (at_ row j))).take (m+1)):=λy hy=>by
     refine⟨_,h.2,?_,h.1.upd hD,?_⟩
     .rw[zR,List.length_take];exact yJ (by omega)
     .show upd _ _ _ _=_
      rw[zj,hy,jD hm2]
    by_cases q2:at_ (jkin row L.kin j) m=at_ (jkin row L.kin j) (at_ row j)
    .rw[show decide (V.int ((at_ (jkin row L.kin j) m:Nat):Int)=V.int ((at_ (jkin row L.kin j) (at_ row j):Nat):Int))=true by rw[q2];simp]
     exact yj ⟨_,rfl,fin _ (by rw[vH hm,if_pos q2])⟩
    .rw[decide_eq_false (λz=>q2 (Int.ofNat_inj.mp (V.int.inj z)))]
     exact zM ⟨_,rfl,fin _ (by rw[vH hm,if_neg q2])⟩
   .have e:=h.2
    rw[zR,List.take_of_length_le (by rw[kL];exact Nat.le_refl _),<- ek] at e
    have hA2:=(hA1.lay h.1)
    have hDn:H D=none:=k1.free hD
    have k2:=(k1.lay h.1).name (t:=.row) hDn e (λg z=>by cases z)
    have wD:w' D=none:=k1.ok.free hD
    have hA3:zW d (own w' D .row) H2 a g i { L with kin:=jkin row L.kin j } A:=hA2.ownW wD
    refine⟨_,rfl,a,_,_,_,rfl,hA3.ins,T.cL,T.kin,uF,?_⟩
    rw[Jx]
    exact⟨_,_,_,_,_,_,rfl,k2.write hA3.tin ⟨0,rfl⟩,_,hA3.reIns (L':={ L with kin:=jkin row L.kin (j+1) }) (A':={ A with k:=D }) rfl rfl rfl rfl rfl rfl rfl hA3.mkl hA3.tmk hA3.mks hA3.dn hA3.tdn ⟨e,y4⟩⟩
 .rintro σ H' ⟨u1,u2,u3,u4,u5,w',rfl,kp,hL'⟩
  rw[zR] at hL'
  exact k w' H' kp hL'
theorem zcv(T:Tx K d)(h:jh K d vs H Q E):zbc K d (DQ Q) (start n_Level_note_maker vs) H:=by
 obtain⟨a,r,g,i,n,w,L,row,rfl,ok,⟨A,hA⟩,hr,pm,hn,hk,hm,hd,k⟩:=h
 refine⟨_,rfl,vz hA.ins T ⟨.inl ⟨rfl,_,SqL.of hA.mkl⟩,_,rfl,A.m,_,_,rfl,rfl,hA.mkl,by rw[List.length_map,hA.mks.length];exact yJ (by omega),?_⟩⟩
 have em:A.ms.map V.ref++[V.ref r]=(A.ms++[r]).map V.ref:=by rw[List.map_append];rfl
 rw[em]
 have hA1:=hA.setMk (Paired.snoc hr hA.mks)
 have k1:Kp (lvP g i) w H w (upd H A.m (.lst ((A.ms++[r]).map V.ref))):=(Kp.refl ok).write hA.tmk ⟨4,rfl⟩
 revert hA1 k1
 generalize upd H A.m (.lst ((A.ms++[r]).map V.ref))=H1
 intro hA1 k1
 refine⟨_,rfl,kO hA1.ins T ⟨.inl ⟨rfl,_,SqL.of hA1.dn⟩,A.dn,_,_,rfl,rfl,hA1.dn,by rw[zR];exact yJ (by show L.done.length<=1000;omega),?_⟩⟩
 have ed:iv L.done++[V.int 0]=iv (L.done++[0]):=jE
 show _
 have hA2:=hA1.setDn (l:=L.done++[0])
 have k2:Kp (lvP g i) w H w (upd H1 A.dn (.lst (iv (L.done++[0])))):=k1.write hA.tdn ⟨5,rfl⟩
 rw[<- ed] at hA2 k2
 revert hA2 k2
 show _->_->_
 generalize upd H1 A.dn (.lst (iv L.done++[V.int 0]))=H2
 intro hA2 k2
 have fin:∀H3,Same H2 H3->yY K (za 0) (tC (.bl (L.even && vD row))) "all_even" { nx:=fun σ H'=>yr (yA d.C_Level "join_kin" (qI K d) [] E0 (za 0) (zb (za 1) zd)) (DQ Q) σ H',rt:=Q } [some (.ref a),some (.ref r)] H3:=λH3 s=>by
  have hA3:=hA2.lay s
  have k3:=k2.lay s
  refine⟨_,rfl,a,_,_,_,rfl,hA3.ins,T.cL,T.all_even,uF,?_⟩
  rw[Jy]
  have hA4:=hA3.reIns (L':={ L with makers:=L.makers++[row],done:=L.done++[0],even:=L.even && vD row }) (A':={ A with ms:=A.ms++[r] }) rfl rfl rfl rfl rfl rfl rfl hA3.mkl hA3.tmk hA3.mks hA3.dn hA3.tdn hA3.kn
  have k4:=k3.write (o:=.ins d.C_Level A.dx (lf i { A with ms:=A.ms++[r] } (L.even && vD row))) hA3.tin ⟨0,rfl⟩
  refine⟨_,rfl,a,_,_,rfl,hA4.ins,xy (by simp),_,rfl,?_⟩
  exact⟨a,r,g,i,n,w,_,row,rfl,k4.ok,⟨_,hA4⟩,hr.keep k4 wJ,pm,hn,hk,λw' H' kp hL'=>k w' H' (k4.trans kp) hL'⟩
 refine⟨_,rfl,Xy hA2.ins T ⟨_,rfl,?_⟩⟩
 cases he:L.even with
 |true=>
  rw[he] at fin
  refine yj ⟨_,rfl,r,row,n,rfl,(hr.keep k2 wJ).at_,pm,by omega,λH' s=>?_⟩
  have:=fin H' s
  rw[Bool.true_and] at this
  exact this
 |false=>
  rw[he] at fin
  exact zM (fin H2 (Same.refl _))
theorem zcs(T:Tx K d)(h:qF K d vs H Q E):za9 K d (DQ Q) (start n_Level_take_maker vs) H:=by
 obtain⟨a,r,g,i,n,w,L,row,rfl,ok,⟨A,hA⟩,hr,lp,pm,fx,hn,hm,k⟩:=h
 refine⟨_,rfl,a,_,_,rfl,hA.ins,xy (by simp),_,rfl,?_⟩
 refine⟨a,r,g,i,n,w,L,row,rfl,ok,⟨A,hA⟩,hr,pm,hn,lp.kl,hm,by rw[lp.dl];exact hm,λw1 H1 k1 hL1=>?_⟩
 obtain⟨A1,hA1⟩:=hL1
 refine⟨_,rfl,a,_,_,rfl,hA1.ins,xy (by simp),?_⟩
 have lp1:LvPre n i (Lv.noted L row):=by
  have hm':∀m,m∈L.makers++[row]->Pm n m:=λm h=>by
   rcases List.mem_append.mp h with h|h
   .exact lp.pms m h
   .rw[List.mem_singleton.mp h];exact pm
  refine⟨lp.wf,λm h=>⟨hm' m h,?_⟩,λx t h=>Made.mono hm' (λq hq=>Made.gen hm' (List.mem_append_left _ hq)) (lp.outm x t h),?_,λx h=>?_,?_,JO lp.kl pm lp.pms lp.kn,?_⟩
  .rcases List.mem_append.mp h with h|h
   .exact(lp.mks m h).2
   .rw[List.mem_singleton.mp h];exact fx
  .show(L.done++[0]).length=(L.makers++[row]).length
   rw[List.length_append,List.length_append,lp.dl];rfl
  .rcases List.mem_append.mp h with h|h
   .exact lp.db x h
   .rw[List.mem_singleton.mp h];exact Nat.zero_le _
  .show(yS L.kin row).length=n
   rw[JN];exact lp.kl
  .show(L.even && vD row)=(L.makers++[row]).all λm=>inversions m % 2 == 0
   rw[List.all_append,<- lp.ev]
   simp[vD]
 exact⟨a,g,i,n,w1,_,rfl,k1.ok,⟨A1,hA1⟩,lp1,hn,λext ok' w' H' kp hL'=>k ext ok' w' H' (k1.trans kp) hL'⟩
theorem zct(T:Tx K d)(h:qG K d vs H Q E):zba K d (DQ Q) (start n_Level_skip_untried vs) H:=by
 obtain⟨a,g,i,w,L,rfl,ok,⟨A,hA⟩,hm,k⟩:=h
 refine⟨_,rfl,ww hA.ins T ⟨A.r,_,rfl,.inl (SqL.of hA.re),?_⟩⟩
 refine⟨by show 1<=sizeLine;exact yP (by omega),λz hz=>?_⟩
 have hA1:=hA.lay (same_upd (o:=.lst [.int ((iv (keys L.out)).length:Nat)]) hz)
 refine⟨_,rfl,vz hA1.ins T ⟨A.m,_,rfl,.inl (SqL.of hA1.mkl),z,_,_,rfl,rfl,zj,?_,?_,?_,λb hb=>?_⟩⟩
 .omega
 .rw[List.length_map,hA.mks.length];omega
 .rw[List.length_map,hA.mks.length];show 1*_<=_;rw[Nat.one_mul,Int.toNat_natCast];exact yP (by omega)
 have e0:(List.replicate (((A.ms.map V.ref).length:Nat):Int).toNat [V.int ((iv (keys L.out)).length:Nat)]).flatten=iv (List.replicate L.makers.length L.out.length):=by
  rw[Int.toNat_natCast,List.length_map,hA.mks.length,qY,zR,xz]
  unfold iv;rw[List.map_replicate]
 rw[e0]
 have k1:Kp (lvP g i) w H w _:=(Kp.refl ok).lay (same_upd (o:=.lst [.int ((iv (keys L.out)).length:Nat)]) hz)
 have hA2:=hA1.lay (same_upd (o:=.lst (iv (List.replicate L.makers.length L.out.length))) hb)
 have k2:=k1.lay (same_upd (o:=.lst (iv (List.replicate L.makers.length L.out.length))) hb)
 have hb0:H b=none:=(upd_none hb).1
 have wb:w b=none:=ok.free hb0
 have k3:=k2.name (t:=.part g i 5) hb0 zj (λg' z=>by cases z;exact(k2.ok a _ hA.tin).2 g rfl)
 have hA3:=hA2.ownW (t:=.part g i 5) wb
 refine⟨_,rfl,a,_,_,_,rfl,hA3.ins,T.cL,T.done,uF,?_⟩
 rw[zdR]
 exact k _ _ (k3.write hA3.tin ⟨0,rfl⟩) ⟨_,hA3.reIns (L':={ L with done:=List.replicate L.makers.length L.out.length }) (A':={ A with dn:=b }) rfl rfl rfl rfl rfl rfl rfl hA3.mkl hA3.tmk hA3.mks zj y4 hA3.kn⟩
theorem zcu(T:Tx K d)(h:ZU K d vs H Q E):zbb K d (DQ Q) (start n_Level_reach vs) H:=by
 obtain⟨a,g,i,n,w,L,rfl,ok,hL,lp,hn,k⟩:=h
 have hin:i<n:=lp.wf.lt
 have len:∀{T:Tv},WfL n (dn i) i T->T.length<=n:=λ{T} wf=>by
  have:=xW wf.nd (l₂:=List.range n) (λx hx=>by
   obtain⟨⟨x',t⟩,h1,h2⟩:=List.mem_map.mp hx
   subst h2
   exact List.mem_range.mpr (wf.key h1))
  rw[List.length_map,List.length_range] at this
  exact this
 let Cl:Tv->Nat->Prop:=λT kk=>∀q x t m,q<kk->T[q]? = some (x,t)->m∈L.makers->at_ m x∈keys T
 refine Zr (fun σ H'=>∃(kk:Nat)(u v:Option V)(w':Own)(ext:Tv),σ=[some (.ref a),some (.int (kk:Int)),u,v]/\kk<=(L.out++ext).length/\Kp (lvP g i) w H w' H'/\yd d w' H' a g i { L with out:=L.out++ext }/\LvPre n i { L with out:=L.out++ext }/\Cl (L.out++ext) kk)
  (fun σ _=>match σ with|[_,some (.int z),_,_]=>n-z.toNat|_=>0) ⟨0,none,none,w,[],rfl,Nat.zero_le _,Kp.refl ok,by rw[List.append_nil];exact hL,by rw[List.append_nil];exact lp,λq x t m hq=>absurd hq (Nat.not_lt_zero _)⟩ ?_ ?_
 .rintro σ H1 ⟨kk,u,v,w1,ext,rfl,hkk,k1,⟨A,hA⟩,lp1,cl⟩
  refine⟨_,rfl,_,rfl,ww hA.ins T ⟨A.r,_,rfl,.inl (SqL.of hA.re),_,_,rfl,rfl,_,rfl,?_⟩⟩
  rw[zR,xz]
  by_cases q:kk<(L.out++ext).length
  .rw[decide_eq_true (show(kk:Int)<((L.out++ext).length:Nat) by omega)]
   refine yj ?_
   obtain⟨⟨x,t⟩,ex⟩:∃xt,(L.out++ext)[kk]? = some xt:=⟨_,List.getElem?_eq_getElem q⟩
   have hxt:(x,t)∈L.out++ext:=List.mem_of_getElem? ex
   have hkx:kk<(keys (L.out++ext)).length:=by rw[xz];exact q
   have ekx:at_ (keys (L.out++ext)) kk=x:=by
    unfold keys at_;rw[List.getD_eq_getElem?_getD,List.getElem?_map,ex];rfl
   have hxn:x<n:=lp1.wf.key hxt
   have nx:at_ t i=x:=lp1.wf.tk x t hxt
   refine⟨_,rfl,ww hA.ins T ⟨_,rfl,A.r,_,_,_,rfl,rfl,SqL.of hA.re,yC hkx,?_⟩⟩
   rw[ekx]
   refine⟨_,rfl,vz hA.ins T ⟨A.m,rfl,⟨_,SqL.of hA.mkl⟩,?_⟩⟩
   have stay:∀{w2:Own}{H2:Hp},Kp (kpP g i) w1 H1 w2 H2->H2 A.m=some (.lst (A.ms.map V.ref)):=λk2=>k2.hp _ _ hA.mkl λt' ht z=>by
    rw[hA.tmk] at ht;cases ht
    obtain⟨j',e,h1,h2⟩:=z
    injection e with _ _ e
    omega
   refine v4 (K:=K) (a:=A.m) (xs:=A.ms.map V.ref) (λj σ H2=>∃(v3:Option V)(w2:Own)(more:Tv),σ=[some (.ref a),some (.int (kk:Int)),some (.int (x:Int)),v3]/\Kp (kpP g i) w1 H1 w2 H2/\yd d w2 H2 a g i { L with out:=(L.out++ext)++more }/\LvPre n i { L with out:=(L.out++ext)++more }/\∀m,m∈L.makers.take j->at_ m x∈keys ((L.out++ext)++more))
    ⟨v,w1,[],rfl,Kp.refl k1.ok,by rw[List.append_nil];exact⟨A,hA⟩,by rw[List.append_nil];exact lp1,λm hm=>by simp at hm⟩ (λj σ H2 _ ⟨_,_,_,_,k2,_⟩=>SqL.of (stay k2)) ?_ ?_
   .rintro j y σ H2 hy ⟨v3,w2,more,rfl,k2,⟨A2,hA2⟩,lp2,cl2⟩
    obtain⟨c,hc,rfl⟩:∃c,A.ms[j]? = some c/\y=V.ref c:=by
     rw[List.getElem?_map] at hy
     cases e:A.ms[j]? with
     |none=>rw[e] at hy;cases hy
     |some c=>rw[e] at hy;exact⟨c,rfl,(Option.some.inj hy).symm⟩
    obtain⟨m,hm,rm⟩:=Paired.get2 (hA.mks.keep k2 uG) hc
    have mm:m∈L.makers:=List.mem_of_getElem? hm
    have pm:Pm n m:=lp.pms m mm
    have et:L.makers.take (j+1)=L.makers.take j++[m]:=by
     obtain⟨h1,h2⟩:=List.getElem?_eq_some_iff.mp hm
     rw[List.take_succ_eq_append_getElem h1,h2]
    have hxt2:(x,t)∈(L.out++ext)++more:=List.mem_append_left _ hxt
    have lx:((L.out++ext)++more).lookup x=some t:=yN lp2.wf.nd hxt2
    refine⟨_,rfl,_,rfl,c,_,_,_,rfl,rfl,SqL.of rm.at_,yC (by rw[pm.1];exact hxn),_,rfl,vy hA2.ins T ⟨A2.o,_,rfl,DGet.k (k:=Sum.inl ((at_ m x:Nat):Int)) hA2.ou,_,rfl,?_⟩⟩
    cases hl:((L.out++ext)++more).lookup (at_ m x) with
    |some t'=>
     obtain⟨b,e,_⟩:=hA2.oud.get hl
     rw[e]
     refine zM ⟨_,w2,more,rfl,k2,⟨A2,hA2⟩,lp2,λm' hm'=>?_⟩
     rw[et] at hm'
     rcases List.mem_append.mp hm' with h|h
     .exact cl2 m' h
     .rw[List.mem_singleton.mp h]
      exact List.mem_map.mpr ⟨_,wr hl,rfl⟩
    |none=>
     rw[hA2.oud.non hl]
     refine yj ?_
     obtain⟨b,eb,rb⟩:=hA2.oud.get lx
     have pt:Pm n t:=lp2.wf.pm x t hxt2
     refine⟨_,rfl,a,_,_,rfl,hA2.ins,xy (by simp),_,rfl,vy hA2.ins T ⟨_,rfl,A2.o,.ref b,rfl,?_,_,rfl,?_⟩⟩
     .rw[<- eb];exact DGet.k (k:=Sum.inl (x:Int)) hA2.ou
     refine⟨b,c,t,m,rfl,rb.at_,rm.at_,λz hz=>by rw[pm.1];exact pt.lt hz,by rw[pt.1];omega,λH3 l s3 hl3 hl3'=>?_⟩
     have hl2:w2 l=none:=k2.ok.free hl3
     have k3:Kp (kpP g i) w2 H2 (own w2 l .row) H3:=((Kp.refl k2.ok).lay s3).name (t:=.row) hl3 hl3' (λg z=>by cases z)
     have hA3:zW d (own w2 l .row) H3 a g i _ A2:=(hA2.lay s3).ownW hl2
     have en:at_ (then_ t m) i=at_ m x:=by rw[zJ (by rw[pt.1];exact hin),nx]
     have hnk:at_ m x∉keys ((L.out++ext)++more):=uE.mp hl
     have lp3:=lp2.keep hxt2 mm hnk
     refine⟨a,l,g,i,n,own w2 l .row,_,then_ t m,rfl,k3.ok,⟨A2,hA3⟩,⟨hl3',y4⟩,pt.then pm,hin,hn,by rw[en];exact hnk,?_,λw4 H4 k4 hL4=>?_⟩
     .have:((L.out++ext)++more).length<=n:=len lp2.wf
      show((L.out++ext)++more).length<=500
      omega
     rw[en] at hL4
     have ea:(L.out++ext)++more++[(at_ m x,then_ t m)]=(L.out++ext)++(more++[(at_ m x,then_ t m)]):=by rw[List.append_assoc]
     refine⟨_,w4,more++[(at_ m x,then_ t m)],rfl,(k2.trans k3).trans k4,?_,?_,λm' hm'=>?_⟩
     .rw[<- ea];exact hL4
     .rw[<- ea];exact lp3
     .rw[<- ea,kK,List.mem_append]
      rw[et] at hm'
      rcases List.mem_append.mp hm' with h|h
      .exact .inl (cl2 m' h)
      .rw[List.mem_singleton.mp h];exact .inr (List.mem_singleton.mpr rfl)
   .rintro σ H2 ⟨v3,w2,more,rfl,k2,hL2,lp2,cl2⟩
    refine⟨_,rfl,_,_,rfl,rfl,?_⟩
    have ea:(L.out++ext)++more=L.out++(ext++more):=by rw[List.append_assoc]
    rw[ea] at hL2 lp2
    have hl2:=len lp2.wf
    have hll:kk+1<=(L.out++(ext++more)).length:=by
     rw[<- ea,List.length_append];omega
    refine⟨⟨kk+1,_,_,w2,ext++more,rfl,hll,k1.trans (k2.mono JG),hL2,lp2,λq' x' t' m hq' e' hm=>?_⟩,?_⟩
    .rw[<- ea] at e' ⊢
     by_cases z:q'=kk
     .subst z
      rw[List.getElem?_append_left q,ex] at e'
      cases e'
      refine cl2 m ?_
      rw[List.length_map,hA.mks.length,List.take_length];exact hm
     .rw[List.getElem?_append_left (by omega)] at e'
      have:=cl q' x' t' m (by omega) e' hm
      unfold keys at this ⊢
      rw[List.map_append]
      exact List.mem_append_left _ this
    .show n-((kk:Int)+1).toNat<n-(kk:Int).toNat
     have:(L.out++(ext++more)).length<=n:=hl2
     omega
  .rw[decide_eq_false (show ¬(kk:Int)<((L.out++ext).length:Nat) by omega)]
   refine zM ?_
   refine k ext ⟨lp1,λx t m hx hm=>?_⟩ w1 H1 k1 ⟨A,hA⟩
   obtain⟨q',hq',e⟩:=List.getElem_of_mem hx
   have hq2:q'<(L.out++ext).length:=hq'
   exact cl q' x t m (by show q'<kk;omega) (by rw[List.getElem?_eq_getElem hq',e]) hm
 .exact vI.test (.op .i0 (.var _) (.cb .len (.cons (.fld (.var _)) .nil)))
theorem zcr(T:Tx K d)(h:vg K d vs H Q E):za8 K d (DQ Q) (start n_Level_untried vs) H:=by
 obtain⟨a,g,i,n,w,L,rfl,ok,⟨A,hA⟩,lp,hn,hm,kN,kS⟩:=h
 have hin:i<n:=lp.wf.lt
 refine Zr (fun σ H'=>H'=H/\∃(kk:Nat)(u:Option V),σ=[some (.ref a),some (.int (kk:Int)),u]/\kk<=L.makers.length/\∀k,k<kk->L.done.getD k 0=L.out.length)
  (fun σ _=>match σ with|[_,some (.int z),_]=>L.makers.length-z.toNat|_=>0) ⟨rfl,0,none,rfl,Nat.zero_le _,λk hk=>absurd hk (Nat.not_lt_zero _)⟩ ?_ ?_
 .rintro σ H1 ⟨rfl,kk,u,rfl,hkk,hd⟩
  have fin:∀u:Option V,(kk=L.makers.length∨L.done.getD kk 0<L.out.length) ->
   (zg (zY (ya (tOp rEq (za 1) (tCB (zZ K) (zb (zt K (za 0) "makers") zd)))) (zE (tC .non)) z7)
   (zg (zn (tOp (zu K) (zt K (za 0) "reached") (tOp (zu K) (zt K (za 0) "done") (za 1))) (zl 2))
   (zg (ZF (zt K (za 0) "done") (za 1) (tC (.int 1)) (YH K) (ipI λi j=>i+j) xS)
   (zE (zy (yR K d) [] E0 (zb (yB (zt K (za 0) "out") (za 2)) (zb (tOp (zu K) (zt K (za 0) "makers") (za 1)) zd))))))) (DQ Q) [some (.ref a),some (.int (kk:Int)),u] H1:=λu hor=>by
   refine⟨_,rfl,_,rfl,vz hA.ins T ⟨A.m,_,rfl,.inl (SqL.of hA.mkl),rfl,_,rfl,?_⟩⟩
   rw[List.length_map,hA.mks.length]
   refine jK (λq=>?_) (λq=>?_)
   .exact kN (λk hk=>hd k (by omega)) H1 (Same.refl _)
   .have hlt:L.done.getD kk 0<L.out.length:=by
     rcases hor with h|h
     .exact absurd (by rw[h]) q
     .exact h
    have hkm:kk<L.makers.length:=by omega
    have hkd:kk<L.done.length:=by rw[lp.dl];exact hkm
    obtain⟨⟨x,t⟩,ex⟩:∃xt,L.out[L.done.getD kk 0]? = some xt:=⟨_,List.getElem?_eq_getElem hlt⟩
    obtain⟨m,em⟩:∃m,L.makers[kk]? = some m:=⟨_,List.getElem?_eq_getElem hkm⟩
    have hxt:(x,t)∈L.out:=List.mem_of_getElem? ex
    have pt:Pm n t:=lp.wf.pm x t hxt
    have pm:Pm n m:=lp.pms m (List.mem_of_getElem? em)
    have ek:at_ (keys L.out) (at_ L.done kk)=x:=by
     show(List.map Prod.fst L.out).getD (L.done.getD kk 0) 0=x
     rw[List.getD_eq_getElem?_getD,List.getElem?_map,ex];rfl
    refine⟨_,rfl,ww hA.ins T ⟨_,rfl,kO hA.ins T ⟨_,rfl,A.dn,_,_,_,rfl,rfl,SqL.of hA.dn,yC hkd,A.r,_,_,_,rfl,rfl,SqL.of hA.re,yC (by rw[xz];exact hlt),?_⟩⟩⟩
    rw[ek]
    refine⟨_,rfl,kO hA.ins T ⟨_,rfl,A.dn,_,kk,_,rfl,rfl,SqL.of hA.dn,uJ hkd,_,_,rfl,rfl,A.dn,_,_,kk,rfl,rfl,hA.dn,vY (by rw[zR];exact hkd),?_⟩⟩
    have es:(iv L.done).set kk (V.int (((at_ L.done kk:Nat):Int)+1))=iv (L.done.set kk (L.done.getD kk 0+1)):=kM
    show _
    have hA1:=hA.setDn (l:=L.done.set kk (L.done.getD kk 0+1))
    have k1:Kp (lvP g i) w H1 w (upd H1 A.dn (.lst (iv (L.done.set kk (L.done.getD kk 0+1))))):=(Kp.refl ok).write hA.tdn ⟨5,rfl⟩
    rw[<- es] at hA1 k1
    revert hA1 k1
    generalize upd H1 A.dn (.lst ((iv L.done).set kk (V.int (((at_ L.done kk:Nat):Int)+1))))=H2
    intro hA1 k1
    obtain⟨b,eb,rb⟩:=hA1.oud.get (x:=x) (t:=t) (yN lp.wf.nd hxt)
    obtain⟨c,ec,rc⟩:=Paired.get1 hA1.mks em
    refine⟨_,rfl,vy hA1.ins T ⟨_,rfl,A.o,.ref b,rfl,?_,_,rfl,vz hA1.ins T ⟨_,rfl,A.m,_,_,.ref c,rfl,rfl,SqL.of hA1.mkl,uT (by rw[List.getElem?_map,ec];rfl),?_⟩⟩⟩
    .rw[<- eb];exact DGet.k (k:=Sum.inl (x:Int)) hA1.ou
    refine⟨b,c,t,m,rfl,rb.at_,rc.at_,λz hz=>by rw[pm.1];exact pt.lt hz,by rw[pt.1];omega,λH3 l s3 hl3 hl3'=>?_⟩
    have wl:w l=none:=k1.ok.free hl3
    have k3:=(k1.lay s3).name (t:=.row) (k1.free hl3) hl3' (λg z=>by cases z)
    exact kS kk m x t em ex _ _ l k3 ⟨A,(hA1.lay s3).ownW wl⟩ ⟨hl3',y4⟩
  refine⟨_,rfl,_,rfl,vz hA.ins T ⟨A.m,_,rfl,.inl (SqL.of hA.mkl),_,_,rfl,rfl,_,rfl,?_⟩⟩
  rw[List.length_map,hA.mks.length]
  refine vW (λq=>?_) (λq=>zM (fin u (.inl (by omega))))
  have hkm:kk<L.makers.length:=by omega
  have hkd:kk<L.done.length:=by rw[lp.dl];exact hkm
  refine⟨_,rfl,kO hA.ins T ⟨_,rfl,A.dn,_,_,_,rfl,rfl,SqL.of hA.dn,yC hkd,_,rfl,ww hA.ins T ⟨A.r,_,rfl,.inl (SqL.of hA.re),rfl,_,rfl,?_⟩⟩⟩
  rw[zR,xz]
  have hle:L.done.getD kk 0<=L.out.length:=lp.db _ (by
   rw[List.getD_eq_getElem?_getD,List.getElem?_eq_getElem hkd];exact List.getElem_mem hkd)
  refine jK (λq2=>?_) (λq2=>?_)
  .have q3:L.done.getD kk 0=L.out.length:=Int.ofNat_inj.mp q2
   refine⟨_,rfl,_,_,rfl,rfl,⟨rfl,kk+1,u,rfl,hkm,λk hk=>?_⟩,?_⟩
   .by_cases z:k=kk
    .rw[z];exact q3
    .exact hd k (by omega)
   .show L.makers.length-((kk:Int)+1).toNat<L.makers.length-(kk:Int).toNat
    omega
  .refine fin u (.inr ?_)
   have q3:¬L.done.getD kk 0=L.out.length:=λz=>q2 (by show((L.done.getD kk 0:Nat):Int)=_;rw[z])
   omega
 .exact vI.and (.test (.op .i0 (.var _) (.cb .len (.cons (.fld (.var _)) .nil)))) (.test (.op .eq (.op .ix (.fld (.var _)) (.var _)) (.cb .len (.cons (.fld (.var _)) .nil))))
def xJ(l:List Nat)(c:Nat):Nat:=(l.filter λv=>v == c).length
theorem XQ{l:List Nat}{x c:Nat}:xJ (l++[x]) c=xJ l c+if x=c then 1 else 0:=by
 unfold xJ
 rw[List.filter_append,List.length_append]
 by_cases q:x=c
 .rw[if_pos q];simp[q]
 .rw[if_neg q];simp[q]
theorem zfi{l:List Nat}{n c:Nat}(h:n<=l.length):((List.range n).filter λj=>at_ l j == c).length=xJ (l.take n) c:=by
 induction n with
 |zero=>rfl
 |succ n ih=>
  rw[List.range_succ,List.filter_append,List.length_append,ih (by omega),List.take_succ_eq_append_getElem (by omega),XQ,<- yk]
  congr 1
  by_cases q:at_ l n=c
  .rw[if_pos q];simp[q]
  .rw[if_neg q];simp[q]
theorem zdw{l:List Nat}{j:Nat}(h:j<l.length):yH (at_ l) (j+1)=yH (at_ l) j*(xJ (l.take j) (at_ l j)+1):=by
 show yH (at_ l) j*((List.range (j+1)).filter λi=>at_ l i == at_ l j).length=_
 rw[zfi (by omega),List.take_succ_eq_append_getElem h,XQ,<- yk h,if_pos rfl]
theorem zcw(T:Tx K d)(h:ZV K d vs H Q E):zbd K d (DQ Q) (start n_Level_most_members vs) H:=by
 obtain⟨a,g,i,n,w,L,rfl,⟨A,hA⟩,hk,hn,k⟩:=h
 intro D hD
 have s1:Same H (upd H D (.dK [])):=same_upd hD
 refine⟨_,rfl,vA (s1 _ _ hA.ins) T ⟨A.k,rfl,⟨_,SqL.of (s1 _ _ hA.kn.at_)⟩,?_⟩⟩
 refine v4 (K:=K) (a:=A.k) (xs:=iv L.kin) (λj σ H'=>∃(u:Option V)(kvs:List (Key×V)),σ=[some (.ref a),some (.int ((yH (at_ L.kin) j:Nat):Int)),some (.ref D),u]/\Same H H'/\H' D=some (.dK kvs)/\kvs.length<=j/\∀c:Nat,zX kvs (Sum.inl (c:Int))=if xJ (L.kin.take j) c=0 then none else some (.int ((xJ (L.kin.take j) c:Nat):Int)))
  ⟨none,[],rfl,s1,zj,Nat.le_refl _,λc=>rfl⟩ (λj σ H' _ ⟨_,_,_,s2,_⟩=>SqL.of (s2 _ _ hA.kn.at_)) ?_ ?_
 .rintro j y σ H' hy ⟨u,kvs,rfl,s2,hD2,hl,hv⟩
  obtain⟨hj,rfl⟩:=vv hy
  refine⟨_,rfl,D,rfl,.inl ⟨_,.inl hD2⟩,_,rfl,_,DGet.k (k:=Sum.inl ((at_ L.kin j:Nat):Int)) hD2,?_⟩
  have e1:(zX kvs (Sum.inl ((at_ L.kin j:Nat):Int))).getD (.int 0)=.int ((xJ (L.kin.take j) (at_ L.kin j):Nat):Int):=by
   rw[hv];split
   .next z=>rw[z];rfl
   .rfl
  rw[e1]
  refine⟨_,_,rfl,rfl,_,rfl,_,rfl,D,_,rfl,DPut.k (k:=Sum.inl ((at_ L.kin j:Nat):Int)) hD2 (yJ (by omega)),?_⟩
  refine⟨_,rfl,_,rfl,_,rfl,D,.int ((xJ (L.kin.take j) (at_ L.kin j):Nat)+1:Int),rfl,?_,_,_,rfl,rfl,?_,?_⟩
  .have e:=DGet.k (H:=upd H' D (.dK (yp kvs (Sum.inl ((at_ L.kin j:Nat):Int)) (.int (((xJ (L.kin.take j) (at_ L.kin j):Nat):Int)+1))))) (k:=Sum.inl ((at_ L.kin j:Nat):Int)) zj
   rw[Wf,if_pos rfl] at e
   exact e
  .refine .inr ⟨?_,?_⟩
   .omega
   .have:xJ (L.kin.take j) (at_ L.kin j)<=j:=by
     unfold xJ
     exact Nat.le_trans (List.length_filter_le _ _) (by rw[List.length_take];omega)
    omega
  .refine⟨some (.int ((at_ L.kin j:Nat):Int)),_,?_,s2.upd hD,zj,?_,λc=>?_⟩
   .rw[zdw hj,Int.natCast_mul];rfl
   .have:=kI kvs (Sum.inl ((at_ L.kin j:Nat):Int)) (V.int (((xJ (L.kin.take j) (at_ L.kin j):Nat):Int)+1))
    exact Nat.le_trans this (by omega)
   .have et:L.kin.take (j+1)=L.kin.take j++[at_ L.kin j]:=by rw[List.take_succ_eq_append_getElem hj,yk hj]
    rw[Wf,et,XQ]
    by_cases z:c=at_ L.kin j
    .subst z;rw[if_pos rfl,if_pos rfl,if_neg (by omega)];rfl
    .rw[if_neg (λq=>z (Int.ofNat_inj.mp (Sum.inl.inj q))),show(if at_ L.kin j=c then 1 else 0)=0 from if_neg (λq=>z q.symm),hv,Nat.add_zero]
 .rintro σ H' ⟨u,kvs,rfl,s2,hD2,hl,hv⟩
  rw[zR,hk]
  have fin:=k H' s2
  unfold most at fin
  refine⟨_,rfl,Xy (s2 _ _ hA.ins) T ⟨_,rfl,?_⟩⟩
  cases he:L.even with
  |false=>
   rw[he,if_neg (by simp)] at fin
   exact zM (zM ⟨_,rfl,fin⟩)
  |true=>
   rw[he] at fin
   refine yj ⟨_,rfl,_,_,rfl,rfl,_,rfl,?_⟩
   by_cases z:1<yH (at_ L.kin) n
   .rw[if_pos ⟨rfl,z⟩] at fin
    rw[decide_eq_true (show(1:Int)<((yH (at_ L.kin) n:Nat):Int) by omega)]
    refine yj ⟨_,rfl,_,_,rfl,rfl,y8.of (by decide) (by decide),?_⟩
    exact fin
   .rw[if_neg (λq=>z q.2)] at fin
    rw[decide_eq_false (show ¬(1:Int)<((yH (at_ L.kin) n:Nat):Int) by omega)]
    exact zM ⟨_,rfl,fin⟩
theorem merge1{k:Key}{v:V}:uA [] [(k,v)]=[(k,v)]:=rfl
theorem zcz(T:Tx K d)(h:ZW K d vs H Q E):zbg K d (DQ Q) (start n_Level_init vs) H:=by
 obtain⟨x,dx,z,i,n,g,w,rfl,hx,wx,ok,hg,hz,hi,k⟩:=h
 have zx:z≠x:=xj hz.at_ hx (by intro q;cases q)
 refine⟨_,rfl,_,rfl,x,_,_,_,rfl,hx,T.cL,T.point,by show 0<1000;decide,?_⟩
 have a0:upd H x (.ins d.C_Level dx (zp ("point":Str) (.int i) [])) x=some (.ins d.C_Level dx (zp ("point":Str) (.int i) [])):=zj
 have z0:zQ w (upd H x (.ins d.C_Level dx (zp ("point":Str) (.int i) []))) z (none_ n):=⟨by show upd _ _ _ _=_;rw[zh zx];exact hz.at_,hz.tag⟩
 have g0:∃o,upd H x (.ins d.C_Level dx (zp ("point":Str) (.int i) [])) g=some o:=yM hg
 have ok0:zS w (upd H x (.ins d.C_Level dx (zp ("point":Str) (.int i) []))):=ok.upd
 have c0:∀b o,H b=some o->b≠x->upd H x (.ins d.C_Level dx (zp ("point":Str) (.int i) [])) b=some o:=λb o e ne=>by rw[zh ne];exact e
 revert a0 z0 g0 ok0 c0
 generalize upd H x (.ins d.C_Level dx (zp ("point":Str) (.int i) []))=H0
 intro a0 z0 g0 ok0 c0
 refine⟨_,rfl,by show 1<=sizeLine;exact yP (by omega),λr hr=>?_⟩
 refine⟨_,rfl,x,_,_,_,rfl,by rw[zh (zw a0 hr)];exact a0,T.cL,T.reached,by show 1<1000;decide,?_⟩
 have s1:=Stp.mk' (v:=.lst [.int i]) (o:=.ins d.C_Level dx (zp ("reached":Str) (.ref r) (zp ("point":Str) (.int i) []))) (t:=.part g i 1) ok0 a0 hr (λg' z=>by cases z;exact g0)
 revert s1
 generalize own w r (.part g i 1)=w1
 generalize upd (upd H0 r (.lst [.int i])) x (.ins d.C_Level dx (zp ("reached":Str) (.ref r) (zp ("point":Str) (.int i) [])))=H1
 intro s1
 have z1:zQ w1 H1 z (none_ n):=⟨(s1.kp z _ z0.at_ zx).1,by rw[(s1.kp z _ z0.at_ zx).2];exact z0.tag⟩
 have g1:∃o,H1 g=some o:=let ⟨o,e⟩:=g0;s1.th g o e
 refine λo ho=>⟨_,rfl,_,rfl,zj,[(Sum.inl (i:Int),.ref z)],rfl,by show 1<=15;decide,?_⟩
 rw[uZ,merge1]
 refine⟨_,rfl,x,_,_,_,rfl,by rw[zh (zw s1.xx ho)];exact s1.xx,T.cL,T.out,by show 2<1000;decide,?_⟩
 have s2:=Stp.mk' (v:=.dK [(Sum.inl (i:Int),.ref z)]) (o:=.ins d.C_Level dx (zp ("out":Str) (.ref o) (zp ("reached":Str) (.ref r) (zp ("point":Str) (.int i) [])))) (t:=.part g i 2) s1.ok s1.xx ho (λg' z=>by cases z;exact g1)
 revert s2
 generalize own w1 o (.part g i 2)=w2
 generalize upd (upd H1 o (.dK [(Sum.inl (i:Int),.ref z)])) x (.ins d.C_Level dx (zp ("out":Str) (.ref o) (zp ("reached":Str) (.ref r) (zp ("point":Str) (.int i) []))))=H2
 intro s2
 have z2:zQ w2 H2 z (none_ n):=⟨(s2.kp z _ z1.at_ zx).1,by rw[(s2.kp z _ z1.at_ zx).2];exact z1.tag⟩
 have g2:∃o,H2 g=some o:=let ⟨o,e⟩:=g1;s2.th g o e
 refine λb hb=>⟨_,rfl,_,rfl,zj,[(Sum.inl (i:Int),.ref z)],rfl,by show 1<=15;decide,?_⟩
 rw[uZ,merge1]
 refine⟨_,rfl,x,_,_,_,rfl,by rw[zh (zw s2.xx hb)];exact s2.xx,T.cL,T.back,by show 3<1000;decide,?_⟩
 have s3:=Stp.mk' (v:=.dK [(Sum.inl (i:Int),.ref z)]) (o:=.ins d.C_Level dx (zp ("back":Str) (.ref b) (zp ("out":Str) (.ref o) (zp ("reached":Str) (.ref r) (zp ("point":Str) (.int i) []))))) (t:=.part g i 3) s2.ok s2.xx hb (λg' z=>by cases z;exact g2)
 revert s3
 generalize own w2 b (.part g i 3)=w3
 generalize upd (upd H2 b (.dK [(Sum.inl (i:Int),.ref z)])) x (.ins d.C_Level dx (zp ("back":Str) (.ref b) (zp ("out":Str) (.ref o) (zp ("reached":Str) (.ref r) (zp ("point":Str) (.int i) [])))))=H3
 intro s3
 have z3:zQ w3 H3 z (none_ n):=⟨(s3.kp z _ z2.at_ zx).1,by rw[(s3.kp z _ z2.at_ zx).2];exact z2.tag⟩
 have g3:∃o,H3 g=some o:=let ⟨o,e⟩:=g2;s3.th g o e
 refine⟨by show 0<=sizeLine;exact Nat.zero_le _,λm hm=>?_⟩
 refine⟨_,rfl,x,_,_,_,rfl,by rw[zh (zw s3.xx hm)];exact s3.xx,T.cL,T.makers,by show 4<1000;decide,?_⟩
 have s4:=Stp.mk' (v:=.lst []) (o:=.ins d.C_Level dx (zp ("makers":Str) (.ref m) (zp ("back":Str) (.ref b) (zp ("out":Str) (.ref o) (zp ("reached":Str) (.ref r) (zp ("point":Str) (.int i) [])))))) (t:=.part g i 4) s3.ok s3.xx hm (λg' z=>by cases z;exact g3)
 revert s4
 generalize own w3 m (.part g i 4)=w4
 generalize upd (upd H3 m (.lst [])) x (.ins d.C_Level dx (zp ("makers":Str) (.ref m) (zp ("back":Str) (.ref b) (zp ("out":Str) (.ref o) (zp ("reached":Str) (.ref r) (zp ("point":Str) (.int i) []))))))=H4
 intro s4
 have z4:zQ w4 H4 z (none_ n):=⟨(s4.kp z _ z3.at_ zx).1,by rw[(s4.kp z _ z3.at_ zx).2];exact z3.tag⟩
 have g4:∃o,H4 g=some o:=let ⟨o,e⟩:=g3;s4.th g o e
 refine⟨by show 0<=sizeLine;exact Nat.zero_le _,λdn hdn=>?_⟩
 refine⟨_,rfl,x,_,_,_,rfl,by rw[zh (zw s4.xx hdn)];exact s4.xx,T.cL,T.done,by show 5<1000;decide,?_⟩
 have s5:=Stp.mk' (v:=.lst []) (o:=.ins d.C_Level dx (zp ("done":Str) (.ref dn) (zp ("makers":Str) (.ref m) (zp ("back":Str) (.ref b) (zp ("out":Str) (.ref o) (zp ("reached":Str) (.ref r) (zp ("point":Str) (.int i) []))))))) (t:=.part g i 5) s4.ok s4.xx hdn (λg' z=>by cases z;exact g4)
 revert s5
 generalize own w4 dn (.part g i 5)=w5
 generalize upd (upd H4 dn (.lst [])) x (.ins d.C_Level dx (zp ("done":Str) (.ref dn) (zp ("makers":Str) (.ref m) (zp ("back":Str) (.ref b) (zp ("out":Str) (.ref o) (zp ("reached":Str) (.ref r) (zp ("point":Str) (.int i) [])))))))=H5
 intro s5
 have z5:zQ w5 H5 z (none_ n):=⟨(s5.kp z _ z4.at_ zx).1,by rw[(s5.kp z _ z4.at_ zx).2];exact z4.tag⟩
 refine⟨_,rfl,z,_,rfl,.inl (SqL.of z5.at_),λkn hkn=>?_⟩
 refine⟨_,rfl,x,_,_,_,rfl,by rw[zh (zw s5.xx hkn)];exact s5.xx,T.cL,T.kin,by show 6<1000;decide,?_⟩
 have s6:=Stp.mk' (v:=.lst (iv (none_ n))) (o:=.ins d.C_Level dx (zp ("kin":Str) (.ref kn) (zp ("done":Str) (.ref dn) (zp ("makers":Str) (.ref m) (zp ("back":Str) (.ref b) (zp ("out":Str) (.ref o) (zp ("reached":Str) (.ref r) (zp ("point":Str) (.int i) [])))))))) (t:=.row) s5.ok s5.xx hkn (λg' z=>by cases z)
 revert s6
 generalize own w5 kn .row=w6
 generalize upd (upd H5 kn (.lst (iv (none_ n)))) x (.ins d.C_Level dx (zp ("kin":Str) (.ref kn) (zp ("done":Str) (.ref dn) (zp ("makers":Str) (.ref m) (zp ("back":Str) (.ref b) (zp ("out":Str) (.ref o) (zp ("reached":Str) (.ref r) (zp ("point":Str) (.int i) []))))))))=H6
 intro s6
 have z6:zQ w6 H6 z (none_ n):=⟨(s6.kp z _ z5.at_ zx).1,by rw[(s6.kp z _ z5.at_ zx).2];exact z5.tag⟩
 refine⟨_,rfl,x,_,_,_,rfl,s6.xx,T.cL,T.all_even,by show 7<1000;decide,?_⟩
 rw[zdU (x:=dx)]
 have wx6:w6 x=none:=by rw[s6.wx,s5.wx,s4.wx,s3.wx,s2.wx,s1.wx];exact wx
 have e5:=λ{b:Addr}{u:HO}(e:H5 b=some u)(ne:b≠x)=>s6.kp b u e ne
 have e4:=λ{b:Addr}{u:HO}(e:H4 b=some u)(ne:b≠x)=>let q:=s5.kp b u e ne;let q2:=e5 q.1 ne;(⟨q2.1,q2.2.trans q.2⟩:H6 b=some u/\w6 b=w4 b)
 have e3:=λ{b:Addr}{u:HO}(e:H3 b=some u)(ne:b≠x)=>let q:=s4.kp b u e ne;let q2:=e4 q.1 ne;(⟨q2.1,q2.2.trans q.2⟩:H6 b=some u/\w6 b=w3 b)
 have e2:=λ{b:Addr}{u:HO}(e:H2 b=some u)(ne:b≠x)=>let q:=s3.kp b u e ne;let q2:=e3 q.1 ne;(⟨q2.1,q2.2.trans q.2⟩:H6 b=some u/\w6 b=w2 b)
 have e1:=λ{b:Addr}{u:HO}(e:H1 b=some u)(ne:b≠x)=>let q:=s2.kp b u e ne;let q2:=e2 q.1 ne;(⟨q2.1,q2.2.trans q.2⟩:H6 b=some u/\w6 b=w1 b)
 have e0:=λ{b:Addr}{u:HO}(e:H0 b=some u)(ne:b≠x)=>let q:=s1.kp b u e ne;let q2:=e1 q.1 ne;(⟨q2.1,q2.2.trans q.2⟩:H6 b=some u/\w6 b=w b)
 let Hf:=upd H6 x (.ins d.C_Level dx (lf i ⟨dx,r,o,b,m,dn,kn,[],[],[]⟩ true))
 have fin:∀{b:Addr}{u:HO}{t:Option Tag},H6 b=some u/\w6 b=t->b≠x->Hf b=some u/\own w6 x (.part g i 0) b=t:=λe ne=>⟨by show upd _ _ _ _=_;rw[zh ne];exact e.1,by rw[wW ne];exact e.2⟩
 have zf:=fin ⟨z6.at_,z6.tag⟩ zx
 have rz:zQ (own w6 x (.part g i 0)) Hf z (none_ n):=⟨zf.1,zf.2⟩
 have hgf:∃o,Hf g=some o:=yM (let ⟨o,e⟩:=g4;let ⟨o2,e2⟩:=s5.th g o e;s6.th g o2 e2)
 refine k (own w6 x (.part g i 0)) Hf (λb' u e ne=>fin (e0 (c0 b' u e ne) ne) ne) (λb' t' e=>?_) ⟨⟨dx,r,o,b,m,dn,kn,[(Sum.inl (i:Int),.ref z)],[(Sum.inl (i:Int),.ref z)],[]⟩,?_⟩
 .by_cases q:b'=x
  .subst q
   rw[y4] at e;cases e
   exact⟨⟨_,zj⟩,λg' z=>by cases z;exact hgf⟩
  .rw[wW q] at e
   exact s6.ok.upd b' t' e
 .have fr:=fin (e1 s1.at_ s1.nx) s1.nx
  have fo:=fin (e2 s2.at_ s2.nx) s2.nx
  have fb:=fin (e3 s3.at_ s3.nx) s3.nx
  have fm:=fin (e4 s4.at_ s4.nx) s4.nx
  have fd:=fin (e5 s5.at_ s5.nx) s5.nx
  have fk:=fin ⟨s6.at_,rfl⟩ s6.nx
  refine⟨zj,y4,fr.1,by rw[fr.2];exact s1.tg,fo.1,by rw[fo.2];exact s2.tg,.cons ⟨rfl,z,rfl,rz⟩ .nil,fb.1,by rw[fb.2];exact s3.tg,.cons ⟨rfl,z,rfl,?_⟩ .nil,fm.1,by rw[fm.2];exact s4.tg,.nil,fd.1,by rw[fd.2];exact s5.tg,⟨fk.1,by rw[fk.2];exact s6.tg⟩⟩
  show zQ _ _ z (inv (none_ n))
  have:inv (none_ n)=none_ n:=(JY Pm.none Pm.none (yL Pm.none)).symm
  rw[this];exact rz
end
end Gd
end
section
set_option Elab.async false
set_option autoImplicit false
set_option linter.all false
set_option maxRecDepth 100000
set_option maxHeartbeats 2000000
namespace Gd
open PySem PyProof.Rows L2 GP
open Md07 (Row then_ none_ at_ isPerm inversions)
def ZX(_:PySem.W.Frag)(d:Ad):Sp:=λvs H Q _=>∃(a kd b:Addr)(g i n:Nat)(w:Own)(T:Tv)(B:Lv)(kvs:List (Key×V)),vs=[.ref a,.ref kd,.ref b]/\zS w H/\yd d w H a g i (xG n i)/\H kd=some (.dK kvs)/\DictAt w H kvs T/\(∀t,w kd=some t->t≠.row/\∀k,t≠.part g i k) /\
 yd d w H b g (i+1) B/\WfL n (dn i) i T/\LvOk n (i+1) B/\vc n B/\Two n B.makers/\n<=34/\uD d w H a g i (v5 n i T B) Q
structure yE(d:Ad)(w:Own)(H:Hp)(l:Addr)(Ls:List Lv)(as:List Addr):Prop where
 lst:H l=some (.lst (as.map V.ref))
 tag:w l=some (.lvs l)
 len:as.length=Ls.length
 at_:∀(i:Nat)(a:Addr)(L:Lv),as[i]? = some a->Ls[i]? = some L->yd d w H a l i L
def zI(d:Ad)(w:Own)(H:Hp)(l:Addr)(Ls:List Lv):Prop:=∃as,yE d w H l Ls as
def grP(g:Nat):Tag->Prop:=λt=>∃i k,t=.part g i k
theorem J7{g:Nat}:¬grP g .row:=λ⟨_,_,h⟩=>by cases h
theorem zey{g l:Nat}:¬grP g (.lvs l):=λ⟨_,_,h⟩=>by cases h
theorem jA{g i:Nat}:∀t,lvP g i t->grP g t:=λt ⟨k,h⟩=>⟨i,k,h⟩
section
variable{P:Tag->Prop}{d:Ad}{w w':Own}{H H':Hp}{l:Addr}{Ls:List Lv}{as:List Addr}
theorem yE.get(h:yE d w H l Ls as){i:Nat}{L:Lv}(e:Ls[i]? = some L):∃a,as[i]? = some a/\yd d w H a l i L:=by
 have hi:i<as.length:=by rw[h.len];exact(List.getElem?_eq_some_iff.mp e).1
 exact⟨as[i],List.getElem?_eq_getElem hi,h.at_ i _ L (List.getElem?_eq_getElem hi) e⟩
theorem yE.get'(h:yE d w H l Ls as){i:Nat}{a:Addr}(e:as[i]? = some a):∃L,Ls[i]? = some L/\yd d w H a l i L:=by
 have hi:i<Ls.length:=by rw[<- h.len];exact(List.getElem?_eq_some_iff.mp e).1
 exact⟨Ls[i],List.getElem?_eq_getElem hi,h.at_ i a _ e (List.getElem?_eq_getElem hi)⟩
theorem yE.keep(h:yE d w H l Ls as)(k:Kp P w H w' H')(hr:¬P .row)(hl:¬P (.lvs l))(hp:∀i j,¬P (.part l i j)):yE d w' H' l Ls as :=
 ⟨k.hp _ _ h.lst (λt e z=>by rw[h.tag] at e;cases e;exact hl z),by rw[k.ow _ _ h.lst];exact h.tag,h.len,λi a L e1 e2=>(h.at_ i a L e1 e2).keep k hr (hp i)⟩
theorem yE.lay(h:yE d w H l Ls as)(s:Same H H'):yE d w H' l Ls as:=⟨s _ _ h.lst,h.tag,h.len,λi a L e1 e2=>let ⟨A,x⟩:=h.at_ i a L e1 e2;⟨A,x.lay s⟩⟩
theorem yE.set(h:yE d w H l Ls as){i:Nat}{a:Addr}{L:Lv}(ha:as[i]? = some a)(k:Kp (lvP l i) w H w' H')(hL:yd d w' H' a l i L):yE d w' H' l (Ls.set i L) as:=by
 refine⟨k.hp _ _ h.lst (λt e z=>by rw[h.tag] at e;cases e;obtain⟨_,q⟩:=z;cases q),by rw[k.ow _ _ h.lst];exact h.tag,by rw[List.length_set];exact h.len,λj b M e1 e2=>?_⟩
 by_cases q:i=j
 .subst q
  rw[ha] at e1;cases e1
  have hi:i<Ls.length:=by rw[<- h.len];exact(List.getElem?_eq_some_iff.mp ha).1
  rw[List.getElem?_set_self hi] at e2;cases e2
  exact hL
 .rw[List.getElem?_set_ne q] at e2
  exact(h.at_ j b M e1 e2).keep k wJ λm ⟨k',z⟩=>by injection z with _ z _;exact q z.symm
end
theorem wd{as:List Addr}{j:Nat}{y:V}(h:(as.map V.ref)[j]? = some y):∃c,as[j]? = some c/\y=V.ref c:=by
 rw[List.getElem?_map] at h
 cases e:as[j]? with
 |none=>rw[e] at h;cases h
 |some c=>rw[e] at h;exact⟨c,rfl,(Option.some.inj h).symm⟩
theorem wQ{as:List Addr}{j:Nat}{c:Addr}(h:as[j]? = some c):atI (as.map V.ref) (j:Int)=some (.ref c):=uT (by rw[List.getElem?_map,h];rfl)
theorem k9{xs:List V}{s:Nat}:x0 xs (some (s:Int)) none=xs.drop s:=by
 unfold x0
 rw[HT.sIx_nat,HT.sIx_none]
 by_cases h:s<=xs.length
 .rw[Nat.min_eq_left h,List.take_of_length_le (by rw[List.length_drop];exact Nat.le_refl _)]
 .rw[Nat.min_eq_right (by omega),List.drop_of_length_le (Nat.le_refl _),List.drop_of_length_le (by omega)];simp
def szL:List Lv->Nat
 |[]=>1
 |L::Ls=>L.out.length*szL Ls
theorem WA:∀{i:Nat}{Ls:List Lv},size (zm i Ls)=szL Ls
 |_,[]=>rfl
 |i,L::Ls=>by unfold zm size szL;rw[WA]
theorem Wm{L:Lv}:∀{Ls:List Lv},szL (Ls++[L])=szL Ls*L.out.length
 |[]=>by simp[szL]
 |M::Ls=>by show M.out.length*szL (Ls++[L])=_;rw[Wm,<- Nat.mul_assoc];rfl
def xm:Nat->List Tv->Chain
 |_,[]=>[]
 |i,T::Ts=>(i,T)::xm (i+1) Ts
theorem QA:∀{i:Nat}{Ls:List Lv},zm i Ls=xm i (Ls.map Lv.out)
 |_,[]=>rfl
 |i,L::Ls=>by unfold zm;rw[QA];rfl
def qa(_:PySem.W.Frag)(d:Ad):Sp:=λvs H Q _=>∃(n:Nat)(w:Own),vs=[.int n]/\n<=34/\zS w H /\
 ∀(w':Own)(H':Hp)(l:Addr),Kp P0 w H w' H'->H l=none->zI d w' H' l (xp n 0 n)->Q (.ref l) H'
def qb(_:PySem.W.Frag)(d:Ad):Sp:=λvs H Q _=>∃(os:Addr)(n:Nat)(w:Own)(ds:List Addr)(Ts:List Tv),vs=[.ref os]/\zS w H/\H os=some (.lst (ds.map V.ref))/\ds.length=n/\Ts.length=n/\1<=n/\n<=34/\w os=none /\
 (∀(i:Nat)(c:Addr)(T:Tv),ds[i]? = some c->Ts[i]? = some T->∃kvs,H c=some (.dK kvs)/\DictAt w H kvs T/\w c≠some .row) /\
 WfC n [] (xm 0 Ts)/\ye n (xm 0 Ts) /\
 ∀(w':Own)(H':Hp)(l:Addr)(Ls:List Lv),Kp P0 w H w' H'->H l=none->zI d w' H' l Ls->Rest n 0 Ls->(∀p,p∈mems n (zm 0 Ls)↔p∈mems n (xm 0 Ts))->Q (.ref l) H'
def wF(_:PySem.W.Frag)(d:Ad):Sp:=λvs H Q _=>∃(l:Addr)(s:Nat)(w:Own)(Ls:List Lv),vs=[.ref l,.int s]/\zI d w H l Ls/\(∀L,L∈Ls->L.out.length<=1000)/\Just H (.int (size (zm s (Ls.drop s)))) Q
def wE(_:PySem.W.Frag)(d:Ad):Sp:=λvs H Q _=>∃(l r:Addr)(s n:Nat)(w:Own)(Ls:List Lv)(row:Row),vs=[.ref l,.int s,.ref r]/\zI d w H l Ls/\At H r row/\Pm n row/\n<=34/\Ls.length=n/\(∀L,L∈Ls->∀x t,(x,t)∈L.out->Pm n t)/\Just H (.bl (sift (zm s (Ls.drop s)) row)) Q
def uj(_:PySem.W.Frag)(d:Ad):Sp:=λvs H Q _=>∃(l:Addr)(w:Own)(L:Lv)(Ls:List Lv),vs=[.ref l]/\zI d w H l (L::Ls)/\∀(ms:List Addr)(H':Hp)(q:Addr),wN w H ms L.makers->Same H H'->H q=none->H' q=some (.lst (ms.map V.ref))->Q (.ref q) H'
def jg(_:PySem.W.Frag)(d:Ad):Sp:=λvs H Q _=>∃(l:Addr)(p n:Nat)(w:Own)(L:Lv)(Ls:List Lv),vs=[.ref l,.int p]/\zI d w H l (L::Ls)/\(L::Ls).length=n/\L.kin.length=n/\n<=34/\p<n/\uV H ((List.range n).filter λx=>at_ L.kin x == at_ L.kin p) Q
end Gd
end
section
set_option Elab.async false
set_option autoImplicit false
set_option linter.all false
set_option maxRecDepth 100000
set_option maxHeartbeats 2000000
namespace Gd
open PySem PyProof.Rows L2 GP
abbrev zbh(K:PySem.W.Frag)(d:Ad):TS :=
 (zg (yY K (za 0) (tCB (ka K) (zb (zt K (za 2) "makers") zd)) "makers")
 (zg (yY K (za 0) (tCB (ka K) (zb (zt K (za 2) "kin") zd)) "kin")
 (zg (yY K (za 0) (zt K (za 2) "all_even") "all_even")
 (zg (jb (y9 (v0 (za 1)) (zl 3)
  (zg (zY (ya (tOp rNe (za 3) (zt K (za 0) "point")))
   (yr (yA d.C_Level "keep" (qH K d) [] E0 (za 0) (zb (yB (za 1) (za 3)) zd)))
   z7)
  (zY (ya (tOp rNe (tOp (zu K) (zt K (za 0) "kin") (za 3)) (tOp (zu K) (zt K (za 0) "kin") (zt K (za 0) "point"))))
   (yr (yA d.C_Level "note_maker" (jh K d) [] E0 (za 0) (zb (yB (za 1) (za 3)) zd)))
   z7))))
 (yr (yA d.C_Level "skip_untried" (qG K d) [] E0 (za 0) zd))))))
abbrev n_Level_fill:List Str:=["self","kept","below","x"]
abbrev zaz(K:PySem.W.Frag)(d:Ad):TS :=
 (zg (zn (zy (vO K d) [] E0 (zb (za 0) zd)) (zl 1))
 (zE (tLc (jG (zb (za 0) zd)) (zl 2) xc (j4 d.C_Level (ZW K d) [] E0 (zb (za 2) (zb (za 1) zd))) [2])))
abbrev n_new_levels:List Str:=["points","none","i"]
abbrev zaC(K:PySem.W.Frag)(d:Ad):TS :=
 (zg (zn (zy (qa K d) [] E0 (zb (tCB (zZ K) (zb (za 0) zd)) zd)) (zl 1))
 (zg (y9 (J4 (zb (tOp (rI0 λi j=>V.int (i-j)) (tCB (zZ K) (zb (za 0) zd)) (tC (.int 2))) (zb (tUn (rU λi=>V.int (-i)) (tC (.int 1))) (zb (tUn (rU λi=>V.int (-i)) (tC (.int 1))) zd)))) (zl 2)
  (yr (yA d.C_Level "fill" (ZX K d) [] E0 (tOp (zu K) (za 1) (za 2)) (zb (tOp (zu K) (za 0) (za 2)) (zb (tOp (zu K) (za 1) (tOp (rI0 λi j=>V.int (i+j)) (za 2) (tC (.int 1)))) zd)))))
 (zE (za 1))))
abbrev n_levels_of:List Str:=["outs","levels","i"]
abbrev zaO(K:PySem.W.Frag)(d:Ad):TS :=
 (zg (zn (tC (.int 1)) (zl 2))
 (zg (y9 (yT K (tSl (we K) (za 0) (xf (za 1)) uf)) (zl 3)
  (xQ 2 (tCB (zZ K) (zb (zt K (za 3) "reached") zd)) (ipC CMul λi j=>i*j)))
 (zE (za 2))))
abbrev n_count_members:List Str:=["levels","start","count","level"]
abbrev zaH(K:PySem.W.Frag)(d:Ad):TS :=
 (zg (y9 (yT K (tSl (we K) (za 0) (xf (za 1)) uf)) (zl 3)
  (zg (zn (tOp (zu K) (za 2) (zt K (za 3) "point")) (zl 4))
  (zY (ya (tOp rNe (za 4) (zt K (za 3) "point")))
   (zg (zY (tB (j6 (za 4) (zt K (za 3) "back")))
    (zE (tC (.bl false)))
    z7)
   (zn (zy (yR K d) [] E0 (zb (za 2) (zb (yB (zt K (za 3) "back") (za 4)) zd))) (zl 2)))
   z7)))
 (zE (tC (.bl true))))
abbrev n_is_member:List Str:=["levels","start","row","level","x"]
abbrev zaB(K:PySem.W.Frag)(d:Ad):TS :=
 (zE (tCB (ka K) (zb (zt K (tOp (zu K) (za 0) (tC (.int 0))) "makers") zd)))
abbrev n_makers_of:List Str:=["levels"]
abbrev zax(K:PySem.W.Frag)(d:Ad):TS :=
 (zg (zn (zt K (tOp (zu K) (za 0) (tC (.int 0))) "kin") (zl 2))
 (zE (tLc (jG (zb (tCB (zZ K) (zb (za 0) zd)) zd)) (zl 3) (ya (tOp rEq (tOp (zu K) (za 2) (za 3)) (tOp (zu K) (za 2) (za 1)))) (za 3) [3])))
abbrev n_orbit_of:List Str:=["levels","point","kin","x"]
end Gd
end
section
set_option Elab.async false
set_option autoImplicit false
set_option linter.all false
set_option maxRecDepth 100000
set_option maxHeartbeats 2000000
namespace Gd
open PySem PyProof.Rows L2 GP
open Md07 (Row then_ none_ at_ isPerm inversions)
section
variable{K:PySem.W.Frag}{d:Ad}{vs:List V}{H:Hp}{Q:VK}{E:XK}
theorem zb6(T:Tx K d)(h:wF K d vs H Q E):zaO K d (DQ Q) (start n_count_members vs) H:=by
 obtain⟨l,s,w,Ls,rfl,⟨as,hG⟩,hl,k⟩:=h
 refine⟨_,rfl,_,rfl,s,rfl,l,_,rfl,SqL.of hG.lst,λp hp=>⟨p,rfl,⟨_,SqL.of zj⟩,?_⟩⟩
 rw[k9,<- List.map_drop]
 have s1:Same H (upd H p (.lst ((as.drop s).map V.ref))):=same_upd hp
 have hpp:∀{H'},Same (upd H p (.lst ((as.drop s).map V.ref))) H'->SqL K H' p ((as.drop s).map V.ref):=λs2=>SqL.of (s2 _ _ zj)
 refine v4 (K:=K) (a:=p) (xs:=(as.drop s).map V.ref) (λj σ H'=>∃u:Option V,σ=[some (.ref l),some (.int (s:Int)),some (.int ((szL ((Ls.drop s).take j):Nat):Int)),u]/\H'=upd H p (.lst ((as.drop s).map V.ref)))
  ⟨none,rfl,rfl⟩ (λj σ H' _ ⟨_,_,e⟩=>by subst e;exact hpp (Same.refl _)) ?_ ?_
 .rintro j y σ H' hy ⟨u,rfl,rfl⟩
  obtain⟨c,hc,rfl⟩:=wd hy
  rw[List.getElem?_drop] at hc
  obtain⟨L,hL,A,hA⟩:=(hG.lay s1).get' hc
  have hL2:(Ls.drop s)[j]? = some L:=by rw[List.getElem?_drop];exact hL
  have et:(Ls.drop s).take (j+1)=(Ls.drop s).take j++[L]:=by
   obtain⟨h1,h2⟩:=List.getElem?_eq_some_iff.mp hL2
   rw[List.take_succ_eq_append_getElem h1,h2]
  have hb:=hl L (List.mem_of_getElem? hL)
  refine⟨_,rfl,_,rfl,ww hA.ins T ⟨A.r,_,rfl,.inl (SqL.of hA.re),_,_,rfl,rfl,?_,some (.ref c),?_,rfl⟩⟩
  .rw[zR,xz];exact .inr ⟨by omega,by omega⟩
  .rw[et,Wm,zR,xz,Int.natCast_mul];rfl
 .rintro σ H' ⟨u,rfl,rfl⟩
  refine⟨_,rfl,?_⟩
  have:=k _ s1
  rw[WA] at this
  rw[List.length_map,List.length_drop,hG.len,List.take_of_length_le (by rw[List.length_drop];exact Nat.le_refl _)]
  exact this
theorem Xv{T:Tv}{x:Nat}:(wv T).lookup x=(T.lookup x).map inv:=by
 induction T with
 |nil=>rfl
 |cons xt T ih=>
  obtain⟨y,t⟩:=xt
  show List.lookup x ((y,inv t)::wv T)=_
  rw[List.lookup_cons,List.lookup_cons]
  cases x == y with
  |true=>rfl
  |false=>exact ih
theorem zbZ(T:Tx K d)(h:wE K d vs H Q E):zaH K d (DQ Q) (start n_is_member vs) H:=by
 obtain⟨l,r,s,n,w,Ls,row,rfl,⟨as,hG⟩,hr,pm,hn,hlen,hpm,k⟩:=h
 refine⟨_,rfl,_,rfl,s,rfl,l,_,rfl,SqL.of hG.lst,λp hp=>⟨p,rfl,⟨_,SqL.of zj⟩,?_⟩⟩
 rw[k9,<- List.map_drop]
 have s1:Same H (upd H p (.lst ((as.drop s).map V.ref))):=same_upd hp
 refine v4 (K:=K) (a:=p) (xs:=(as.drop s).map V.ref) (λj σ H'=>∃(u v:Option V)(r':Addr)(row':Row),σ=[some (.ref l),some (.int (s:Int)),some (.ref r'),u,v]/\Same (upd H p (.lst ((as.drop s).map V.ref))) H'/\At H' r' row'/\Pm n row'/\sift (zm s (Ls.drop s)) row=sift (zm (s+j) (Ls.drop (s+j))) row')
  ⟨none,none,r,row,rfl,Same.refl _,s1 _ _ hr,pm,rfl⟩ (λj σ H' _ ⟨_,_,_,_,_,s2,_⟩=>SqL.of (s2 _ _ zj)) ?_ ?_
 .rintro j y σ H' hy ⟨u,v,r',row',rfl,s2,hr',pm',es⟩
  obtain⟨c,hc,rfl⟩:=wd hy
  rw[List.getElem?_drop] at hc
  have s3:=s1.trans s2
  obtain⟨L,hL,A,hA⟩:=(hG.lay s3).get' hc
  have hsj:s+j<Ls.length:=(List.getElem?_eq_some_iff.mp hL).1
  have ed:Ls.drop (s+j)=L::Ls.drop (s+(j+1)):=by
   rw[List.drop_eq_getElem_cons hsj,(List.getElem?_eq_some_iff.mp hL).2];rfl
  have es2:sift (zm s (Ls.drop s)) row=if at_ row' (s+j)=s+j then sift (zm (s+(j+1)) (Ls.drop (s+(j+1)))) row' else match L.out.lookup (at_ row' (s+j)) with
   |none=>false
   |some t=>sift (zm (s+(j+1)) (Ls.drop (s+(j+1)))) (then_ row' (inv t)):=by rw[es,ed];rfl
  refine⟨_,rfl,_,rfl,vx hA.ins T ⟨r',_,_,_,rfl,rfl,SqL.of hr',yC (by rw[pm'.1];omega),?_⟩⟩
  refine⟨_,rfl,_,rfl,vx hA.ins T ⟨rfl,_,rfl,?_⟩⟩
  refine ju (λq=>?_) (λq=>?_)
  .have q':¬at_ row' (s+j)=s+j:=λz=>q (by rw[z])
   rw[if_neg q'] at es2
   refine⟨_,rfl,_,rfl,kP hA.ins T ⟨A.b,_,rfl,DGet.k (k:=Sum.inl ((at_ row' (s+j):Nat):Int)) hA.ba,_,rfl,?_⟩⟩
   cases hlk:L.out.lookup (at_ row' (s+j)) with
   |none=>
    rw[hlk] at es2
    rw[hA.bad.non (x:=at_ row' (s+j)) (by rw[Xv,hlk];rfl)]
    refine yj ?_
    have:=k H' s3
    rw[es2] at this
    exact this
   |some t=>
    rw[hlk] at es2
    obtain⟨b,eb,rb⟩:=hA.bad.get (x:=at_ row' (s+j)) (t:=inv t) (by rw[Xv,hlk];rfl)
    rw[eb]
    refine zM ?_
    have pt:Pm n t:=hpm L (List.mem_of_getElem? hL) _ t (wr hlk)
    refine⟨_,rfl,_,rfl,kP hA.ins T ⟨_,rfl,A.b,.ref b,rfl,?_,?_⟩⟩
    .rw[<- eb];exact DGet.k (k:=Sum.inl ((at_ row' (s+j):Nat):Int)) hA.ba
    refine⟨r',b,row',inv t,rfl,hr',rb.at_,λz hz=>by rw[vw,pt.1];exact pm'.lt hz,by rw[pm'.1];omega,λH3 q3 s4 h4 h5=>?_⟩
    exact⟨_,_,q3,then_ row' (inv t),rfl,s2.trans s4,h5,pm'.then pt.inv,es2⟩
  .have q':at_ row' (s+j)=s+j:=Int.ofNat_inj.mp (by rw[q])
   rw[if_pos q'] at es2
   exact⟨_,_,r',row',rfl,s2,hr',pm',es2⟩
 .rintro σ H' ⟨u,v,r',row',rfl,s2,hr',pm',es⟩
  have e1:Ls.drop (s+((as.drop s).map V.ref).length)=[]:=by
   rw[List.length_map,List.length_drop,hG.len]
   exact List.drop_of_length_le (by omega)
  rw[e1] at es
  have:=k H' (s1.trans s2)
  rw[es] at this
  exact this
theorem zbT(T:Tx K d)(h:uj K d vs H Q E):zaB K d (DQ Q) (start n_makers_of vs) H:=by
 obtain⟨l,w,L,Ls,rfl,⟨as,hG⟩,k⟩:=h
 obtain⟨a,ha,A,hA⟩:=hG.get (i:=0) (L:=L) rfl
 refine⟨_,rfl,l,_,_,_,rfl,rfl,SqL.of hG.lst,wQ (j:=0) ha,vz hA.ins T ⟨A.m,_,rfl,.inl (SqL.of hA.mkl),λq hq=>?_⟩⟩
 exact k A.ms _ q hA.mks (same_upd hq) hq zj
theorem zbP(T:Tx K d)(h:jg K d vs H Q E):zax K d (DQ Q) (start n_orbit_of vs) H:=by
 obtain⟨l,p,n,w,L,Ls,rfl,⟨as,hG⟩,hlen,hk,hn,hp,k⟩:=h
 obtain⟨a,ha,A,hA⟩:=hG.get (i:=0) (L:=L) rfl
 have la:(as.map V.ref).length=n:=by rw[List.length_map,hG.len];exact hlen
 refine⟨_,rfl,l,_,_,_,rfl,rfl,SqL.of hG.lst,wQ (j:=0) ha,vA hA.ins T ?_⟩
 refine⟨_,rfl,l,_,rfl,.inl (SqL.of hG.lst),_,rfl,by omega,by rw[la];omega,λD hD=>?_⟩
 rw[la,Int.toNat_natCast]
 refine JE (lo:=0) (n:=n) (λi H'=>Same H H'/\At H' D ((List.range i).filter λx=>at_ L.kin x == at_ L.kin p)) ⟨same_upd hD,zj⟩ (λi H' hi h=>?_) (λH' h=>k H' D h.1 hD h.2)
 rw[Int.zero_add]
 have kk:=SqL.of (K:=K) (h.1 _ _ hA.kn.at_)
 refine⟨rfl,_,rfl,_,rfl,A.k,_,_,_,rfl,rfl,kk,yC (by omega),_,rfl,_,rfl,A.k,_,_,_,rfl,rfl,kk,yC (by omega),rfl,_,rfl,?_⟩
 have er:(List.range (i+1)).filter (λx=>at_ L.kin x == at_ L.kin p)=(List.range i).filter (λx=>at_ L.kin x == at_ L.kin p)++if at_ L.kin i=at_ L.kin p then [i] else []:=by
  rw[List.range_succ,List.filter_append]
  congr 1
  by_cases q:at_ L.kin i=at_ L.kin p
  .rw[if_pos q];simp[q]
  .rw[if_neg q];simp[q]
 refine jK (λq=>?_) (λq=>?_)
 .have q':at_ L.kin i=at_ L.kin p:=Int.ofNat_inj.mp q
  rw[if_pos q'] at er
  refine⟨_,rfl,_,h.2,?_,h.1.upd hD,?_⟩
  .rw[zR]
   exact yJ (Nat.le_trans (List.length_filter_le _ _) (by rw[List.length_range];omega))
  .show upd _ _ _ _=_
   rw[zj,er,<- jE]
 .rw[if_neg (λz=>q (by rw[z])),List.append_nil] at er
  exact⟨h.1,by rw[er];exact h.2⟩
theorem zbR(T:Tx K d)(h:qa K d vs H Q E):zaz K d (DQ Q) (start n_new_levels vs) H:=by
 obtain⟨n,w,rfl,hn,ok,k⟩:=h
 refine⟨_,rfl,n,rfl,by omega,λH1 z s1 hz hz1=>?_⟩
 refine⟨_,rfl,_,rfl,by omega,by omega,λD hD=>?_⟩
 rw[Int.toNat_natCast]
 have hD0:H D=none:=s1.free hD
 have zD:z≠D:=zw hz1 hD
 have s2:Same H (upd H1 D (.lst [])):=s1.trans (same_upd hD)
 have wD:w D=none:=ok.free hD0
 have k0:Kp P0 w H (own (own w z .row) D (.lvs D)) (upd H1 D (.lst [])) :=
  (((Kp.refl ok).lay s2).name (t:=.row) hz (by rw[zh zD];exact hz1) (λg q=>by cases q)).name (t:=.lvs D) hD0 zj (λg q=>by cases q;exact⟨_,zj⟩)
 refine JE (lo:=0) (n:=n) (λi H'=>∃(w':Own)(as:List Addr),Kp P0 w H w' H'/\zQ w' H' z (none_ n)/\H' D=some (.lst (as.map V.ref))/\w' D=some (.lvs D)/\as.length=i/\∀(j:Nat)(a:Addr),as[j]? = some a->yd d w' H' a D j (xG n j))
  ⟨_,[],k0,⟨by show upd _ _ _ _=_;rw[zh zD];exact hz1,by rw[wW zD];exact y4⟩,zj,y4,rfl,λj a e=>by simp at e⟩ (λi H' hi ⟨w',as,kp,rz,hDD,tD,hl,hL⟩=>?_) (λH' ⟨w',as,kp,rz,hDD,tD,hl,hL⟩=>?_)
 .rw[Int.zero_add]
  refine⟨rfl,yes ?_⟩
  refine⟨_,rfl,_,rfl,λx dx hx hdx hne=>?_⟩
  have e1:∀b o,H' b=some o->upd (upd H' dx (.own x)) x (.ins d.C_Level dx []) b=some o:=λb o e=>by rw[zh (zw e hx),zh (zw e hdx)];exact e
  have ok1:zS w' (upd (upd H' dx (.own x)) x (.ins d.C_Level dx [])):=kp.ok.same e1
  refine⟨x,dx,z,i,n,D,w',rfl,zj,kp.ok.free hx,ok1,⟨_,e1 _ _ hDD⟩,⟨e1 _ _ rz.at_,rz.tag⟩,hi,λw2 H2 kk ok2 hL2=>⟨rfl,?_⟩⟩
  have k1:Kp P0 w' H' w2 H2:=⟨λb o e=>(kk b o (e1 b o e) (zw e hx)).2,λb o e _=>(kk b o (e1 b o e) (zw e hx)).1,λb o e=>⟨o,(kk b o (e1 b o e) (zw e hx)).1⟩,ok2⟩
  have k2:=kp.trans k1
  have hD2:=k1.same0 _ _ hDD
  have tD2:w2 D=some (.lvs D):=by rw[k1.ow _ _ hDD];exact tD
  have tr:∀t,w2 D=some t->t≠.row/\∀i k,t≠.part D i k:=λt e=>by rw[tD2] at e;cases e;exact⟨λz=>(by cases z),λi k z=>(by cases z)⟩
  refine⟨_,hD2,by rw[List.length_map,hl];exact yJ (by omega),w2,as++[x],k2.writeNew hD0,(rz.keep k1 (λz=>z)).updO λt e=>(tr t e).1,?_,tD2,by rw[List.length_append,hl];rfl,λj a e=>?_⟩
  .rw[zj,List.map_append];rfl
  .by_cases q:j<as.length
   .rw[List.getElem?_append_left q] at e
    obtain⟨A,hA⟩:=(hL j a e).keep k1 (λz=>z) (λ_ z=>z)
    exact⟨A,hA.updO λt e=>⟨(tr t e).1,λk=>(tr t e).2 j k⟩⟩
   .rw[List.getElem?_append_right (by omega)] at e
    have e0:j-as.length=0:=by
     have:=(List.getElem?_eq_some_iff.mp e).1
     simp at this;omega
    rw[e0] at e
    cases e
    have ej:j=i:=by omega
    subst ej
    obtain⟨A,hA⟩:=hL2
    exact⟨A,hA.updO λt e=>⟨(tr t e).1,λk=>(tr t e).2 j k⟩⟩
 .refine k w' H' D kp hD0 ⟨as,hDD,tD,by rw[Xa];exact hl,λi a L e1 e2=>?_⟩
  have hi:i<n:=by rw[<- hl];exact(List.getElem?_eq_some_iff.mp e1).1
  rw[Xb hi,Nat.zero_add] at e2
  cases e2
  exact hL i a e1
theorem zcA(T:Tx K d)(h:ZX K d vs H Q E):zbh K d (DQ Q) (start n_Level_fill vs) H:=by
 obtain⟨a,kd,b,g,i,n,w,Tv',B,kvs,rfl,ok,⟨A,hA⟩,hkd,hT,tk,⟨AB,hB⟩,wf,okB,kx,two,hn,k⟩:=h
 have hin:i<n:=wf.lt
 have hg:∀{w1:Own}{H1:Hp},zS w1 H1->w1 a=some (.part g i 0)->∃o,H1 g=some o:=λo1 e=>(o1 _ _ e).2 g rfl
 have nB:∀k,¬lvP g i (.part g (i+1) k):=λk ⟨_,z⟩=>by injection z with _ z _;omega
 refine⟨_,rfl,vz hB.ins T ⟨AB.m,_,rfl,.inl (SqL.of hB.mkl),λp hp=>?_⟩⟩
 have sp:Same H (upd H p (.lst (AB.ms.map V.ref))):=same_upd hp
 have wp:w p=none:=ok.free hp
 have k1:Kp (lvP g i) w H (own w p (.part g i 4)) (upd H p (.lst (AB.ms.map V.ref))):=((Kp.refl ok).lay sp).name hp zj (λg' z=>by cases z;exact hg (ok.same sp) hA.tin)
 have hA1:=(hA.lay sp).ownW (t:=.part g i 4) wp
 refine⟨_,rfl,a,_,_,_,rfl,hA1.ins,T.cL,T.makers,uF,?_⟩
 rw[zdQ]
 have hB1:zW d (own w p (.part g i 4)) _ b g (i+1) B AB:=hB.keep k1 wJ nB
 have hA2:=hA1.reIns (L':={ xG n i with makers:=B.makers }) (A':={ A with m:=p,ms:=AB.ms }) rfl rfl rfl rfl rfl rfl rfl zj y4 hB1.mks hA1.dn hA1.tdn hA1.kn
 have k2:=k1.write (o:=.ins d.C_Level A.dx (lf i { A with m:=p,ms:=AB.ms } true)) hA1.tin ⟨0,rfl⟩
 revert hA2 k2
 show zW d (own w p (.part g i 4)) (upd (upd H p (.lst (AB.ms.map V.ref))) a (.ins d.C_Level A.dx (lf i { A with m:=p,ms:=AB.ms } true))) a g i { xG n i with makers:=B.makers } { A with m:=p,ms:=AB.ms }->Kp (lvP g i) w H (own w p (.part g i 4)) (upd (upd H p (.lst (AB.ms.map V.ref))) a (.ins d.C_Level A.dx (lf i { A with m:=p,ms:=AB.ms } true)))->zg _ _ _ _ (upd (upd H p (.lst (AB.ms.map V.ref))) a (.ins d.C_Level A.dx (lf i { A with m:=p,ms:=AB.ms } true)))
 generalize upd (upd H p (.lst (AB.ms.map V.ref))) a (.ins d.C_Level A.dx (lf i { A with m:=p,ms:=AB.ms } true))=H2
 generalize own w p (.part g i 4)=w2
 clear hA1 hB1 k1 sp
 intro hA2 k2
 have hB2:=hB.keep k2 wJ nB
 refine⟨_,rfl,vA hB2.ins T ⟨AB.k,_,rfl,.inl (SqL.of hB2.kn.at_),λq hq=>?_⟩⟩
 have sq:Same H2 (upd H2 q (.lst (iv B.kin))):=same_upd hq
 have k3:=(k2.lay sq).name (t:=.row) (k2.free hq) zj (λg' z=>by cases z)
 have hA3:=(hA2.lay sq).ownW (t:=.row) (k2.ok.free hq)
 refine⟨_,rfl,a,_,_,_,rfl,hA3.ins,T.cL,T.kin,uF,?_⟩
 rw[Jx]
 have hA4:=hA3.reIns (L':={ xG n i with makers:=B.makers,kin:=B.kin }) (A':={ A with m:=p,ms:=AB.ms,k:=q }) rfl rfl rfl rfl rfl rfl rfl hA3.mkl hA3.tmk hA3.mks hA3.dn hA3.tdn ⟨zj,y4⟩
 have k4:=k3.write (o:=.ins d.C_Level A.dx (lf i { A with m:=p,ms:=AB.ms,k:=q } true)) hA3.tin ⟨0,rfl⟩
 have hB4:=hB.keep k4 wJ nB
 refine⟨_,rfl,Xy hB4.ins T ⟨_,rfl,a,_,_,_,rfl,hA4.ins,T.cL,T.all_even,uF,?_⟩⟩
 rw[Jy]
 have hA5:zW d _ _ a g i (fill0 n i B) { A with m:=p,ms:=AB.ms,k:=q }:=hA4.reIns (L':=fill0 n i B) (A':={ A with m:=p,ms:=AB.ms,k:=q }) rfl rfl rfl rfl rfl rfl rfl hA4.mkl hA4.tmk hA4.mks hA4.dn hA4.tdn hA4.kn
 have k5:=k4.write (o:=.ins d.C_Level A.dx (lf i { A with m:=p,ms:=AB.ms,k:=q } B.even)) hA4.tin ⟨0,rfl⟩
 revert hA5 k5
 generalize own w2 q .row=w5
 show zW d w5 (upd (upd (upd H2 q (.lst (iv B.kin))) a (.ins d.C_Level A.dx (lf i { A with m:=p,ms:=AB.ms,k:=q } true))) a (.ins d.C_Level A.dx (lf i { A with m:=p,ms:=AB.ms,k:=q } B.even))) a g i (fill0 n i B) { A with m:=p,ms:=AB.ms,k:=q } ->
  Kp (lvP g i) w H w5 (upd (upd (upd H2 q (.lst (iv B.kin))) a (.ins d.C_Level A.dx (lf i { A with m:=p,ms:=AB.ms,k:=q } true))) a (.ins d.C_Level A.dx (lf i { A with m:=p,ms:=AB.ms,k:=q } B.even)))->zg _ _ _ _ (upd (upd (upd H2 q (.lst (iv B.kin))) a (.ins d.C_Level A.dx (lf i { A with m:=p,ms:=AB.ms,k:=q } true))) a (.ins d.C_Level A.dx (lf i { A with m:=p,ms:=AB.ms,k:=q } B.even)))
 generalize upd (upd (upd H2 q (.lst (iv B.kin))) a (.ins d.C_Level A.dx (lf i { A with m:=p,ms:=AB.ms,k:=q } true))) a (.ins d.C_Level A.dx (lf i { A with m:=p,ms:=AB.ms,k:=q } B.even))=H5
 generalize ({ A with m:=p,ms:=AB.ms,k:=q }:LAdr)=A5
 clear hA2 k2 hB2 hB4 hA3 hA4 k3 k4 sq
 intro hA5 k5
 have tk5:∀t,w5 kd=some t->t≠.row/\∀k,t≠.part g i k:=λt e=>tk t (by rw[<- k5.ow _ _ hkd];exact e)
 have hkd5:H5 kd=some (.dK kvs):=k5.hp _ _ hkd λt e ⟨k',z⟩=>(tk t e).2 k' z
 have hT5:DictAt w5 H5 kvs Tv':=hT.keep k5 wJ
 refine⟨kd,.dK kvs,hkd5,trivial,λod=>?_⟩
 have hTl:DictAt w5 (upd H5 kd (.frz od (.dK kvs))) kvs Tv':=hT5.updO λt e=>(tk5 t e).1
 have hAl:=hA5.updO (o:=.frz od (.dK kvs)) tk5
 have okl:zS w5 (upd H5 kd (.frz od (.dK kvs))):=k5.ok.upd
 have hl0:upd H5 kd (.frz od (.dK kvs)) kd=some (.frz od (.dK kvs)):=zj
 have un:∀{w':Own}{H':Hp},Kp (lvP g i) w5 (upd H5 kd (.frz od (.dK kvs))) w' H'->Kp (lvP g i) w5 H5 w' (upd H' kd (.dK kvs)):=λk'=>k'.unlock hkd5
 revert hTl hAl okl hl0 un
 generalize upd H5 kd (.frz od (.dK kvs))=Hl
 intro hTl hAl okl hl0 un
 have stay:∀{w':Own}{H':Hp},Kp (lvP g i) w5 Hl w' H'->H' kd=some (.frz od (.dK kvs))/\∀t,w' kd=some t->t≠.row/\∀k,t≠.part g i k:=λk'=>
  ⟨k'.hp _ _ hl0 λt e ⟨j',z⟩=>(tk5 t e).2 j' z,λt e=>tk5 t (by rw[<- k'.ow _ _ hl0];exact e)⟩
 have lenT:Tv'.length<=n:=by
  have:=xW wf.nd (l₂:=List.range n) (λx hx=>by
   obtain⟨⟨x',t⟩,h1,h2⟩:=List.mem_map.mp hx
   subst h2
   exact List.mem_range.mpr (wf.key h1))
  rw[List.length_map,List.length_range] at this
  exact this
 refine⟨_,rfl,kd,od,rfl,.inl ⟨kvs,hl0,kU (d:=kd) (o:=od) (kvs:=kvs) (λj σ H'=>∃(u:Option V)(w':Own)(L:Lv),σ=[some (.ref a),some (.ref kd),some (.ref b),u]/\Kp (lvP g i) w5 Hl w' H'/\yd d w' H' a g i L/\L=(Tv'.take j).foldl (fill1 i) (fill0 n i B)/\Fl n i B (Tv'.take j) L)
  ⟨none,w5,_,rfl,Kp.refl okl,⟨A5,hAl⟩,rfl,Fl.start okB kx two⟩ (λj σ H' _ ⟨_,_,_,_,k',_⟩=>(stay k').1) ?_ ?_⟩⟩
 .rintro j ky v σ H' hkv ⟨u,w',L,rfl,k',hL,eL,fl⟩
  obtain⟨⟨x,t⟩,hxt,ek,c,_,_⟩:=Paired.get2 hTl hkv
  change ky=Sum.inl (x:Int) at ek
  subst ek
  have mT:(x,t)∈Tv':=List.mem_of_getElem? hxt
  have pt:=wf.pm x t mT
  have tx:=wf.tk x t mT
  have hxn:=wf.key mT
  have hjT:j<Tv'.length:=(List.getElem?_eq_some_iff.mp hxt).1
  have et:Tv'.take (j+1)=Tv'.take j++[(x,t)]:=by rw[List.take_succ_eq_append_getElem hjT,(List.getElem?_eq_some_iff.mp hxt).2]
  have fl2:=fl.step hin pt (λj' hj'=>wf.fx x t mT j' (xH.mpr hj')) tx
  rw[<- et] at fl2
  have eL2:fill1 i L (x,t)=(Tv'.take (j+1)).foldl (fill1 i) (fill0 n i B):=by rw[et,List.foldl_append,<- eL];rfl
  have lk:Tv'.lookup x=some t:=yN wf.nd mT
  have mlen:L.makers.length<128:=fl.two.len hn λp hp=>(fl.pm p hp).1
  have olen:L.out.length<=500:=by
   rw[fl.out,List.length_cons]
   have h1:=List.length_filter_le (λxt:Nat×Row=>xt.1 != i) (Tv'.take j)
   rw[List.length_take] at h1
   omega
  have second:∀(w2:Own)(H2:Hp)(L1:Lv),Kp (lvP g i) w5 Hl w2 H2->yd d w2 H2 a g i L1->L1=(if x=i then L else { L with out:=L.out++[(x,t)] }) ->
   zY (ya (tOp rNe (tOp (zu K) (zt K (za 0) "kin") (za 3)) (tOp (zu K) (zt K (za 0) "kin") (zt K (za 0) "point")))) (yr (yA d.C_Level "note_maker" (jh K d) [] E0 (za 0) (zb (yB (za 1) (za 3)) zd))) z7
    { nx:=fun σ H'=>∃(u:Option V)(w':Own)(L:Lv),σ=[some (.ref a),some (.ref kd),some (.ref b),u]/\Kp (lvP g i) w5 Hl w' H'/\yd d w' H' a g i L/\L=(Tv'.take (j+1)).foldl (fill1 i) (fill0 n i B)/\Fl n i B (Tv'.take (j+1)) L,rt:=λv H'=>H' kd=some (.frz od (.dK kvs))/\Q v (upd H' kd (.dK kvs)),bk:=λ_ _=>False,ct:=λ_ _=>False }
    [some (.ref a),some (.ref kd),some (.ref b),some (.int (x:Int))] H2:=λw2 H2 L1 k2 ⟨A2,hA2⟩ e1=>by
   have ek:L1.kin=L.kin:=by rw[e1];split<;>rfl
   have em:L1.makers=L.makers:=by rw[e1];split<;>rfl
   have ed:L1.done=L.done:=by rw[e1];split<;>rfl
   have kl1:L1.kin.length=n:=by rw[ek];exact fl.kl
   have ef:fill1 i L (x,t)=if at_ L1.kin x=at_ L1.kin i then L1 else L1.noted t:=by rw[e1];rfl
   refine⟨_,rfl,vA hA2.ins T ⟨_,rfl,A2.k,_,_,_,rfl,rfl,SqL.of hA2.kn.at_,yC (by omega),_,rfl,vA hA2.ins T ⟨_,rfl,vx hA2.ins T ⟨A2.k,_,_,_,rfl,rfl,SqL.of hA2.kn.at_,yC (by omega),rfl,_,rfl,?_⟩⟩⟩⟩
   refine ju (λz=>?_) (λz=>?_)
   .rw[if_neg (λy=>z (by rw[y]))] at ef
    obtain⟨c2,ec2,rc2⟩:=(hTl.keep k2 wJ).get lk
    refine⟨_,rfl,a,_,_,rfl,hA2.ins,xy (by simp),_,rfl,_,rfl,kd,.ref c2,rfl,.inl ⟨kvs,Sum.inl (x:Int),.inr ⟨od,(stay k2).1⟩,rfl,ec2.symm⟩,?_⟩
    refine⟨a,c2,g,i,n,w2,L1,t,rfl,k2.ok,⟨A2,hA2⟩,rc2,pt,hn,kl1,by rw[em];omega,by rw[ed];have:=fl.dl;omega,λw3 H3 k3 hL3=>?_⟩
    exact⟨_,w3,L1.noted t,rfl,k2.trans k3,hL3,by rw[<- ef];exact eL2,by rw[<- ef];exact fl2⟩
   .rw[if_pos (Int.ofNat_inj.mp z)] at ef
    exact⟨_,w2,L1,rfl,k2,⟨A2,hA2⟩,by rw[<- ef];exact eL2,by rw[<- ef];exact fl2⟩
  obtain⟨A',hA'⟩:=hL
  refine⟨_,rfl,_,rfl,vx hA'.ins T ⟨rfl,_,rfl,?_⟩⟩
  refine ju (λz=>?_) (λz=>?_)
  .have z':¬x=i:=λy=>z (by rw[y])
   obtain⟨c2,ec2,rc2⟩:=(hTl.keep k' wJ).get lk
   refine⟨_,rfl,a,_,_,rfl,hA'.ins,xy (by simp),_,rfl,_,rfl,kd,.ref c2,rfl,.inl ⟨kvs,Sum.inl (x:Int),.inr ⟨od,(stay k').1⟩,rfl,ec2.symm⟩,?_⟩
   refine⟨a,c2,g,i,n,w',L,t,rfl,k'.ok,⟨A',hA'⟩,rc2,pt,hin,hn,?_,olen,λw3 H3 k3 hL3=>?_⟩
   .rw[tx,fl.out]
    intro hm
    rcases List.mem_cons.mp hm with hm|hm
    .exact z' hm
    .obtain⟨⟨x2,t2⟩,h1,h2⟩:=List.mem_map.mp hm
     have e2:x2=x:=h2
     subst e2
     have h3:=(List.mem_filter.mp h1).1
     have nd2:=wf.nd
     rw[<- List.take_append_drop j Tv',List.map_append,List.nodup_append] at nd2
     refine nd2.2.2 x2 (List.mem_map.mpr ⟨_,h3,rfl⟩) x2 (List.mem_map.mpr ⟨(x2,t),?_,rfl⟩) rfl
     rw[List.drop_eq_getElem_cons hjT,(List.getElem?_eq_some_iff.mp hxt).2]
     exact List.mem_cons_self
   .rw[tx] at hL3
    exact second w3 H3 _ (k'.trans (k3.mono JG)) hL3 (by rw[if_neg z'])
  .exact second w' H' L k' ⟨A',hA'⟩ (by rw[if_pos (Int.ofNat_inj.mp z)])
 .rintro σ H' ⟨u,w',L,rfl,k',⟨A',hA'⟩,eL,fl⟩
  refine⟨(stay k').1,?_⟩
  rw[hTl.len,List.take_length] at eL fl
  have kf:=k5.trans (un k')
  have hAf:=hA'.updO (o:=.dK kvs) (stay k').2
  have mlen:L.makers.length<128:=fl.two.len hn λp hp=>(fl.pm p hp).1
  refine⟨_,rfl,a,_,_,rfl,hAf.ins,xy (by simp),?_⟩
  refine⟨a,g,i,w',L,rfl,kf.ok,⟨A',hAf⟩,by omega,λw3 H3 k3 hL3=>?_⟩
  refine k w3 H3 (kf.trans k3) ?_
  unfold v5
  rw[<- eL]
  exact hL3
end
end Gd
end
section
set_option Elab.async false
set_option autoImplicit false
set_option linter.all false
set_option maxRecDepth 100000
set_option maxHeartbeats 2000000
namespace Gd
open PySem PyProof.Rows L2 GP
open Md07 (Row then_ none_ at_ isPerm inversions)
section
variable{K:PySem.W.Frag}{d:Ad}{vs:List V}{H:Hp}{Q:VK}{E:XK}
theorem wfT{n:Nat}:∀{Ts:List Tv}{i j:Nat},WfC n (dn i) (xm i Ts)->j<=Ts.length->WfC n (dn (i+j)) (xm (i+j) (Ts.drop j))
 |_,_,0,w,_=>w
 |[],_,j+1,w,h=>by simp at h
 |T::Ts,i,j+1,w,h=>by
  have:=wfT (Ts:=Ts) (i:=i+1) (j:=j) w.2 (by simpa using h)
  rw[show i+(j+1)=i+1+j by omega];exact this
theorem grT{n:Nat}:∀{Ts:List Tv}{i j:Nat},(∀x,x∈dn i->x<n)->WfC n (dn i) (xm i Ts)->ye n (xm i Ts)->j<=Ts.length->ye n (xm (i+j) (Ts.drop j))
 |_,_,0,_,_,g,_=>g
 |[],_,j+1,_,w,g,h=>by simp at h
 |T::Ts,i,j+1,hF,w,g,h=>by
  have:=grT (Ts:=Ts) (i:=i+1) (j:=j) (λx hx=>by
   have hi:i<n:=w.1.lt
   have:=xH.mp hx;omega) w.2 (g.tail hF w) (by simpa using h)
  rw[show i+(j+1)=i+1+j by omega];exact this
theorem zd7{n:Nat}{T:Tv}(w:WfL n (dn (n-1)) (n-1) T){x:Nat}{t:Row}:(x,t)∈T↔(x,t)∈[(n-1,none_ n)]:=by
 have key:∀x t,(x,t)∈T->x=n-1/\t=none_ n:=λx t h=>by
  have pt:=w.pm x t h
  have hn:=w.lt
  have e:∀j,j<n->at_ t j=j:=λj hj=>by
   by_cases q:j<n-1
   .exact w.fx x t h j (xH.mpr q)
   .have ej:j=n-1:=by omega
    obtain⟨m,hm,em⟩:=pt.at_surj hj
    by_cases q2:m<n-1
    .have:=w.fx x t h m (xH.mpr q2);omega
    .have:m=j:=by omega
     rw[<- this];rw[<- this] at em;exact em
  refine⟨by rw[<- w.tk x t h];exact e _ w.lt,xR pt.1 wo λj hj=>by rw[e j hj,at_none hj]⟩
 rw[List.mem_singleton]
 refine⟨λh=>?_,λh=>?_⟩
 .obtain⟨h1,h2⟩:=key x t h
  rw[h1,h2]
 .cases h;exact w.one
theorem Qk{α:Type}{l:List α}{i:Nat}{x:α}(h:i<l.length):(l.set i x).drop i=x::l.drop (i+1):=by
 rw[List.drop_eq_getElem_cons (by rw[List.length_set];exact h),List.getElem_set_self,List.drop_set_of_lt (by omega)]
theorem Xc{n:Nat}:∀{j i k:Nat},j<=k->(xp n i k).drop j=xp n (i+j) (k-j)
 |0,_,_,_=>rfl
 |j+1,i,0,h=>by omega
 |j+1,i,k+1,h=>by
  show(xp n (i+1) k).drop j=_
  rw[Xc (by omega),show i+1+j=i+(j+1) by omega,show k+1-(j+1)=k-j by omega]
theorem zbU(T:Tx K d)(h:qb K d vs H Q E):zaC K d (DQ Q) (start n_levels_of vs) H:=by
 obtain⟨os,n,w,ds,Ts,rfl,ok,hos,hd,hTs,h1,hn,wos,hds,wf,gr,k⟩:=h
 refine⟨_,rfl,os,_,rfl,.inl (SqL.of hos),n,w,by rw[List.length_map,hd];rfl,hn,ok,λw1 H1 l k1 hl ⟨as,hG⟩=>?_⟩
 have hos1:=k1.same0 _ _ hos
 have nog:∀c t,w c=some t->¬grP l t:=λc t e ⟨i,j,z⟩=>by
  subst z
  obtain⟨o,q⟩:=(ok c _ e).2 l rfl
  rw[hl] at q;cases q
 have nog2:∀c t i,w c=some t->¬lvP l i t:=λc t i e z=>nog c t e (jA t z)
 refine⟨_,rfl,os,_,rfl,.inl (SqL.of hos1),_,_,rfl,rfl,_,rfl,_,rfl,_,_,_,n-1,rfl,by rw[List.length_map,hd];exact zbF (by omega),?_⟩
 rw[List.length_map,hd]
 refine zeE (lo:=(n:Int)-2) (c:=-1) (n:=n-1) (λm σ H'=>∃(u:Option V)(w':Own)(Ls:List Lv),σ=[some (.ref os),some (.ref l),u]/\Kp P0 w H w' H'/\yE d w' H' l Ls as/\Ls.length=n/\(∀j,j<n-1-m->Ls[j]? = some (xG n j))/\Rest n (n-1-m) (Ls.drop (n-1-m))/\∀p,p∈mems n (zm (n-1-m) (Ls.drop (n-1-m)))↔p∈mems n (xm (n-1-m) (Ts.drop (n-1-m))))
  ⟨none,w1,xp n 0 n,rfl,k1,hG,Xa,λj hj=>by rw[Xb (by omega),Nat.zero_add],?_,?_⟩ ?_ ?_
 .rw[Nat.sub_zero,Xc (by omega),Nat.zero_add]
  exact Rest.new (by omega)
 .intro p
  rw[Nat.sub_zero,Xc (by omega),Nat.zero_add,show n-(n-1)=1 by omega]
  obtain⟨T',hT'⟩:∃T',Ts.drop (n-1)=[T']:=by
   have:(Ts.drop (n-1)).length=1:=by rw[List.length_drop,hTs];omega
   exact List.length_eq_one_iff.mp this
  have w1:=wfT (i:=0) (j:=n-1) wf (by omega)
  rw[Nat.zero_add,hT'] at w1
  rw[hT']
  exact(Xg (λx t=>zd7 w1.1) p).symm
 .rintro m σ H' hm ⟨u,w',Ls,rfl,k',hG',hlen,hnew,rest,mem⟩
  obtain⟨i,hi⟩:∃i,n-1-m=i+1:=⟨n-2-m,by omega⟩
  have hi2:n-1-(m+1)=i:=by omega
  rw[hi] at hnew rest mem
  have ev:(n:Int)-2+((m:Nat):Int)*(-1)=(i:Int):=by omega
  rw[ev]
  obtain⟨B,eB⟩:∃B,Ls[i+1]? = some B:=⟨_,List.getElem?_eq_getElem (by omega)⟩
  obtain⟨a,ea,A,hA⟩:=hG'.get (hnew i (by omega))
  obtain⟨b,eb,hB⟩:=hG'.get eB
  obtain⟨c,ec⟩:∃c,ds[i]? = some c:=⟨_,List.getElem?_eq_getElem (by omega)⟩
  obtain⟨T',eT⟩:∃T',Ts[i]? = some T':=⟨_,List.getElem?_eq_getElem (by omega)⟩
  obtain⟨kvs,hc,hD,wc⟩:=hds i c T' ec eT
  have hos':=k'.same0 _ _ hos
  have eLs:Ls.drop (i+1)=B::Ls.drop (i+2):=by rw[List.drop_eq_getElem_cons (by omega),(List.getElem?_eq_some_iff.mp eB).2]
  have eTs:Ts.drop i=T'::Ts.drop (i+1):=by rw[List.drop_eq_getElem_cons (by omega),(List.getElem?_eq_some_iff.mp eT).2]
  have wi:=wfT (i:=0) (j:=i) wf (by omega)
  have gi:=grT (i:=0) (j:=i) (λx hx=>by simp[dn] at hx) wf gr (by omega)
  rw[Nat.zero_add,eTs] at wi gi
  rw[eLs] at rest mem
  have m1:∀p,p∈mems n ((i,T')::zm (i+1) (B::Ls.drop (i+2)))↔p∈mems n (xm i (Ts.drop i)):=λp=>by
   rw[eTs];exact uB (A:=[(i,T')]) mem p
  have g2:ye n ((i,T')::zm (i+1) (B::Ls.drop (i+2))):=ye.of m1 (by rw[eTs];exact gi)
  obtain⟨rest2,out2⟩:=rest.fill wi.1 g2
  refine⟨_,rfl,_,rfl,l,_,_,_,rfl,rfl,SqL.of hG'.lst,wQ ea,a,_,_,rfl,hA.ins,xy (by simp),_,rfl,_,rfl,os,_,_,_,rfl,rfl,SqL.of hos',wQ ec,_,rfl,_,rfl,_,_,rfl,rfl,l,_,_,_,rfl,rfl,SqL.of hG'.lst,vG (j:=i+1) (by show(i:Int)+1=_;omega) (by rw[List.getElem?_map,eb];rfl),?_⟩
  refine⟨a,c,b,l,i,n,w',T',B,kvs,rfl,k'.ok,⟨A,hA⟩,k'.same0 _ _ hc,hD.keep k' (λz=>z),λt et=>?_,hB,wi.1,rest.1,rest.2.2.2.1,rest.2.2.2.2.1,hn,λw2 H2 k2 hL2=>?_⟩
  .rw[k'.ow _ _ hc] at et
   exact⟨λz=>wc (by rw[et,z]),λkk z=>nog2 c t i et ⟨kk,z⟩⟩
  .have hil:i<Ls.length:=by omega
   refine⟨_,w2,Ls.set i (v5 n i T' B),rfl,k'.hide k2 (λc t e=>nog2 c t i e),hG'.set ea k2 hL2,by rw[List.length_set];exact hlen,λj hj=>?_,?_,?_⟩
   .rw[hi2] at hj
    rw[List.getElem?_set_ne (by omega)]
    exact hnew j (by omega)
   .rw[hi2,Qk hil,eLs];exact rest2
   .intro p
    rw[hi2,Qk hil,eLs,<- m1]
    show p∈mems n ((i,(v5 n i T' B).out)::zm (i+1) (B::Ls.drop (i+2)))↔_
    rw[out2]
    exact Xg (λx t=>jJ wi.1) p
 .rintro σ H' ⟨u,w',Ls,rfl,k',hG',hlen,hnew,rest,mem⟩
  rw[show n-1-(n-1)=0 by omega] at rest mem
  exact⟨_,rfl,k w' H' l Ls k' hl ⟨as,hG'⟩ rest mem⟩
end
end Gd
end
section
set_option Elab.async false
set_option autoImplicit false
set_option linter.all false
set_option maxRecDepth 100000
set_option maxHeartbeats 2000000
namespace Gd
open PySem PyProof.Rows L2 GP
open Md07 (Row then_ none_ at_ isPerm inversions Made made)
structure Fit(n:Nat)(Ls:List Lv):Prop where
 len:Ls.length=n
 out:∀(j:Nat)(L:Lv),Ls[j]? = some L->LvOk n j L
theorem Fit.pm{n:Nat}{Ls:List Lv}(f:Fit n Ls):∀L,L∈Ls->∀x t,(x,t)∈L.out->Pm n t:=λL hL x t h=>by
 obtain⟨j,hj,e⟩:=List.getElem_of_mem hL
 exact(f.out j L (by rw[List.getElem?_eq_getElem hj,e])).wf.pm x t h
theorem YX{n i:Nat}{F:List Nat}{T:Tv}(wf:WfL n F i T):T.length<=n:=by
 have:=xW wf.nd (l₂:=List.range n) (λx hx=>by
  obtain⟨⟨x',t⟩,h1,h2⟩:=List.mem_map.mp hx
  subst h2
  exact List.mem_range.mpr (wf.key h1))
 rw[List.length_map,List.length_range] at this
 exact this
theorem Fit.le{n:Nat}{Ls:List Lv}(f:Fit n Ls):∀L,L∈Ls->L.out.length<=n:=λL hL=>by
 obtain⟨j,hj,e⟩:=List.getElem_of_mem hL
 exact YX (f.out j L (by rw[List.getElem?_eq_getElem hj,e])).wf
theorem Fit.set{n i:Nat}{Ls:List Lv}{L:Lv}(f:Fit n Ls)(h:LvOk n i L):Fit n (Ls.set i L):=by
 refine⟨by rw[List.length_set];exact f.len,λj M e=>?_⟩
 by_cases q:i=j
 .subst q
  have hi:i<Ls.length:=by
   have:=(List.getElem?_eq_some_iff.mp e).1
   rw[List.length_set] at this;exact this
  rw[List.getElem?_set_self hi] at e;cases e;exact h
 .rw[List.getElem?_set_ne q] at e;exact f.out j M e
def ZQ(_:PySem.W.Frag)(d:Ad):Sp:=λvs H Q _=>∃(l:Addr)(i n:Nat)(w:Own)(Ls:List Lv)(L:Lv),vs=[.ref l,.int i]/\zS w H/\zI d w H l Ls/\Fit n Ls/\n<=34/\Ls[i]? = some L/\Two n L.makers/\yQ n i (L::Ls.drop (i+1))/\Closed n (i+1) (Ls.drop (i+1)) /\
 (∀(w':Own)(H':Hp)(dn':List Nat),Kp (lvP l i) w H w' H'->zI d w' H' l (Ls.set i { L with done:=dn' })->LvOk n i { L with done:=dn' }->Lk n { L with done:=dn' } (nxt (Ls.drop (i+1)))->Closed n i ({ L with done:=dn' }::Ls.drop (i+1))->Q .non H') /\
 ∀(w':Own)(H':Hp)(dn':List Nat)(r:Addr)(rest:Row),Kp (lvP l i) w H w' H'->zI d w' H' l (Ls.set i { L with done:=dn' })->LvOk n i { L with done:=dn' }->zQ w' H' r rest->Pm n rest->(∀j,j<i+1->at_ rest j=j)->Made n L.makers rest->rest∉mems n (zm (i+1) (Ls.drop (i+1)))->Lk n { L with done:=dn' } (nxt (Ls.drop (i+1))++[rest])->Q (.ref r) H'
def qh(_:PySem.W.Frag)(d:Ad):Sp:=λvs H Q _=>∃(l r:Addr)(n:Nat)(w:Own)(L:Lv)(Ls:List Lv)(row:Row),vs=[.ref l,.ref r]/\zS w H/\zI d w H l (L::Ls)/\zQ w H r row/\Pm n row/\n<=34/\Rest n 0 (L::Ls)/\row∉mems n (zm 0 (L::Ls)) /\
 ∀(w':Own)(H':Hp)(L':Lv)(Ls':List Lv),Kp (grP l) w H w' H'->zI d w' H' l (L'::Ls')->Rest n 0 (L'::Ls')->L'.makers=L.makers++[row]->Q .non H'
end Gd
end
section
set_option Elab.async false
set_option autoImplicit false
set_option linter.all false
set_option maxRecDepth 100000
set_option maxHeartbeats 2000000
namespace Gd
open PySem PyProof.Rows L2 GP
abbrev zaN(K:PySem.W.Frag)(d:Ad):TS :=
 (zg (yr (yA d.C_Level "take_maker" (qF K d) [] E0 (tOp (zu K) (za 0) (tC (.int 0))) (zb (za 1) zd)))
 (zg (zn (tC (.int 0)) (zl 2))
 (wa (ya (tOp (rI0 λi j=>V.bl (decide (j<=i))) (za 2) (tC (.int 0))))
  (zg (zn (zy (ZQ K d) [] E0 (zb (za 0) (zb (za 2) zd))) (zl 3))
  (zY (tB (Wk (za 3)))
   (xQ 2 (tC (.int 1)) (ipI λi j=>i-j))
   (zg (xQ 2 (tC (.int 1)) (ipI λi j=>i+j))
   (yr (yA d.C_Level "take_maker" (qF K d) [] E0 (tOp (zu K) (za 0) (za 2)) (zb (za 3) zd)))))))))
abbrev n_extend:List Str:=["levels","row","i","rest"]
abbrev zaL(K:PySem.W.Frag)(d:Ad):TS :=
 (zg (zn (tOp (zu K) (za 0) (za 1)) (zl 2))
 (zg (zY (ya (tOp rEq (zy (wF K d) [] E0 (zb (za 0) (zb (za 1) zd))) (yA d.C_Level "most_members" (ZV K d) [] E0 (za 2) zd)))
  (yr (yA d.C_Level "skip_untried" (qG K d) [] E0 (za 2) zd))
  z7)
 (zg (zn (yA d.C_Level "untried" (vg K d) [] E0 (za 2) zd) (zl 3))
 (zg (wa (tB (j0 (za 3)))
  (zg (zn (zy (yR K d) [] E0 (zb (za 3) (zb (yB (zt K (za 2) "back") (tOp (zu K) (za 3) (zt K (za 2) "point"))) zd))) (zl 4))
  (zg (zY (xP (tB (zy (wE K d) [] E0 (zb (za 0) (zb (tOp (rI0 λi j=>V.int (i+j)) (za 1) (tC (.int 1))) (zb (za 4) zd))))))
   (zE (za 4))
   z7)
  (zn (yA d.C_Level "untried" (vg K d) [] E0 (za 2) zd) (zl 3)))))
 (zE (tC .non))))))
abbrev n_first_stranger:List Str:=["levels","i","level","product","rest"]
end Gd
end
section
set_option Elab.async false
set_option autoImplicit false
set_option linter.all false
set_option maxRecDepth 100000
set_option maxHeartbeats 2000000
namespace Gd
open PySem PyProof.Rows L2 GP
open Md07 (Row then_ none_ at_ isPerm inversions Made made factorial)
section
variable{K:PySem.W.Frag}{d:Ad}{vs:List V}{H:Hp}{Q:VK}{E:XK}
theorem Wo{f:Nat->Nat}{b:Nat}:∀{l:List Nat}{k:Nat},k<l.length->f b<f (l.getD k 0)->((l.set k b).map f).sum<(l.map f).sum
 |[],k,h,_=>by simp at h
 |a::l,0,_,e=>by
  have e':f b<f a:=e
  simp only[List.set_cons_zero,List.map_cons,List.sum_cons]
  omega
 |a::l,k+1,h,e=>by
  have ih:=Wo (f:=f) (b:=b) (l:=l) (k:=k) (by simpa using h) (by simpa using e)
  simp only[List.set_cons_succ,List.map_cons,List.sum_cons]
  omega
theorem _root_.GP.LvOk.tried{n i:Nat}{L:Lv}(a:LvOk n i L){k:Nat}{xt:Nat×Row}(h2:L.out[L.done.getD k 0]? = some xt):LvOk n i { L with done:=L.done.set k (L.done.getD k 0+1) }:=by
 have hlt:=(List.getElem?_eq_some_iff.mp h2).1
 refine⟨⟨a.wf,a.mks,a.outm,by rw[List.length_set];exact a.dl,λx hx=>?_,a.kl,a.kn,a.ev⟩,a.cl⟩
 rcases List.mem_or_eq_of_mem_set hx with h|h
 .exact a.db x h
 .rw[h];exact hlt
theorem _root_.GP.LvOk.skip{n i:Nat}{L:Lv}(a:LvOk n i L):LvOk n i { L with done:=List.replicate L.makers.length L.out.length } :=
 ⟨⟨a.wf,a.mks,a.outm,List.length_replicate,λx hx=>by rw[(List.mem_replicate.mp hx).2];exact Nat.le_refl _,a.kl,a.kn,a.ev⟩,a.cl⟩
theorem zb3(T:Tx K d)(h:ZQ K d vs H Q E):zaL K d (DQ Q) (start n_first_stranger vs) H:=by
 obtain⟨l,i,n,w,Ls,L,rfl,ok,⟨as,hG⟩,fit,hn,eL,two,all,cl,kN,kS⟩:=h
 have hi:i<Ls.length:=(List.getElem?_eq_some_iff.mp eL).1
 have hin:i<n:=by rw[<- fit.len];exact hi
 obtain⟨a,ea,A,hA⟩:=hG.get eL
 have mlen:L.makers.length<128:=two.len hn all.1.pms
 have eD:Ls.drop i=L::Ls.drop (i+1):=by rw[List.drop_eq_getElem_cons hi,(List.getElem?_eq_some_iff.mp eL).2]
 refine⟨_,rfl,_,rfl,l,_,_,_,rfl,rfl,SqL.of hG.lst,wQ ea,?_⟩
 let Ok:Lv->Prop:=λM=>∃dn',M={ L with done:=dn' }/\LvOk n i M/\Lk n M (nxt (Ls.drop (i+1)))
 let Pend:Own->Hp->Lv->Addr->Prop:=λw' H' M p=>∃(M0:Lv)(k:Nat)(m:Row)(x:Nat)(t:Row),Ok M0/\M0.makers[k]? = some m/\M0.out[M0.done.getD k 0]? = some (x,t)/\M={ M0 with done:=M0.done.set k (M0.done.getD k 0+1) }/\zQ w' H' p (then_ t m)
 let mu:Lv->Nat:=λM=>(M.done.map λx=>M.out.length-x).sum
 have next:∀(w1:Own)(H1:Hp)(M:Lv)(Q':VK),Kp (lvP l i) w H w1 H1->yd d w1 H1 a l i M->Ok M ->
   (∀(w':Own)(H':Hp),Kp (lvP l i) w H w' H'->yd d w' H' a l i M->(∀k,k<M.makers.length->M.done.getD k 0=M.out.length)->Q' .non H') ->
   (∀(w':Own)(H':Hp)(M':Lv)(p:Addr),Kp (lvP l i) w H w' H'->yd d w' H' a l i M'->Pend w' H' M' p->mu M'<mu M->Q' (.ref p) H')->vg K d [.ref a] H1 Q' λ_ _ _=>False:=λw1 H1 M Q' k1 hL1 ⟨dn',eM,okM,lkM⟩ f1 f2=>by
  refine⟨a,l,i,n,w1,M,rfl,k1.ok,hL1,okM.toLvPre,hn,?_,λfull H' s=>?_,λk m x t e1 e2 w' H' p k' hL' rp=>?_⟩
  .rw[eM];show L.makers.length<=500;omega
  .obtain⟨A1,hA1⟩:=hL1
   exact f1 w1 H' (k1.lay s) ⟨A1,hA1.lay s⟩ full
  .refine f2 w' H' _ p (k1.trans k') hL' ⟨M,k,m,x,t,⟨dn',eM,okM,lkM⟩,e1,e2,rfl,rp⟩ ?_
   have hk:k<M.done.length:=by rw[okM.dl];exact(List.getElem?_eq_some_iff.mp e1).1
   have hlt:=(List.getElem?_eq_some_iff.mp e2).1
   exact Wo (f:=λx=>M.out.length-x) hk (by show M.out.length-(M.done.getD k 0+1)<M.out.length-M.done.getD k 0;omega)
 have go:∀(w1:Own)(H1:Hp)(M:Lv)(u3 u4:Option V),Kp (lvP l i) w H w1 H1->yd d w1 H1 a l i M->Ok M ->
   (zg (zn (yA d.C_Level "untried" (vg K d) [] E0 (za 2) zd) (zl 3))
   (zg (wa (tB (j0 (za 3)))
    (zg (zn (zy (yR K d) [] E0 (zb (za 3) (zb (yB (zt K (za 2) "back") (tOp (zu K) (za 3) (zt K (za 2) "point"))) zd))) (zl 4))
    (zg (zY (xP (tB (zy (wE K d) [] E0 (zb (za 0) (zb (tOp (rI0 λi j=>V.int (i+j)) (za 1) (tC (.int 1))) (zb (za 4) zd))))))
     (zE (za 4))
     z7)
    (zn (yA d.C_Level "untried" (vg K d) [] E0 (za 2) zd) (zl 3)))))
   (zE (tC .non)))) (DQ Q) [some (.ref l),some (.int (i:Int)),some (.ref a),u3,u4] H1:=λw1 H1 M u3 u4 k1 hL1 okM=>by
  obtain⟨A1,hA1⟩:=hL1
  refine⟨_,rfl,a,_,_,rfl,hA1.ins,xy (by simp),?_⟩
  have W0:∀(σ:L2.St)(H':Hp),(∃(w':Own)(M':Lv),Kp (lvP l i) w H w' H'/\yd d w' H' a l i M'/\∃u4:Option V,(σ=[some (.ref l),some (.int (i:Int)),some (.ref a),some .non,u4]/\Ok M'/\∀k,k<M'.makers.length->M'.done.getD k 0=M'.out.length)∨∃p,σ=[some (.ref l),some (.int (i:Int)),some (.ref a),some (.ref p),u4]/\Pend w' H' M' p) ->
    (zg (wa (tB (j0 (za 3)))
    (zg (zn (zy (yR K d) [] E0 (zb (za 3) (zb (yB (zt K (za 2) "back") (tOp (zu K) (za 3) (zt K (za 2) "point"))) zd))) (zl 4))
    (zg (zY (xP (tB (zy (wE K d) [] E0 (zb (za 0) (zb (tOp (rI0 λi j=>V.int (i+j)) (za 1) (tC (.int 1))) (zb (za 4) zd))))))
     (zE (za 4))
     z7)
    (zn (yA d.C_Level "untried" (vg K d) [] E0 (za 2) zd) (zl 3)))))
   (zE (tC .non))) (DQ Q) σ H':=fun σ H' w0=>by
   refine⟨λm σ H'=>∃(w':Own)(M':Lv),Kp (lvP l i) w H w' H'/\yd d w' H' a l i M'/\∃u4:Option V,(σ=[some (.ref l),some (.int (i:Int)),some (.ref a),some .non,u4]/\Ok M'/\m=0/\∀k,k<M'.makers.length->M'.done.getD k 0=M'.out.length)∨∃p,σ=[some (.ref l),some (.int (i:Int)),some (.ref a),some (.ref p),u4]/\Pend w' H' M' p/\m=mu M'+1,?_,?_⟩
   .obtain⟨w',M',h1,h2,u4,⟨h3,h4,h5⟩|⟨p,h3,h4⟩⟩:=w0
    .exact⟨0,w',M',h1,h2,u4,.inl ⟨h3,h4,rfl,h5⟩⟩
    .exact⟨_,w',M',h1,h2,u4,.inr ⟨p,h3,h4,rfl⟩⟩
   .rintro m σ H' ⟨w',M',k',hL',u4,⟨rfl,⟨dn',eM,okM',lkM⟩,_,full⟩|⟨p,rfl,⟨M0,k,mr,x,t,⟨dn0,eM0,ok0,lk0⟩,e1,e2,eM,rp⟩,hmu⟩⟩
    .refine⟨_,rfl,_,rfl,?_⟩
     refine zM ?_
     have cl0:Closed n i (M'::Ls.drop (i+1)):=Closed.full ⟨okM',lkM,all.2.2⟩ cl full
     subst eM
     exact kN w' H' dn' k' ⟨as,hG.set ea k' hL'⟩ okM' lkM cl0
    .refine⟨_,rfl,_,rfl,?_⟩
     refine yj ⟨fun σ' H'=>∃m',m'<m/\∃(w':Own)(M':Lv),Kp (lvP l i) w H w' H'/\yd d w' H' a l i M'/\∃u4:Option V,(σ'=[some (.ref l),some (.int (i:Int)),some (.ref a),some .non,u4]/\Ok M'/\m'=0/\∀k,k<M'.makers.length->M'.done.getD k 0=M'.out.length)∨∃p,σ'=[some (.ref l),some (.int (i:Int)),some (.ref a),some (.ref p),u4]/\Pend w' H' M' p/\m'=mu M'+1,λ_ _ z=>z,?_⟩
     have hxt:(x,t)∈M0.out:=List.mem_of_getElem? e2
     have hm:mr∈M0.makers:=List.mem_of_getElem? e1
     have pt:=ok0.wf.pm x t hxt
     have pm:=ok0.pms mr hm
     have hx:=ok0.wf.key hxt
     have kmx:=ok0.cl x t mr hxt hm
     have hu:=ja ok0.wf.nd kmx
     have pu:=ok0.wf.pm _ _ hu
     have hox:M'.out=M0.out:=by rw[eM]
     have lku:M'.out.lookup (at_ mr x)=some (tOf M0.out (at_ mr x)):=by rw[hox];exact yN ok0.wf.nd hu
     have enx:at_ (then_ t mr) i=at_ mr x:=by rw[zJ (by rw[pt.1];exact hin),ok0.wf.tk x t hxt]
     obtain⟨A',hA'⟩:=hL'
     obtain⟨b,eb,rb⟩:=hA'.bad.get (x:=at_ mr x) (t:=inv (tOf M0.out (at_ mr x))) (by rw[Xv,lku];rfl)
     refine⟨_,rfl,_,rfl,kP hA'.ins T ⟨_,rfl,_,rfl,vx hA'.ins T ⟨p,_,_,_,rfl,rfl,SqL.of rp.at_,yC (by rw[yf,pt.1];exact hin),A'.b,.ref b,rfl,?_,?_⟩⟩⟩
     .rw[enx,<- eb];exact DGet.k (k:=Sum.inl ((at_ mr x:Nat):Int)) hA'.ba
     refine⟨p,b,then_ t mr,inv (tOf M0.out (at_ mr x)),rfl,rp.at_,rb.at_,λz hz=>by rw[vw,pu.1];exact(pt.then pm).lt hz,by rw[yf,pt.1];omega,λH2 r s2 hr2 hr2'=>?_⟩
     change At H2 r (resid M0.out t mr x) at hr2'
     obtain⟨rm,rf⟩:=Vy ok0 hxt hm
     have prr:Pm n (resid M0.out t mr x):=Made.perm ok0.pms rm
     have mM:M0.makers=L.makers:=by rw[eM0]
     have k2:=(k'.lay s2).name (t:=.row) (k'.free hr2) hr2' (λg z=>by cases z)
     have hA2:zW d (own w' r .row) H2 a l i M' A':=(hA'.lay s2).ownW (k'.ok.free hr2)
     have okM':LvOk n i M':=by rw[eM];exact ok0.tried e2
     have fit':Fit n (Ls.set i M'):=fit.set okM'
     have hG2:yE d (own w' r .row) H2 l (Ls.set i M') as:=hG.set ea k2 ⟨A',hA2⟩
     have ed2:(Ls.set i M').drop (i+1)=Ls.drop (i+1):=List.drop_set_of_lt (by omega)
     refine⟨_,rfl,_,rfl,_,_,rfl,rfl,_,rfl,?_⟩
     refine⟨l,r,i+1,n,own w' r .row,Ls.set i M',resid M0.out t mr x,rfl,⟨as,hG2⟩,hr2',prr,hn,fit'.len,fit'.pm,λH3 s3=>?_⟩
     rw[ed2]
     have k3:=k2.lay s3
     have hA3:=hA2.lay s3
     have sif:=vP (n:=n) (v7 (show i+1<=n by omega)) all.2.2.wf prr (λj hj=>rf j (xH.mp hj))
     refine⟨_,rfl,?_⟩
     cases hs:sift (zm (i+1) (Ls.drop (i+1))) (resid M0.out t mr x) with
     |false=>
      refine yj ?_
      have nm:resid M0.out t mr x∉mems n (zm (i+1) (Ls.drop (i+1))):=λz=>by
       rw[sif.mpr z] at hs;cases hs
      have hms:∀m,m∈nxt (Ls.drop (i+1))++[resid M0.out t mr x]->Pm n m:=λm hm=>by
       rcases List.mem_append.mp hm with z|z
       .exact all.2.2.pms m z
       .rw[List.mem_singleton.mp z];exact prr
      have lk':=Lk.tried (ms':=nxt (Ls.drop (i+1))++[resid M0.out t mr x]) ok0 lk0 e1 e2 hms (λm hm=>List.mem_append_left _ hm) (λm hm=>by
       rcases List.mem_append.mp hm with z|z
       .exact lk0.sub m z
       .rw[List.mem_singleton.mp z];exact rm) (Made.gen hms (List.mem_append_right _ (List.mem_singleton.mpr rfl)))
      rw[<- eM] at lk'
      have eM':M'={ L with done:=M0.done.set k (M0.done.getD k 0+1) }:=by rw[eM,eM0]
      have hG3:=hG.set ea k3 ⟨A',hA3⟩
      refine⟨_,rfl,?_⟩
      rw[eM'] at okM' lk' hG3
      exact kS _ _ _ r _ k3 ⟨as,hG3⟩ okM' ⟨s3 _ _ hr2',y4⟩ prr rf (by rw[<- mM];exact rm) nm lk'
     |true=>
      refine zM ?_
      have r':Made n (nxt (Ls.drop (i+1))) (resid M0.out t mr x):=vq all.2.2 _ (sif.mp hs)
      have lk':=Lk.tried (ms':=nxt (Ls.drop (i+1))) ok0 lk0 e1 e2 all.2.2.pms (λm hm=>hm) lk0.sub r'
      rw[<- eM] at lk'
      have okOk:Ok M':=⟨M0.done.set k (M0.done.getD k 0+1),by rw[eM,eM0],okM',lk'⟩
      refine⟨_,rfl,a,_,_,rfl,hA3.ins,xy (by simp),?_⟩
      refine next _ _ M' _ k3 ⟨A',hA3⟩ okOk (λw4 H4 k4 hL4 full=>?_) (λw4 H4 M4 p4 k4 hL4 pend hlt=>?_)
      .exact⟨0,by omega,w4,M',k4,hL4,_,.inl ⟨rfl,okOk,rfl,full⟩⟩
      .exact⟨mu M4+1,by omega,w4,M4,k4,hL4,_,.inr ⟨p4,rfl,pend,rfl⟩⟩
  refine next w1 H1 M _ k1 ⟨A1,hA1⟩ okM (λw4 H4 k4 hL4 full=>?_) (λw4 H4 M4 p4 k4 hL4 pend hlt=>?_)
  .exact W0 _ H4 ⟨w4,M,k4,hL4,u4,.inl ⟨rfl,okM,full⟩⟩
  .exact W0 _ H4 ⟨w4,M4,k4,hL4,u4,.inr ⟨p4,rfl,pend⟩⟩
 have okL:Ok L:=⟨L.done,rfl,all.1,all.2.1⟩
 refine⟨_,rfl,_,rfl,?_⟩
 refine⟨l,i,w,Ls,rfl,⟨as,hG⟩,λM hM=>Nat.le_trans (fit.le M hM) (by omega),λH1 s1=>?_⟩
 rw[eD]
 have hA1:=hA.lay s1
 refine⟨_,rfl,a,_,_,rfl,hA1.ins,xy (by simp),?_⟩
 refine⟨a,l,i,n,w,L,rfl,⟨A,hA1⟩,all.1.kl,hn,λH2 s2=>?_⟩
 have hA2:=hA1.lay s2
 have k2:Kp (lvP l i) w H w H2:=(Kp.refl ok).lay (s1.trans s2)
 refine⟨rfl,_,rfl,?_⟩
 refine jK (λq=>?_) (λq=>go w H2 L _ _ k2 ⟨A,hA2⟩ okL)
 have cl0:Closed n i (L::Ls.drop (i+1)):=Closed.most all (Int.ofNat_inj.mp q)
 refine⟨_,rfl,a,_,_,rfl,hA2.ins,xy (by simp),?_⟩
 refine⟨a,l,i,w,L,rfl,k2.ok,⟨A,hA2⟩,by omega,λw3 H3 k3 hL3=>?_⟩
 exact go w3 H3 _ _ _ (k2.trans k3) hL3 ⟨_,rfl,all.1.skip,Lk.skip all cl0 _⟩
theorem zb5(T:Tx K d)(h:qh K d vs H Q E):zaN K d (DQ Q) (start n_extend vs) H:=by
 obtain⟨l,r,n,w,L,Ls,row,rfl,ok,⟨as,hG⟩,hr,pm,hn,rest,nm,k⟩:=h
 obtain⟨xt,clf⟩:=rest.xt
 have cl0:=rest.closed
 have n1:0<n:=by rw[<- xt.len];exact Nat.succ_pos _
 obtain⟨a,ea,A,hA⟩:=hG.get (i:=0) (L:=L) rfl
 have nm0:¬Made n L.makers row:=λz=>nm (cl0 row z)
 obtain⟨ok0,_,two0⟩:=xt.ok 0 L rfl
 refine⟨_,rfl,l,_,_,_,rfl,rfl,SqL.of hG.lst,wQ (j:=0) ea,a,_,_,rfl,hA.ins,xy (by simp),_,rfl,?_⟩
 refine⟨a,r,l,0,n,w,L,row,rfl,ok,⟨A,hA⟩,hr,ok0.toLvPre,pm,λj hj=>absurd hj (Nat.not_lt_zero _),hn,by have:=two0.len hn ok0.pms;omega,λext okE w1 H1 k1 hL1=>?_⟩
 have xt1:Xt n ((L::Ls).set 0 { Lv.noted L row with out:=L.out++ext }):=Xt.add xt.len xt.ok (i:=0) rfl (λj M e _=>xt.lk j M e) (λj M e z=>by omega) pm nm0 okE
 have hG1:=hG.set ea k1 hL1
 have cf1:ve n 1 ((L::Ls).set 0 { Lv.noted L row with out:=L.out++ext }):=ve.set (λj hj hn=>clf j (Nat.zero_le _) hn) (by omega)
 refine⟨λm σ H'=>∃(c:Nat)(w':Own)(Ms:List Lv)(u:Option V),σ=[some (.ref l),some (.ref r),some (.int ((c:Int)-1)),u]/\m=left n Ms*(n+2)+c/\c<=n/\Kp (grP l) w H w' H'/\yE d w' H' l Ms as/\Xt n Ms/\ve n c Ms/\∀M,Ms[0]? = some M->M.makers=L.makers++[row],
  ⟨_,1,w1,_,none,rfl,rfl,n1,k1.mono jA,hG1,xt1,cf1,λM e=>by cases e;rfl⟩,?_⟩
 rintro m σ H' ⟨c,w',Ms,u,rfl,hm,hc,kp,hG',xt',cf,mk0⟩
 refine⟨_,rfl,_,_,rfl,rfl,_,rfl,?_⟩
 refine Xl (λq=>?_) (λq=>?_)
 .obtain⟨i,rfl⟩:∃i,c=i+1:=⟨c-1,by omega⟩
  have ei:((i+1:Nat):Int)-1=(i:Int):=by omega
  rw[ei]
  obtain⟨M,eM⟩:∃M,Ms[i]? = some M:=⟨_,List.getElem?_eq_getElem (show i<Ms.length by rw[xt'.len];omega)⟩
  have hil:i<Ms.length:=(List.getElem?_eq_some_iff.mp eM).1
  have all:=xt'.all (k:=n-i) (j:=i) (by omega)
  rw[xZ eM] at all
  obtain⟨okM,kxM,twM⟩:=xt'.ok i M eM
  have mk0':∀dn',∀M',(Ms.set i { M with done:=dn' })[0]? = some M'->M'.makers=L.makers++[row]:=λdn' M' e=>by
   by_cases z:i=0
   .subst z;rw[List.getElem?_set_self hil] at e;cases e;exact mk0 M eM
   .rw[List.getElem?_set_ne z] at e;exact mk0 M' e
  refine⟨fun σ' H'=>∃m',m'<m/\∃(c:Nat)(w':Own)(Ms:List Lv)(u:Option V),σ'=[some (.ref l),some (.ref r),some (.int ((c:Int)-1)),u]/\m'=left n Ms*(n+2)+c/\c<=n/\Kp (grP l) w H w' H'/\yE d w' H' l Ms as/\Xt n Ms/\ve n c Ms/\∀M,Ms[0]? = some M->M.makers=L.makers++[row],λ_ _ z=>z,?_⟩
  refine⟨_,rfl,_,rfl,?_⟩
  refine⟨l,i,n,w',Ms,M,rfl,kp.ok,⟨as,hG'⟩,⟨xt'.len,λj M e=>(xt'.ok j M e).1⟩,hn,eM,twM,all,cf (i+1) (Nat.le_refl _) hc,λw2 H2 dn' k2 hG2 ok2 lk2 cl2=>?_,λw2 H2 dn' r2 rs k2 hG2 ok2 rr2 pr2 fx2 md2 nm2 lk2=>?_⟩
  ·
   obtain⟨as2,hG2⟩:=hG2
   have eas:as2=as:=by
    have h1:=hG2.lst
    have h2:=k2.hp _ _ hG'.lst (λt e z=>by rw[hG'.tag] at e;cases e;obtain⟨_,q⟩:=z;cases q)
    rw[h1] at h2
    have:=HO.lst.inj (Option.some.inj h2)
    exact(List.map_inj_right (λa b h=>V.ref.inj h)).mp this
   subst eas
   refine⟨_,rfl,_,rfl,yj ⟨_,rfl,_,_,rfl,rfl,?_⟩⟩
   refine⟨_,?_,i,w2,Ms.set i { M with done:=dn' },_,rfl,rfl,by omega,kp.trans (k2.mono jA),hG2,xt'.done eM ok2 lk2,λj hj hjn=>?_,mk0' dn'⟩
   .rw[Xk (M:={ M with done:=dn' }) eM rfl,hm];omega
   .by_cases z:j=i
    .subst z;rw[kY hil];exact cl2
    .rw[jL (by omega)];exact cf j (by omega) hjn
  ·
   obtain⟨as2,hG2⟩:=hG2
   have eas:as2=as:=by
    have h1:=hG2.lst
    have h2:=k2.hp _ _ hG'.lst (λt e z=>by rw[hG'.tag] at e;cases e;obtain⟨_,q⟩:=z;cases q)
    rw[h1] at h2
    have:=HO.lst.inj (Option.some.inj h2)
    exact(List.map_inj_right (λa b h=>V.ref.inj h)).mp this
   subst eas
   have hlt:i+1<n:=by
    rcases Nat.lt_or_ge (i+1) n with z|z
    .exact z
    .exfalso
     apply nm2
     rw[List.drop_of_length_le (by rw[xt'.len];exact z)]
     refine List.mem_singleton.mpr (xR pr2.1 wo λj hj=>?_)
     rw[fx2 j (by omega),at_none hj]
   obtain⟨M1,eM1⟩:∃M1,Ms[i+1]? = some M1:=⟨_,List.getElem?_eq_getElem (show i+1<Ms.length by rw[xt'.len];omega)⟩
   have eM1':(Ms.set i { M with done:=dn' })[i+1]? = some M1:=by rw[List.getElem?_set_ne (by omega)];exact eM1
   obtain⟨okM1,kxM1,twM1⟩:=xt'.ok (i+1) M1 eM1
   have c1:=cf (i+1) (Nat.le_refl _) hc
   rw[xZ eM1] at c1 nm2
   have nmM:¬Made n M1.makers rs:=λz=>nm2 (c1 rs z)
   rw[kF eM1] at lk2
   obtain⟨b,eb,B,hB⟩:=hG2.get eM1'
   refine⟨_,rfl,_,rfl,zM ⟨_,rfl,_,_,rfl,rfl,?_⟩⟩
   refine⟨_,rfl,_,rfl,l,_,_,_,rfl,rfl,SqL.of hG2.lst,vG (j:=i+1) (by show(i:Int)+1=_;omega) (by rw[List.getElem?_map,eb];rfl),b,_,_,rfl,hB.ins,xy (by simp),_,rfl,?_⟩
   refine⟨b,r2,l,i+1,n,w2,M1,rs,rfl,k2.ok,⟨B,hB⟩,rr2,okM1.toLvPre,pr2,fx2,hn,by have:=twM1.len hn okM1.pms;omega,λext3 ok3 w3 H3 k3 hL3=>?_⟩
   have hM':∀p,p∈M1.makers++[rs]->Pm n p:=λm h=>by
    rcases List.mem_append.mp h with h|h
    .exact okM1.pms m h
    .rw[List.mem_singleton.mp h];exact pr2
   have xt3:Xt n ((Ms.set i { M with done:=dn' }).set (i+1) { Lv.noted M1 rs with out:=M1.out++ext3 }):=by
    refine Xt.add (L:=M1) (row:=rs) (ext:=ext3) (by rw[List.length_set];exact xt'.len) (λj N e=>?_) eM1' (λj N e z=>?_) (λj N e z=>?_) pr2 nmM ok3
    .by_cases z:i=j
     .subst z;rw[List.getElem?_set_self hil] at e;cases e;exact⟨ok2,kxM,twM⟩
     .rw[List.getElem?_set_ne z] at e;exact xt'.ok j N e
    .have z':i≠j:=by omega
     rw[List.getElem?_set_ne z'] at e
     have:=xt'.lk j N e
     by_cases y:j+1=i
     .subst y
      rw[kY hil]
      rw[xZ eM] at this
      exact this
     .rw[kE y];exact this
    .have:i=j:=by omega
     subst this
     rw[List.getElem?_set_self hil] at e;cases e;exact lk2
   refine⟨_,?_,i+2,w3,_,some (.ref r2),?_,rfl,by omega,(kp.trans (k2.mono jA)).trans (k3.mono jA),hG2.set eb k3 hL3,xt3,?_,?_⟩
   .have h1:=JC (M:={ Lv.noted M1 rs with out:=M1.out++ext3 }) hM' nmM rfl eM1'
    rw[Xk (M:={ M with done:=dn' }) eM rfl] at h1
    rw[hm]
    have h2:(left n ((Ms.set i { M with done:=dn' }).set (i+1) { Lv.noted M1 rs with out:=M1.out++ext3 })+1)*(n+2)<=left n Ms*(n+2):=Nat.mul_le_mul_right _ h1
    rw[Nat.add_mul,Nat.one_mul] at h2
    omega
   .have:((i+2:Nat):Int)-1=(i:Int)+1:=by omega
    rw[this];rfl
   .intro j hj hjn
    rw[jL (by omega),jL (by omega)]
    exact cf j (by omega) hjn
   .intro M' e
    rw[List.getElem?_set_ne (by omega)] at e
    exact mk0' dn' M' e
 .have hc0:c=0:=by omega
  subst hc0
  have rs:=xt'.rest cf (k:=n) (j:=0) (by omega)
  rw[List.drop_zero] at rs
  cases Ms with
  |nil=>have:=xt'.len;simp at this;omega
  |cons M Ms=>exact k w' H' M Ms kp ⟨as,hG'⟩ rs (mk0 M rfl)
end
end Gd
end
section
set_option Elab.async false
set_option autoImplicit false
set_option linter.all false
set_option maxRecDepth 100000
set_option maxHeartbeats 2000000
namespace Gd
open PySem PyProof.Rows L2 GP
open Md07 (Row then_ none_ at_ isPerm inversions Made made)
def Src(P:Addr->Prop)(kvs:List (Key×V)):Prop:=∀kv,kv∈kvs->∀a,kv.2=V.ref a->P a
theorem Src.put{P:Addr->Prop}{kvs:List (Key×V)}{k:Key}{a:Addr}(h:Src P kvs)(n:zX kvs k=none)(ha:P a):Src P (yp kvs k (.ref a)):=λkv hk b e=>by
 rw[YJ _ n] at hk
 rcases List.mem_append.mp hk with z|z
 .exact h kv z b e
 .rw[List.mem_singleton.mp z] at e;cases e;exact ha
def Q5(H:Hp)(T:Tv)(src:List (Key×V))(Q:VK):Prop:=∀(H':Hp)(q:Addr)(kvs:List (Key×V)),Same H H'->H q=none->H' q=some (.dK kvs)->yF H' kvs T->Src (λa=>H a=none∨∃k,(k,V.ref a)∈src) kvs->Q (.ref q) H'
structure DAt(n:Nat)(H:Hp)(a:Addr)(T:Tv)(kvs:List (Key×V)):Prop where
 at_:H a=some (.dK kvs)
 dh:yF H kvs T
 nd:(T.map Prod.fst).Nodup
 pm:∀x t,(x,t)∈T->Pm n t
 lt:∀x t,(x,t)∈T->x<n
theorem Jj{n:Nat}{l:List Nat}(nd:l.Nodup)(lt:∀x,x∈l->x<n):l.length<=n:=by
 have:=xW nd (l₂:=List.range n) (λx hx=>List.mem_range.mpr (lt x hx))
 rw[List.length_range] at this;exact this
theorem DAt.len{n:Nat}{H:Hp}{a:Addr}{T:Tv}{kvs:List (Key×V)}(h:DAt n H a T kvs):T.length<=n:=by
 have:=Jj h.nd (λx hx=>by
  obtain⟨⟨x',t⟩,h1,h2⟩:=List.mem_map.mp hx
  subst h2
  exact h.lt x' t h1)
 rw[List.length_map] at this;exact this
def ZP(_:PySem.W.Frag)(_:Ad):Sp:=λvs H Q _=>∃(h l:Addr)(p n:Nat)(Th Tl:Tv)(kh kl:List (Key×V)),vs=[.ref h,.ref l,.int p]/\DAt n H h Th kh/\DAt n H l Tl kl/\h≠l/\p<n/\n<=34/\Q5 H (below Th Tl p) [] Q
def ZL(_:PySem.W.Frag)(_:Ad):Sp:=λvs H Q _=>∃(h l:Addr)(b1 b2 n places:Nat)(Th Tl:Tv)(kh kl:List (Key×V)),vs=[.ref h,.ref l,.int places]/\DAt n H h Th kh/\DAt n H l Tl kl/\h≠l/\n<=34/\b2<n/\(b1,none_ n)∈Th/\(b2,none_ n)∈Tl /\
 ∀tk,Takes n Th Tl tk b2->(places<=tk.length∨Whole Th Tl tk)->Q5 H tk kl Q
structure MAdr where
 dx:Addr
 b:Addr
 o:Addr
 ds:List Addr
def mf(A:MAdr):List (Str×V):=[("base",.ref A.b),("outs",.ref A.o)]
theorem zdB{A:MAdr}:(mf A).lookup ("base":Str)=some (.ref A.b):=rfl
theorem zdz{A:MAdr}:(mf A).lookup ("outs":Str)=some (.ref A.o):=rfl
theorem Xe{A:MAdr}{m:Str}(h:m∈(["move_up","swap"]:List Str)):(mf A).lookup m=none:=by
 simp only[List.mem_cons,List.not_mem_nil,or_false] at h
 rcases h with rfl|rfl<;>rfl
theorem zdA{b o dx:Addr}:zp ("outs":Str) (.ref o) (zp ("base":Str) (.ref b) [])=mf ⟨dx,b,o,[]⟩:=rfl
structure xC(d:Ad)(n:Nat)(G G2:Addr->Prop)(H:Hp)(c:Addr)(C:Chain)(A:MAdr):Prop where
 ins:H c=some (.ins d.C_MovableChain A.dx (mf A))
 bs:At H A.b (C.map Prod.fst)
 os:H A.o=some (.lst (A.ds.map V.ref))
 ne:A.b≠A.o
 len:A.ds.length=C.length
 nd:A.ds.Nodup
 at_:∀(i:Nat)(a:Addr)(bT:Nat×Tv),A.ds[i]? = some a->C[i]? = some bT->G2 a/\∃kvs,DAt n H a bT.2 kvs/\Src (λr=>r≠A.b/\r≠A.o/\G r) kvs
def jV(A:MAdr)(H H':Hp):Prop:=∀b o,H b=some o->b≠A.b->b≠A.o->H' b=some o
def qE(_:PySem.W.Frag)(d:Ad):Sp:=λvs H Q _=>∃(x dx l:Addr)(n:Nat)(w:Own)(Ls:List Lv)(G G2:Addr->Prop),vs=[.ref x,.ref l]/\H x=some (.ins d.C_MovableChain dx [])/\zS w H/\zI d w H l Ls/\x≠l/\(∀i a,w a=some i->a≠x)/\(∀(j:Nat)(L:Lv),Ls[j]? = some L->LvOk n j L)/\Ls.length<=34/\n<=34/\(∀r,w r=some .row->G r)/\(∀r i j,w r=some (.part l i j)->G2 r) /\
 ∀(H':Hp)(A:MAdr),(∀b o,H b=some o->b≠x->H' b=some o)->H A.b=none->H A.o=none->xC d n G G2 H' x (zm 0 Ls) A->Q .non H'
def ZT(_:PySem.W.Frag)(d:Ad):Sp:=λvs H Q _=>∃(c:Addr)(k n:Nat)(P R:Chain)(b1 b2:Nat)(hi lo:Tv)(A:MAdr)(F:List Nat)(G G2:Addr->Prop),vs=[.ref c,.int k]/\(∀r,H r=none->G r/\G2 r)/\xC d n G G2 H c (P++(b1,hi)::(b2,lo)::R) A/\P.length=k/\n<=34/\(P++(b1,hi)::(b2,lo)::R).length<=34 /\
 (∀j,j∈F->j<n)/\WfC n F ((b1,hi)::(b2,lo)::R)/\ye n ((b1,hi)::(b2,lo)::R) /\
 ∀(H':Hp)(A':MAdr)(tk:Tv),A'.b=A.b->A'.o=A.o->jV A H H'->xC d n G G2 H' c (P++(b2,tk)::(b1,below hi lo b2)::R) A'->Takes n hi lo tk b2->Whole hi lo tk->Q .non H'
def qD(_:PySem.W.Frag)(d:Ad):Sp:=λvs H Q _=>∃(c:Addr)(k n p:Nat)(P R:Chain)(A:MAdr)(G G2:Addr->Prop),vs=[.ref c,.int p,.int k]/\(∀r,H r=none->G r/\G2 r)/\xC d n G G2 H c (P++R) A/\P.length=k/\n<=34/\(P++R).length<=34/\((P++R).map Prod.fst).Nodup/\p∈R.map Prod.fst /\
 WfC n [] (P++R)/\ye n (P++R) /\
 ∀(H':Hp)(A':MAdr)(T:Tv)(R':Chain),A'.b=A.b->A'.o=A.o->jV A H H'->xC d n G G2 H' c (P++(p,T)::R') A'->R'.map Prod.fst=(R.map Prod.fst).erase p->WfC n [] (P++(p,T)::R')->(∀q,q∈mems n ((p,T)::R')↔q∈mems n R)->Q .non H'
end Gd
end
section
set_option Elab.async false
set_option autoImplicit false
set_option linter.all false
set_option maxRecDepth 100000
set_option maxHeartbeats 2000000
namespace Gd
open PySem PyProof.Rows L2 GP
abbrev za7(K:PySem.W.Frag)(d:Ad):TS :=
 (zg (yY K (za 0) (tLc (yT K (za 1)) (zl 2) xc (zt K (za 2) "point") [2]) "base")
 (yY K (za 0) (tLc (yT K (za 1)) (zl 2) xc (zt K (za 2) "out") [2]) "outs"))
abbrev n_MovableChain_init:List Str:=["self","levels","level"]
abbrev za6(K:PySem.W.Frag)(d:Ad):TS :=
 (wa (ya (tOp rNe (tOp (zu K) (zt K (za 0) "base") (za 2)) (za 1)))
  (yr (yA d.C_MovableChain "swap" (ZT K d) [] E0 (za 0) (zb (tOp (rI0 λi j=>V.int (i-j)) (tBM K "list" (vQ K) (zt K (za 0) "base") (zb (za 1) zd)) (tC (.int 1))) zd))))
abbrev n_MovableChain_move_up:List Str:=["self","point","k"]
abbrev za5(K:PySem.W.Frag)(d:Ad):TS :=
 (zg (zn (tOp (zu K) (zt K (za 0) "base") (za 1)) (zl 2))
 (zg (zn (tOp (zu K) (zt K (za 0) "base") (tOp (rI0 λi j=>V.int (i+j)) (za 1) (tC (.int 1)))) (zl 3))
 (zg (zn (tOp (zu K) (zt K (za 0) "outs") (za 1)) (zl 4))
 (zg (zn (tOp (zu K) (zt K (za 0) "outs") (tOp (rI0 λi j=>V.int (i+j)) (za 1) (tC (.int 1)))) (zl 5))
 (zg (zn (zy (ZP K d) [] E0 (zb (za 4) (zb (za 5) (zb (za 3) zd)))) (zl 6))
 (zg (zn (zy (ZL K d) [] E0 (zb (za 4) (zb (za 5) (zb (tOp (rI y8 λi j=>V.int (i / j)) (tOp (rI CMul λi j=>V.int (i*j)) (tCB q0 (zb (za 4) zd)) (tCB q0 (zb (za 5) zd))) (tCB q0 (zb (za 6) zd))) zd)))) (wL (zt K (za 0) "outs") (za 1) xS))
 (zg (zn (za 6) (wL (zt K (za 0) "outs") (tOp (rI0 λi j=>V.int (i+j)) (za 1) (tC (.int 1))) xS))
 (zg (zn (za 3) (wL (zt K (za 0) "base") (za 1) xS))
 (zn (za 2) (wL (zt K (za 0) "base") (tOp (rI0 λi j=>V.int (i+j)) (za 1) (tC (.int 1))) xS))))))))))
abbrev n_MovableChain_swap:List Str:=["self","k","upper_point","lower_point","high","low","below"]
abbrev zaE(K:PySem.W.Frag)(d:Ad):TS :=
 (zg (zn ZC (zl 3))
 (zg (jb (y9 (v0 (za 0)) (zl 4)
  (zg (zn (tBM K "list" (vQ K) (yB (za 0) (za 4)) (zb (za 2) zd)) (zl 5))
  (zY (tB (ZD (za 5) (za 1)))
   (um (za 3) (za 4) (zy (yR K d) [] E0 (zb (yB (za 1) (za 5)) (zb (yB (za 0) (za 4)) zd))))
   z7))))
 (zE (za 3))))
abbrev n_leaving_lower:List Str:=["high","low","lower_point","found","x","y"]
abbrev zav(K:PySem.W.Frag)(d:Ad):TS :=
 (zg (zn (tCB VD (zb (za 1) zd)) (zl 3))
 (zg (jb (y9 (v0 (za 0)) (zl 4)
  (zY (ya (tOp (rI0 λi j=>V.bl (decide (i<j))) (tCB q0 (zb (za 3) zd)) (za 2)))
   (jb (y9 (v0 (za 1)) (zl 5)
    (zY (tB (j6 (tOp (zu K) (yB (za 0) (za 4)) (za 5)) (za 3)))
     (um (za 3) (tOp (zu K) (yB (za 0) (za 4)) (za 5)) (zy (yR K d) [] E0 (zb (yB (za 1) (za 5)) (zb (yB (za 0) (za 4)) zd))))
     z7)))
   z7)))
 (zE (za 3))))
abbrev n_taking_lower:List Str:=["high","low","places","found","x","y"]
end Gd
end
section
set_option Elab.async false
set_option autoImplicit false
set_option linter.all false
set_option maxRecDepth 100000
set_option maxHeartbeats 2000000
namespace Gd
open PySem PyProof.Rows L2 GP
open Md07 (Row then_ none_ at_ isPerm inversions Made made)
section
variable{K:PySem.W.Frag}{d:Ad}{vs:List V}{H:Hp}{Q:VK}{E:XK}
theorem Xr:∀l:List Nat,(iv l).all xk=true
 |[]=>rfl
 |_::l=>by show(true && (iv l).all xk)=true;rw[Xr l];rfl
abbrev Ix(K:PySem.W.Frag)(H:Hp)(a:Addr)(v:Nat)(Q:Nat->Prop):Prop:=∃(a':Addr)(ys:List V)(y:V)(j:Nat)(z:V),V.ref a=V.ref a'/\[V.int (v:Int)]=[y]/\SqL K H a' ys/\xk y=true/\ys.all xk=true/\ys[j]? = some z/\eqV z y=true/\(∀(m:Nat)(z':V),m<j->ys[m]? = some z'->eqV z' y=false)/\Q j
theorem J3{a:Addr}{l:List Nat}{j v:Nat}{Q:Nat->Prop}(h:At H a l)(nd:l.Nodup)(hj:l[j]? = some v)(q:Q j):Ix K H a v Q:=by
 obtain⟨h1,h2⟩:=List.getElem?_eq_some_iff.mp hj
 refine⟨a,iv l,.int (v:Int),j,.int (v:Int),rfl,rfl,SqL.of h,rfl,Xr l,by rw[uJ h1,yk h1,h2],by show((v:Int) == (v:Int))=true;exact beq_self_eq_true _,λm z' hm hz=>?_,q⟩
 obtain⟨hm',rfl⟩:=vv hz
 show(((at_ l m:Nat):Int) == (v:Int))=false
 rw[beq_eq_false_iff_ne]
 intro z
 have e:at_ l m=v:=Int.ofNat_inj.mp z
 rw[yk hm',<- h2] at e
 have:=(List.getElem_inj nd).mp e
 omega
theorem kQ{a:Addr}{t:Row}{n p:Nat}{Q:Nat->Prop}(h:At H a t)(pt:Pm n t)(hp:p<n)(q:Q (at_ (inv t) p)):Ix K H a p Q:=by
 refine J3 h pt.nodup ?_ q
 have hl:at_ (inv t) p<t.length:=by rw[pt.1];exact pt.inv.at_lt hp
 rw[List.getElem?_eq_getElem hl,<- yk hl,jS pt hp]
theorem zfs{hi lo:Tv}{p x:Nat}{t:Row}:below (hi++[(x,t)]) lo p=below hi lo p++(match lo.lookup (at_ (inv t) p) with
 |none=>[]
 |some l=>[(x,then_ l t)]):=by
 unfold below
 rw[List.filterMap_append]
 congr 1
 show List.filterMap _ [(x,t)]=_
 rw[List.filterMap_cons,List.filterMap_nil]
 cases lo.lookup (at_ (inv t) p)<;>rfl
theorem At.keepE{H':Hp}{a h:Addr}{l:List Nat}{o:HO}(k:∀b o,H b=some o->b≠h->H' b=some o)(hh:H h=some o)(ho:∀xs,o≠.lst xs)(x:At H a l):At H' a l:=k a _ x (xj x hh (λz=>ho _ z.symm))
theorem zbW(h:ZP K d vs H Q E):zaE K d (DQ Q) (start n_leaving_lower vs) H:=by
 obtain⟨h,l,p,n,Th,Tl,kh,kl,rfl,hh,hl,hne,hp,hn,k⟩:=h
 intro q hq
 have hq1:upd H q (.dK []) q=some (.dK []):=zj
 have nqh:h≠q:=zw hh.at_ hq
 refine⟨h,.dK kh,by rw[zh nqh];exact hh.at_,trivial,λod=>?_⟩
 have ky:∀b o,H b=some o->b≠h->upd (upd H q (.dK [])) h (.frz od (.dK kh)) b=some o:=λb o e ne=>by rw[zh ne,zh (zw e hq)];exact e
 have kh0:∀xs,HO.dK kh≠.lst xs:=λxs z=>by cases z
 refine⟨_,rfl,h,od,rfl,.inl ⟨kh,zj,kU (d:=h) (o:=od) (kvs:=kh) (λj σ H'=>∃(u v:Option V)(kvs:List (Key×V)),σ=[some (.ref h),some (.ref l),some (.int (p:Int)),some (.ref q),u,v]/\(∀b o,H b=some o->b≠h->H' b=some o)/\H' h=some (.frz od (.dK kh))/\H' q=some (.dK kvs)/\yF H' kvs (below (Th.take j) Tl p)/\Src (λa=>H a=none∨∃k,(k,V.ref a)∈([]:List (Key×V))) kvs)
  ⟨none,none,[],rfl,ky,zj,by rw[zh nqh.symm];exact zj,.nil,λkv hk=>by simp at hk⟩ (λj σ H' _ ⟨_,_,_,_,_,e,_⟩=>e) ?_ ?_⟩⟩
 .rintro j key v σ H' hkv ⟨u,v',kvs,rfl,kp,hf,hqd,hd,src⟩
  obtain⟨⟨x,t⟩,hxt,ek,_⟩:=Paired.get2 hh.dh hkv
  change key=Sum.inl (x:Int) at ek
  subst ek
  have mT:(x,t)∈Th:=List.mem_of_getElem? hxt
  have pt:=hh.pm x t mT
  have hjT:j<Th.length:=(List.getElem?_eq_some_iff.mp hxt).1
  have et:Th.take (j+1)=Th.take j++[(x,t)]:=by rw[List.take_succ_eq_append_getElem hjT,(List.getElem?_eq_some_iff.mp hxt).2]
  have dh':=hh.dh.same (H':=H') λb l e=>At.keepE kp hh.at_ kh0 e
  obtain⟨c,ec,rc⟩:=dh'.get (yN hh.nd mT)
  have gh:DGet H' h (.int (x:Int)) (some (.ref c)):=.inl ⟨kh,Sum.inl (x:Int),.inr ⟨od,hf⟩,rfl,ec.symm⟩
  have hl':H' l=some (.dK kl):=kp l _ hl.at_ hne.symm
  have dl':=hl.dh.same (H':=H') λb l e=>At.keepE kp hh.at_ kh0 e
  refine⟨_,rfl,_,rfl,h,.ref c,rfl,gh,.inl ⟨rfl,_,SqL.of rc⟩,_,rfl,kQ rc pt hp ?_⟩
  refine⟨_,rfl,_,rfl,l,_,rfl,DGet.k (k:=Sum.inl ((at_ (inv t) p:Nat):Int)) hl',_,rfl,?_⟩
  have eb:=zfs (hi:=Th.take j) (lo:=Tl) (p:=p) (x:=x) (t:=t)
  rw[<- et] at eb
  cases hlk:Tl.lookup (at_ (inv t) p) with
  |none=>
   rw[dl'.non hlk]
   rw[hlk] at eb
   refine zM ⟨_,_,kvs,rfl,kp,hf,hqd,?_,src⟩
   rw[eb];simpa using hd
  |some u1=>
   obtain⟨c2,ec2,rc2⟩:=dl'.get hlk
   rw[ec2]
   rw[hlk] at eb
   have pu:=hl.pm _ u1 (wr hlk)
   refine yj ?_
   refine⟨_,rfl,_,rfl,l,.ref c2,rfl,.inl ⟨kl,Sum.inl ((at_ (inv t) p:Nat):Int),.inl hl',rfl,ec2.symm⟩,_,rfl,_,rfl,h,.ref c,rfl,gh,?_⟩
   refine⟨c2,c,u1,t,rfl,rc2,rc,λz hz=>by rw[pt.1];exact pu.lt hz,by rw[pu.1];omega,λH2 r s2 hr hr2=>?_⟩
   have hq2:=s2 _ _ hqd
   have d2:=hd.same (H':=H2) λb l e=>s2 _ _ e
   have hnk:x∉(below (Th.take j) Tl p).map Prod.fst:=λz=>by
    have z2:=Zh.subset z
    have nd2:=hh.nd
    rw[<- List.take_append_drop j Th,List.map_append,List.nodup_append] at nd2
    refine nd2.2.2 x z2 x (List.mem_map.mpr ⟨(x,t),?_,rfl⟩) rfl
    rw[List.drop_eq_getElem_cons hjT,(List.getElem?_eq_some_iff.mp hxt).2]
    exact List.mem_cons_self
   refine⟨_,rfl,_,rfl,q,_,rfl,DPut.k (k:=Sum.inl (x:Int)) hq2 ?_,?_⟩
   .rw[d2.len]
    have:=Zh (hi:=Th.take j) (lo:=Tl) (b2:=p) |>.length_le
    rw[List.length_map,List.length_map,List.length_take] at this
    have h3:=hh.len
    exact yJ (by omega)
   .have d3:=d2.put (a:=r) (x:=x) (uE.mpr hnk) hr2
    have nq:∀{b:Addr}{l:List Nat},At H2 b l->b≠q:=λe=>xj e hq2 (λz=>by cases z)
    have hr0:H r=none:=by
     cases z:H r with
     |none=>rfl
     |some o=>
      by_cases y:r=h
      .rw[y,hf] at hr;cases hr
      .rw[kp r o z y] at hr;cases hr
    refine⟨_,_,_,rfl,λb o e ne=>?_,?_,zj,?_,src.put (d2.non (uE.mpr hnk)) (.inl hr0)⟩
    .rw[zh (zw e hq)];exact s2 _ _ (kp b o e ne)
    .rw[zh nqh];exact s2 _ _ hf
    .rw[eb]
     exact d3.same λb l e=>by show upd _ _ _ _=_;rw[zh (nq e)];exact e
 .rintro σ H' ⟨u,v',kvs,rfl,kp,hf,hqd,hd,src⟩
  refine⟨hf,_,rfl,?_⟩
  rw[hh.dh.len,List.take_length] at hd
  refine k _ q kvs (λb o e=>?_) hq (by rw[zh nqh.symm];exact hqd) (hd.same λb l e=>by show upd _ _ _ _=_;rw[zh (xj e hf (λz=>by cases z))];exact e) src
  by_cases z:b=h
  .subst z;rw[zj,<- hh.at_,e]
  .rw[zh z];exact kp b o e z
theorem _root_.GP.Takes.put{n b2:Nat}{hi lo tk:Tv}(h:Takes n hi lo tk b2){x y:Nat}{t u:Row}(h1:(x,t)∈hi)(h2:(y,u)∈lo)(hn:at_ t y∉keys tk):Takes n hi lo (tk++[(at_ t y,then_ u t)]) b2:=by
 refine⟨?_,List.mem_append_left _ h.one,λz v hz=>?_⟩
 .rw[List.map_append,List.nodup_append]
  refine⟨h.nd,by simp,λa ha b hb e=>?_⟩
  have:b=at_ t y:=by simpa using hb
  rw[e,this] at ha;exact hn ha
 .rcases List.mem_append.mp hz with hz|hz
  .exact h.from_ z v hz
  .cases List.mem_singleton.mp hz
   exact⟨x,t,y,u,h1,h2,rfl,rfl⟩
theorem zar{n b2:Nat}{hi lo tk:Tv}(h:Takes n hi lo tk b2)(ph:∀x t,(x,t)∈hi->Pm n t)(pl:∀y u,(y,u)∈lo->y<n):tk.length<=n:=by
 have:=Jj (n:=n) h.nd (λx hx=>by
  obtain⟨⟨x',t⟩,h1,h2⟩:=List.mem_map.mp hx
  subst h2
  obtain⟨a,b,c,e,g1,g2,g3,_⟩:=h.from_ x' t h1
  show x'<n
  rw[g3];exact(ph a b g1).at_lt (pl c e g2))
 rw[List.length_map] at this;exact this
theorem JJ{T:Tv}{x z:Nat}{t:Row}(h:z∈keys T):z∈keys (T++[(x,t)]):=by rw[kK];exact List.mem_append_left _ h
theorem zbN(h:ZL K d vs H Q E):zav K d (DQ Q) (start n_taking_lower vs) H:=by
 obtain⟨h,l,b1,b2,n,places,Th,Tl,kh,kl,rfl,hh,hl,hne,hn,hb2,one1,one2,k⟩:=h
 refine⟨_,rfl,l,kl,rfl,.inl hl.at_,λq hq=>?_⟩
 have nqh:h≠q:=zw hh.at_ hq
 have nql:l≠q:=zw hl.at_ hq
 have kh0:∀xs,HO.dK kh≠.lst xs:=λxs z=>by cases z
 have kl0:∀xs,HO.dK kl≠.lst xs:=λxs z=>by cases z
 have tk0:Takes n Th Tl Tl b2:=⟨hl.nd,one2,λz u hz=>⟨b1,none_ n,z,u,one1,hz,(at_none (hl.lt z u hz)).symm,(yL (hl.pm z u hz)).symm⟩⟩
 refine⟨h,.dK kh,by rw[zh nqh];exact hh.at_,trivial,λod=>?_⟩
 have ky:∀b o,H b=some o->b≠h->upd (upd H q (.dK kl)) h (.frz od (.dK kh)) b=some o:=λb o e ne=>by rw[zh ne,zh (zw e hq)];exact e
 have rows:∀{H':Hp},(∀b o,H b=some o->b≠h->b≠l->H' b=some o)->∀b r,At H b r->At H' b r:=λkp b r e=>kp b _ e (xj e hh.at_ (λz=>by cases z)) (xj e hl.at_ (λz=>by cases z))
 refine⟨_,rfl,h,od,rfl,.inl ⟨kh,zj,kU (d:=h) (o:=od) (kvs:=kh) (λj σ H'=>∃(u v:Option V)(kvs:List (Key×V)) (tk:Tv),σ=[some (.ref h),some (.ref l),some (.int (places:Int)),some (.ref q),u,v]/\(∀b o,H b=some o->b≠h->H' b=some o)/\H' h=some (.frz od (.dK kh))/\H' q=some (.dK kvs)/\yF H' kvs tk/\Src (λa=>H a=none∨∃k,(k,V.ref a)∈kl) kvs/\Takes n Th Tl tk b2/\(places<=tk.length∨∀x t y u,(x,t)∈Th.take j->(y,u)∈Tl->at_ t y∈keys tk))
  ⟨none,none,kl,Tl,rfl,ky,zj,by rw[zh nqh.symm];exact zj,hl.dh.same (rows λb o e n1 _=>ky b o e n1),λkv hk a e=>.inr ⟨kv.1,by rw[<- e];exact hk⟩,tk0,.inr λx t y u hx=>by simp at hx⟩ (λj σ H' _ ⟨_,_,_,_,_,_,e,_⟩=>e) ?_ ?_⟩⟩
 .rintro j key v σ H' hkv ⟨u,v',kvs,tk,rfl,kp,hf,hqd,hd,src,htk,wh⟩
  obtain⟨⟨x,t⟩,hxt,ek,_⟩:=Paired.get2 hh.dh hkv
  change key=Sum.inl (x:Int) at ek
  subst ek
  have mT:(x,t)∈Th:=List.mem_of_getElem? hxt
  have pt:=hh.pm x t mT
  have hjT:j<Th.length:=(List.getElem?_eq_some_iff.mp hxt).1
  have et:Th.take (j+1)=Th.take j++[(x,t)]:=by rw[List.take_succ_eq_append_getElem hjT,(List.getElem?_eq_some_iff.mp hxt).2]
  refine⟨_,rfl,q,kvs,rfl,hqd,_,rfl,_,_,rfl,rfl,_,rfl,?_⟩
  rw[hd.len]
  refine vW (λz=>?_) (λz=>?_)
  .have hl':H' l=some (.dK kl):=kp l _ hl.at_ hne.symm
   have wh':∀x t y u,(x,t)∈Th.take j->(y,u)∈Tl->at_ t y∈keys tk:=by
    rcases wh with w|w
    .omega
    .exact w
   refine⟨l,.dK kl,hl',trivial,λod2=>?_⟩
   refine⟨_,rfl,l,od2,rfl,.inl ⟨kl,zj,kU (d:=l) (o:=od2) (kvs:=kl) (λm σ H2=>∃(v:Option V)(kvs:List (Key×V)) (tk:Tv),σ=[some (.ref h),some (.ref l),some (.int (places:Int)),some (.ref q),some (.int (x:Int)),v]/\(∀b o,H b=some o->b≠h->b≠l->H2 b=some o)/\H2 h=some (.frz od (.dK kh))/\H2 l=some (.frz od2 (.dK kl))/\H2 q=some (.dK kvs)/\yF H2 kvs tk/\Src (λa=>H a=none∨∃k,(k,V.ref a)∈kl) kvs/\Takes n Th Tl tk b2/\(∀x t y u,(x,t)∈Th.take j->(y,u)∈Tl->at_ t y∈keys tk)/\∀y u,(y,u)∈Tl.take m->at_ t y∈keys tk)
    ⟨v',kvs,tk,rfl,λb o e n1 n2=>by rw[zh n2];exact kp b o e n1,by rw[zh hne];exact hf,zj,by rw[zh nql.symm];exact hqd,hd.same λb r e=>by show upd _ _ _ _=_;rw[zh (xj e hl' (λz=>by cases z))];exact e,src,htk,wh',λy u hy=>by simp at hy⟩ (λm σ H2 _ ⟨_,_,_,_,_,_,e,_⟩=>e) ?_ ?_⟩⟩
   .rintro m key v σ H2 hkv2 ⟨v2,kvs2,tk2,rfl,kp2,hf2,hl2,hqd2,hd2,src2,htk2,wh2,wh3⟩
    obtain⟨⟨y,ul⟩,hyl,ek,_⟩:=Paired.get2 hl.dh hkv2
    change key=Sum.inl (y:Int) at ek
    subst ek
    have mL:(y,ul)∈Tl:=List.mem_of_getElem? hyl
    have pu:=hl.pm y ul mL
    have hyn:=hl.lt y ul mL
    have hmT:m<Tl.length:=(List.getElem?_eq_some_iff.mp hyl).1
    have et2:Tl.take (m+1)=Tl.take m++[(y,ul)]:=by rw[List.take_succ_eq_append_getElem hmT,(List.getElem?_eq_some_iff.mp hyl).2]
    obtain⟨c,ec,rc⟩:=(hh.dh.same (rows kp2)).get (yN hh.nd mT)
    obtain⟨c2,ec2,rc2⟩:=(hl.dh.same (rows kp2)).get (yN hl.nd mL)
    have gh:DGet H2 h (.int (x:Int)) (some (.ref c)):=.inl ⟨kh,Sum.inl (x:Int),.inr ⟨od,hf2⟩,rfl,ec.symm⟩
    have gl:DGet H2 l (.int (y:Int)) (some (.ref c2)):=.inl ⟨kl,Sum.inl (y:Int),.inr ⟨od2,hl2⟩,rfl,ec2.symm⟩
    have ixc:=yC (l:=t) (i:=y) (by rw[pt.1];exact hyn)
    refine⟨_,rfl,_,rfl,h,.ref c,rfl,gh,_,rfl,c,_,_,_,rfl,rfl,SqL.of rc,ixc,_,rfl,q,_,rfl,DGet.k (k:=Sum.inl ((at_ t y:Nat):Int)) hqd2,_,rfl,?_⟩
    cases hlk:tk2.lookup (at_ t y) with
    |some w2=>
     obtain⟨c3,ec3,_⟩:=hd2.get hlk
     rw[ec3]
     refine zM ⟨_,kvs2,tk2,rfl,kp2,hf2,hl2,hqd2,hd2,src2,htk2,wh2,λy' u' hy'=>?_⟩
     rw[et2] at hy'
     rcases List.mem_append.mp hy' with hy' | hy'
     .exact wh3 y' u' hy'
     .cases List.mem_singleton.mp hy'
      exact List.mem_map.mpr ⟨_,wr hlk,rfl⟩
    |none=>
     rw[hd2.non hlk]
     have hnk:at_ t y∉keys tk2:=uE.mp hlk
     refine yj ?_
     refine⟨_,rfl,_,rfl,l,.ref c2,rfl,gl,_,rfl,_,rfl,h,.ref c,rfl,gh,?_⟩
     refine⟨c2,c,ul,t,rfl,rc2,rc,λz hz=>by rw[pt.1];exact pu.lt hz,by rw[pu.1];omega,λH3 r s3 hr hr3=>?_⟩
     have hq3:=s3 _ _ hqd2
     have d3:=hd2.same (H':=H3) λb l e=>s3 _ _ e
     have gh3:DGet H3 h (.int (x:Int)) (some (.ref c)):=.inl ⟨kh,Sum.inl (x:Int),.inr ⟨od,s3 _ _ hf2⟩,rfl,ec.symm⟩
     refine⟨_,rfl,_,rfl,_,rfl,h,.ref c,rfl,gh3,_,rfl,c,_,_,_,rfl,rfl,SqL.of (s3 _ _ rc),ixc,q,_,rfl,DPut.k (k:=Sum.inl ((at_ t y:Nat):Int)) hq3 ?_,?_⟩
     .rw[d3.len]
      have:=zar htk2 hh.pm hl.lt
      exact yJ (by omega)
     .have d4:=d3.put (a:=r) (x:=at_ t y) hlk hr3
      have nq:∀{b:Addr}{l:List Nat},At H3 b l->b≠q:=λe=>xj e hq3 (λz=>by cases z)
      have hr0:H r=none:=by
       cases z:H r with
       |none=>rfl
       |some o=>
        by_cases y1:r=h
        .rw[y1,hf2] at hr;cases hr
        .by_cases y2:r=l
         .rw[y2,hl2] at hr;cases hr
         .rw[kp2 r o z y1 y2] at hr;cases hr
      refine⟨_,_,tk2++[(at_ t y,then_ ul t)],rfl,λb o e n1 n2=>?_,?_,?_,zj,d4.same λb l e=>by show upd _ _ _ _=_;rw[zh (nq e)];exact e,src2.put (d3.non hlk) (.inl hr0),htk2.put mT mL hnk,λx' t' y' u' h1 h2=>JJ (wh2 x' t' y' u' h1 h2),λy' u' hy'=>?_⟩
      .rw[zh (zw e hq)];exact s3 _ _ (kp2 b o e n1 n2)
      .rw[zh nqh];exact s3 _ _ hf2
      .rw[zh nql];exact s3 _ _ hl2
      .rw[et2] at hy'
       rcases List.mem_append.mp hy' with hy' | hy'
       .exact JJ (wh3 y' u' hy')
       .cases List.mem_singleton.mp hy'
        rw[kK];exact List.mem_append_right _ (List.mem_singleton.mpr rfl)
   .rintro σ H2 ⟨v2,kvs2,tk2,rfl,kp2,hf2,hl2,hqd2,hd2,src2,htk2,wh2,wh3⟩
    rw[hl.dh.len,List.take_length] at wh3
    refine⟨hl2,_,_,kvs2,tk2,rfl,λb o e n1=>?_,by rw[zh hne];exact hf2,by rw[zh nql.symm];exact hqd2,hd2.same λb r e=>by show upd _ _ _ _=_;rw[zh (xj e hl2 (λz=>by cases z))];exact e,src2,htk2,.inr λx' t' y' u' h1 h2=>?_⟩
    .by_cases n2:b=l
     .subst n2;rw[zj,<- hl.at_,e]
     .rw[zh n2];exact kp2 b o e n1 n2
    .rw[et] at h1
     rcases List.mem_append.mp h1 with h1|h1
     .exact wh2 x' t' y' u' h1 h2
     .cases List.mem_singleton.mp h1
      exact wh3 y' u' h2
  .exact⟨_,_,kvs,tk,rfl,kp,hf,hqd,hd,src,htk,.inl (by omega)⟩
 .rintro σ H' ⟨u,v',kvs,tk,rfl,kp,hf,hqd,hd,src,htk,wh⟩
  refine⟨hf,_,rfl,?_⟩
  rw[hh.dh.len,List.take_length] at wh
  refine k tk htk (wh.imp (λw=>w) λw x t y u h1 h2=>w x t y u h1 h2) _ q kvs (λb o e=>?_) hq (by rw[zh nqh.symm];exact hqd) (hd.same λb l e=>by show upd _ _ _ _=_;rw[zh (xj e hf (λz=>by cases z))];exact e) src
  by_cases z:b=h
  .subst z;rw[zj,<- hh.at_,e]
  .rw[zh z];exact kp b o e z
theorem uM{c:Addr}{A:MAdr}{Q:V->Prop}(h:H c=some (.ins d.C_MovableChain A.dx (mf A)))(T:Tx K d)(q:Q (.ref A.b)):Fr K H c "base" Q:=⟨c,_,_,_,_,rfl,h,T.cM,T.base,zdB,q⟩
theorem vZ{c:Addr}{A:MAdr}{Q:V->Prop}(h:H c=some (.ins d.C_MovableChain A.dx (mf A)))(T:Tx K d)(q:Q (.ref A.o)):Fr K H c "outs" Q:=⟨c,_,_,_,_,rfl,h,T.cM,T.outs,zdz,q⟩
theorem yF.off{H':Hp}{P:Addr->Prop}:∀{kvs:List (Key×V)}{T:Tv},yF H kvs T->Src P kvs->(∀r l,P r->At H r l->At H' r l)->yF H' kvs T
 |_,_,.nil,_,_=>.nil
 |_,_,.cons (a:=kv) ⟨e,a,e2,x⟩ q,s,f=>.cons ⟨e,a,e2,f a _ (s kv List.mem_cons_self a e2) x⟩ (yF.off q (λkv h=>s kv (List.mem_cons_of_mem _ h)) f)
theorem DAt.off{n:Nat}{H':Hp}{a:Addr}{T:Tv}{kvs:List (Key×V)}{P:Addr->Prop}(h:DAt n H a T kvs)(s:Src P kvs)(f:∀r l,P r->At H r l->At H' r l)(e:H' a=some (.dK kvs)):DAt n H' a T kvs:=⟨e,yF.off h.dh s f,h.nd,h.pm,h.lt⟩
theorem Jq{ds:List Addr}{k:Nat}{a:Addr}:(ds.map V.ref).set k (.ref a)=(ds.set k a).map V.ref:=by rw[List.map_set]
theorem WD{α:Type}{P R:List α}{a b a' b':α}{k:Nat}(h:P.length=k):((P++a::b::R).set k a').set (k+1) b'=P++a'::b'::R:=by
 subst h
 rw[List.set_append_right _ _ (by omega),List.set_append_right _ _ (by omega),Nat.sub_self,show P.length+1-P.length=1 by omega];rfl
theorem vC{α:Type}{P R:List α}{a:α}{k:Nat}(h:P.length=k):(P++a::R)[k]? = some a:=by subst h;rw[List.getElem?_append_right (by omega),Nat.sub_self];rfl
theorem kT{α:Type}{P R:List α}{a b:α}{k:Nat}(h:P.length=k):(P++a::b::R)[k+1]? = some b:=by subst h;rw[List.getElem?_append_right (by omega),show P.length+1-P.length=1 by omega];rfl
theorem Y8{α:Type}{a:α}:∀{l:List α}{k:Nat},l.Nodup->a∉l->(l.set k a).Nodup
 |[],_,_,_=>List.nodup_nil
 |x::l,0,h,n=>by
  rw[List.set_cons_zero,List.nodup_cons]
  exact⟨λz=>n (List.mem_cons_of_mem _ z),(List.nodup_cons.mp h).2⟩
 |x::l,k+1,h,n=>by
  rw[List.set_cons_succ,List.nodup_cons]
  obtain⟨h1,h2⟩:=List.nodup_cons.mp h
  refine⟨λz=>?_,Y8 h2 λz=>n (List.mem_cons_of_mem _ z)⟩
  rcases List.mem_or_eq_of_mem_set z with z|z
  .exact h1 z
  .exact n (by rw[z];exact List.mem_cons_self)
theorem zco(T:Tx K d)(h:ZT K d vs H Q E):za5 K d (DQ Q) (start n_MovableChain_swap vs) H:=by
 obtain⟨c,k,n,P,R,b1,b2,hi,lo,A,F,G,G2,rfl,hG,ch,hk,hn,hlen,hF,wf,gr,kf⟩:=h
 have c0:(P++(b1,hi)::(b2,lo)::R)[k]? = some (b1,hi):=vC hk
 have c1:(P++(b1,hi)::(b2,lo)::R)[k+1]? = some (b2,lo):=kT hk
 have mb:((P++(b1,hi)::(b2,lo)::R).map Prod.fst)=P.map Prod.fst++b1::b2::R.map Prod.fst:=by rw[List.map_append];rfl
 have hk2:(P.map Prod.fst).length=k:=by rw[List.length_map];exact hk
 have lk:k+1<(P++(b1,hi)::(b2,lo)::R).length:=(List.getElem?_eq_some_iff.mp c1).1
 have bl:k+1<((P++(b1,hi)::(b2,lo)::R).map Prod.fst).length:=by rw[List.length_map];exact lk
 have a0:at_ ((P++(b1,hi)::(b2,lo)::R).map Prod.fst) k=b1:=by
  rw[mb];show List.getD _ k 0=b1;rw[List.getD_eq_getElem?_getD,vC hk2];rfl
 have a1:at_ ((P++(b1,hi)::(b2,lo)::R).map Prod.fst) (k+1)=b2:=by
  rw[mb];show List.getD _ (k+1) 0=b2;rw[List.getD_eq_getElem?_getD,kT hk2];rfl
 obtain⟨h,eh⟩:∃h,A.ds[k]? = some h:=⟨_,List.getElem?_eq_getElem (show k<A.ds.length by rw[ch.len];omega)⟩
 obtain⟨l,el⟩:∃l,A.ds[k+1]? = some l:=⟨_,List.getElem?_eq_getElem (show k+1<A.ds.length by rw[ch.len];omega)⟩
 obtain⟨_,kh,dh,sh⟩:=ch.at_ k h _ eh c0
 obtain⟨_,kl,dl,sl⟩:=ch.at_ (k+1) l _ el c1
 have hne:h≠l:=λz=>by
  subst z
  have:=zds ch.nd eh el
  omega
 have ek1:((k:Int)+1)=((k+1:Nat):Int):=by omega
 have lowW:=jd hF wf
 refine⟨_,rfl,uM ch.ins T ⟨_,rfl,A.b,_,_,_,rfl,rfl,SqL.of ch.bs,yC (by omega),?_⟩⟩
 rw[a0]
 refine⟨_,rfl,uM ch.ins T ⟨_,rfl,_,_,rfl,rfl,A.b,_,_,_,rfl,rfl,SqL.of ch.bs,vG (j:=k+1) ek1 (uJ bl),?_⟩⟩
 rw[a1]
 refine⟨_,rfl,vZ ch.ins T ⟨_,rfl,A.o,_,_,_,rfl,rfl,SqL.of ch.os,wQ eh,?_⟩⟩
 refine⟨_,rfl,vZ ch.ins T ⟨_,rfl,_,_,rfl,rfl,A.o,_,_,_,rfl,rfl,SqL.of ch.os,vG (j:=k+1) ek1 (by rw[List.getElem?_map,el];rfl),?_⟩⟩
 refine⟨_,rfl,_,rfl,_,rfl,?_⟩
 refine⟨h,l,b2,n,hi,lo,kh,kl,rfl,dh,dl,hne,wf.2.1.lt,hn,λH1 q1 kv1 s1 hq1 hq1' d1 src1=>?_⟩
 have dh1:DAt n H1 h hi kh:=dh.off (P:=λ_=>True) (λ_ _ _ _=>trivial) (λr l _ e=>s1 _ _ e) (s1 _ _ dh.at_)
 have dl1:DAt n H1 l lo kl:=dl.off (P:=λ_=>True) (λ_ _ _ _=>trivial) (λr l _ e=>s1 _ _ e) (s1 _ _ dl.at_)
 have bpos:0<(below hi lo b2).length:=List.length_pos_of_mem lowW.one
 have lh:hi.length<=n:=dh.len
 have ll:lo.length<=n:=dl.len
 have lb:(below hi lo b2).length<=n:=by
  have:=Zh (hi:=hi) (lo:=lo) (b2:=b2) |>.length_le
  rw[List.length_map,List.length_map] at this;omega
 refine⟨_,rfl,_,rfl,_,rfl,h,kh,rfl,dh1.at_,_,rfl,l,kl,rfl,dl1.at_,_,_,rfl,rfl,.inl ⟨by omega,by rw[dh1.dh.len];omega⟩,_,rfl,q1,kv1,rfl,hq1',_,_,rfl,rfl,?_,?_⟩
 .rw[d1.len];exact y8.of (by omega) (by omega)
 have epl:(((kh.length:Nat):Int)*((kl.length:Nat):Int)) / ((kv1.length:Nat):Int)=((hi.length*lo.length / (below hi lo b2).length:Nat):Int):=by
  rw[dh1.dh.len,dl1.dh.len,d1.len,Int.natCast_ediv,Int.natCast_mul]
 refine⟨h,l,b1,b2,n,hi.length*lo.length / (below hi lo b2).length,hi,lo,kh,kl,by rw[<- epl];rfl,dh1,dl1,hne,hn,wf.2.1.lt,wf.1.one,wf.2.1.one,λtk htk hwh H2 q2 kv2 s2 hq2 hq2' d2 src2=>?_⟩
 have whole:Whole hi lo tk:=by
  rcases hwh with z|z
  .exact Q7 hF wf gr htk z
  .exact z
 have s12:=s1.trans s2
 have i2:H2 c=some (.ins d.C_MovableChain A.dx (mf A)):=s12 _ _ ch.ins
 have cb:c≠A.b:=xj ch.ins ch.bs (λz=>by cases z)
 have co:c≠A.o:=xj ch.ins ch.os (λz=>by cases z)
 have os2:=s12 _ _ ch.os
 have bs2:=s12 _ _ ch.bs
 have e1:upd H2 A.o (.lst ((A.ds.map V.ref).set k (.ref q2))) c=some (.ins d.C_MovableChain A.dx (mf A)):=by rw[zh co];exact i2
 refine⟨_,rfl,vZ i2 T ⟨_,rfl,A.o,_,_,k,rfl,rfl,os2,vY (by rw[List.length_map,ch.len];omega),?_⟩⟩
 refine⟨_,rfl,_,rfl,vZ e1 T ⟨_,rfl,_,_,rfl,rfl,A.o,_,_,k+1,rfl,rfl,zj,?_,?_⟩⟩
 .rw[ek1];exact vY (by rw[List.length_set,List.length_map,ch.len];omega)
 rw[uZ,Jq,Jq]
 have hfo:∀{o:HO},upd H2 A.o o A.b=some (.lst (iv ((P++(b1,hi)::(b2,lo)::R).map Prod.fst))):=λ{o}=>by rw[zh ch.ne];exact bs2
 have e2:upd H2 A.o (.lst (((A.ds.set k q2).set (k+1) q1).map V.ref)) c=some (.ins d.C_MovableChain A.dx (mf A)):=by rw[zh co];exact i2
 refine⟨_,rfl,_,rfl,uM e2 T ⟨_,rfl,A.b,_,_,k,rfl,rfl,hfo,vY (by rw[zR];omega),?_⟩⟩
 refine⟨_,rfl,_,rfl,uM (A:=A) (by rw[zh cb];exact e2) T ⟨_,rfl,_,_,rfl,rfl,A.b,_,_,k+1,rfl,rfl,zj,?_,?_⟩⟩
 .rw[ek1];exact vY (by rw[List.length_set,zR];omega)
 rw[uZ,kM,kM,mb,WD hk2]
 let A':MAdr:={ A with ds:=(A.ds.set k q2).set (k+1) q1 }
 have kp:jV A H (upd (upd H2 A.o (.lst (((A.ds.set k q2).set (k+1) q1).map V.ref))) A.b (.lst (iv (P.map Prod.fst++b2::b1::R.map Prod.fst)))):=λb o e n1 n2=>by
  rw[zh n1,zh n2];exact s12 _ _ e
 have kp2:∀b o,H2 b=some o->b≠A.b->b≠A.o->upd (upd H2 A.o (.lst (((A.ds.set k q2).set (k+1) q1).map V.ref))) A.b (.lst (iv (P.map Prod.fst++b2::b1::R.map Prod.fst))) b=some o:=λb o e n1 n2=>by
  rw[zh n1,zh n2];exact e
 have dne:∀{a:Addr}{kvs:List (Key×V)},H2 a=some (.dK kvs)->a≠A.b/\a≠A.o:=λe=>⟨xj e bs2 (λz=>by cases z),xj e os2 (λz=>by cases z)⟩
 have mv:∀{a:Addr}{U:Tv}{kvs:List (Key×V)},DAt n H2 a U kvs->Src (λr=>r≠A.b/\r≠A.o/\G r) kvs->DAt n (upd (upd H2 A.o (.lst (((A.ds.set k q2).set (k+1) q1).map V.ref))) A.b (.lst (iv (P.map Prod.fst++b2::b1::R.map Prod.fst)))) a U kvs:=λda sa=>
  da.off sa (λr l' hr e=>kp2 r _ e hr.1 hr.2.1) (kp2 _ _ da.at_ (dne da.at_).1 (dne da.at_).2)
 have nb1:A.b≠q1:=zw ch.bs hq1
 have wl:=jd hF wf
 have wh:=ZH hF wf htk
 have q1f:∀a,a∈A.ds->a≠q1/\a≠q2:=λa ha=>by
  obtain⟨j,hj,e⟩:=List.getElem_of_mem ha
  obtain⟨_,kvs,da,_⟩:=ch.at_ j a _ (by rw[List.getElem?_eq_getElem hj,e]) (List.getElem?_eq_getElem (by rw[<- ch.len];exact hj))
  exact⟨zw da.at_ hq1,zw (s1 _ _ da.at_) hq2⟩
 have q12:q1≠q2:=zw hq1' hq2
 refine kf _ A' tk rfl rfl kp ⟨by rw[zh cb];exact e2,?_,?_,ch.ne,?_,?_,λi a bT ea eb=>?_⟩ htk whole
 .show upd _ _ _ _=_
  rw[zj,List.map_append];rfl
 .rw[zh ch.ne.symm,zj]
 .show((A.ds.set k q2).set (k+1) q1).length=_
  rw[List.length_set,List.length_set,ch.len,List.length_append,List.length_append];rfl
 .show((A.ds.set k q2).set (k+1) q1).Nodup
  have hk':k<A.ds.length:=by rw[ch.len];omega
  refine Y8 (Y8 ch.nd λz=>(q1f _ z).2 rfl) λz=>?_
  rcases List.mem_or_eq_of_mem_set z with z|z
  .exact(q1f _ z).1 rfl
  .exact q12 z
 .change ((A.ds.set k q2).set (k+1) q1)[i]? = some a at ea
  by_cases z1:k+1=i
  .subst z1
   rw[List.getElem?_set_self (by rw[List.length_set,ch.len];omega)] at ea
   cases ea
   rw[kT hk] at eb
   cases eb
   refine⟨(hG q1 hq1).2,kv1,mv ⟨s2 _ _ hq1',d1.same λr l' e=>s2 _ _ e,wl.nd,wl.pm,λx t h=>wl.key h⟩ ?_,?_⟩ <;>
   .intro kv hkv r er
    rcases src1 kv hkv r er with z|⟨_,z⟩
    .exact⟨λy=>(by rw[y,ch.bs] at z;cases z),λy=>(by rw[y,ch.os] at z;cases z),(hG r z).1⟩
    .simp at z
  .rw[List.getElem?_set_ne z1] at ea
   by_cases z2:k=i
   .subst z2
    rw[List.getElem?_set_self (by rw[ch.len];omega)] at ea
    cases ea
    rw[vC hk] at eb
    cases eb
    refine⟨(hG q2 (s1.free hq2)).2,kv2,mv ⟨hq2',d2,wh.nd,wh.pm,λx t h=>wh.key h⟩ ?_,?_⟩ <;>
    .intro kv hkv r er
     rcases src2 kv hkv r er with z|⟨kk,z⟩
     .exact⟨λy=>(by rw[y,s1 _ _ ch.bs] at z;cases z),λy=>(by rw[y,s1 _ _ ch.os] at z;cases z),(hG r (s1.free z)).1⟩
     .exact sl _ z r rfl
   .rw[List.getElem?_set_ne z2] at ea
    have eb':(P++(b1,hi)::(b2,lo)::R)[i]? = some bT:=by
     rw[<- WD (a:=(b1,hi)) (b:=(b2,lo)) hk,List.getElem?_set_ne z1,List.getElem?_set_ne z2] at eb
     exact eb
    obtain⟨ga,kvs,da,sa⟩:=ch.at_ i a bT ea eb'
    exact⟨ga,kvs,mv (da.off (P:=λ_=>True) (λ_ _ _ _=>trivial) (λr l _ e=>s12 _ _ e) (s12 _ _ da.at_)) sa,sa⟩
theorem zbr{C:Chain}{p:Nat}:∀{b:Nat}{T:Tv},p∈C.map Prod.fst->b≠p->p∈((b,T)::C).map Prod.fst->∃U b1 hi lo V,(b,T)::C=U++(b1,hi)::(p,lo)::V/\p∉(U++[(b1,hi)]).map Prod.fst:=by
 induction C with
 |nil=>intro b T h;simp at h
 |cons bT C ih=>
  obtain⟨b',T'⟩:=bT
  intro b T h hne _
  by_cases q:b'=p
  .subst q
   exact⟨[],b,T,T',C,rfl,by simpa using λz=>hne z.symm⟩
  .have h':p∈C.map Prod.fst:=by
    rcases List.mem_cons.mp h with z|z
    .exact absurd z.symm q
    .exact z
   obtain⟨U,b1,hi,lo,V,e,nm⟩:=ih (b:=b') (T:=T') h' q (List.mem_cons_of_mem _ h')
   refine⟨(b,T)::U,b1,hi,lo,V,by rw[e];rfl,λz=>?_⟩
   rcases List.mem_cons.mp z with z|z
   .exact hne z.symm
   .exact nm z
theorem XG{l r:List Nat}{p:Nat}(h:p∉l):(l++p::r).erase p=l++r:=by
 rw[List.erase_append_right _ h,List.erase_cons_head]
theorem zcp(T:Tx K d)(h:qD K d vs H Q E):za6 K d (DQ Q) (start n_MovableChain_move_up vs) H:=by
 obtain⟨c,k,n,p,P,R,A,G,G2,rfl,hG,ch,hk,hn,hlen,nd,hp,wf,gr,kf⟩:=h
 refine⟨λm σ H'=>∃(A':MAdr)(R':Chain),σ=[some (.ref c),some (.int (p:Int)),some (.int (k:Int))]/\A'.b=A.b/\A'.o=A.o/\jV A H H'/\xC d n G G2 H' c (P++R') A'/\((P++R').map Prod.fst).Nodup/\(P++R').length<=34/\p∈R'.map Prod.fst/\(R'.map Prod.fst).erase p=(R.map Prod.fst).erase p/\WfC n [] (P++R')/\ye n (P++R')/\(∀q,q∈mems n R'↔q∈mems n R)/\m=(R'.map Prod.fst).idxOf p,
  ⟨_,A,R,rfl,rfl,rfl,λb o e _ _=>e,ch,nd,hlen,hp,rfl,wf,gr,λq=>Iff.rfl,rfl⟩,?_⟩
 rintro m σ H' ⟨A',R',rfl,eb,eo,kp,ch',nd',hlen',hp',er,wf',gr',mem,hm⟩
 have free:∀r,H' r=none->H r=none:=λr hr=>by
  cases z:H r with
  |none=>rfl
  |some o=>
   by_cases y1:r=A.b
   .rw[y1,<- eb,ch'.bs] at hr;cases hr
   .by_cases y2:r=A.o
    .rw[y2,<- eo,ch'.os] at hr;cases hr
    .rw[kp r o z y1 y2] at hr;cases hr
 cases R' with
 |nil=>simp at hp'
 |cons bT R1=>
  obtain⟨b,U0⟩:=bT
  have hk2:(P.map Prod.fst).length=k:=by rw[List.length_map];exact hk
  have mb:(P++(b,U0)::R1).map Prod.fst=P.map Prod.fst++b::R1.map Prod.fst:=by rw[List.map_append];rfl
  have hkl:k<((P++(b,U0)::R1).map Prod.fst).length:=by rw[mb,List.length_append,hk2,List.length_cons];omega
  have a0:at_ ((P++(b,U0)::R1).map Prod.fst) k=b:=by
   rw[mb];show List.getD _ k 0=b;rw[List.getD_eq_getElem?_getD,vC hk2];rfl
  refine⟨_,rfl,uM ch'.ins T ⟨_,rfl,A'.b,_,_,_,rfl,rfl,SqL.of ch'.bs,yC hkl,_,rfl,rfl,_,rfl,?_⟩⟩
  rw[a0]
  refine ju (λq=>?_) (λq=>?_)
  .have q':b≠p:=λz=>q (by rw[z])
   have hp1:p∈R1.map Prod.fst:=by
    rcases List.mem_cons.mp hp' with z|z
    .exact absurd z.symm q'
    .exact z
   obtain⟨U,b1,hi,lo,Vv,eR,nm⟩:=zbr (b:=b) (T:=U0) hp1 q' hp'
   rw[eR] at ch' nd' hlen' er wf' gr' mem hm mb
   have eC:P++(U++(b1,hi)::(p,lo)::Vv)=(P++U)++(b1,hi)::(p,lo)::Vv:=by rw[List.append_assoc]
   rw[eC] at ch' nd' hlen' wf' gr'
   have hPU:(P++U).length=k+U.length:=by rw[List.length_append,hk]
   have nmU:p∉U.map Prod.fst:=λz=>nm (by rw[List.map_append];exact List.mem_append_left _ z)
   have hidx:(((P++U)++(b1,hi)::(p,lo)::Vv).map Prod.fst)[k+U.length+1]? = some p:=by
    rw[List.map_append]
    exact kT (P:=(P++U).map Prod.fst) (R:=Vv.map Prod.fst) (a:=b1) (b:=p) (by rw[List.length_map];exact hPU)
   obtain⟨hF,wfp⟩:=uc yD wf'
   have grp':=XA yD wf' gr'
   refine⟨fun σ' H'=>∃m',m'<m/\∃(A':MAdr)(R':Chain),σ'=[some (.ref c),some (.int (p:Int)),some (.int (k:Int))]/\A'.b=A.b/\A'.o=A.o/\jV A H H'/\xC d n G G2 H' c (P++R') A'/\((P++R').map Prod.fst).Nodup/\(P++R').length<=34/\p∈R'.map Prod.fst/\(R'.map Prod.fst).erase p=(R.map Prod.fst).erase p/\WfC n [] (P++R')/\ye n (P++R')/\(∀q,q∈mems n R'↔q∈mems n R)/\m'=(R'.map Prod.fst).idxOf p,λ_ _ z=>z,?_⟩
   refine⟨_,rfl,c,_,_,rfl,ch'.ins,Xe (by simp),_,rfl,uM ch'.ins T ⟨.inl ⟨rfl,_,SqL.of ch'.bs⟩,_,rfl,J3 ch'.bs nd' hidx ⟨_,_,rfl,rfl,?_⟩⟩⟩
   refine⟨c,k+U.length,n,P++U,Vv,b1,p,hi,lo,A',wH [] (P++U),G,G2,?_,λr hr=>hG r (free r hr),ch',hPU,hn,hlen',hF,wfp,grp',λH2 A2 tk e1 e2 kp2 ch2 htk hwh=>?_⟩
   .show[V.ref c,V.int (((k+U.length+1:Nat):Int)-1)]=_
    rw[show((k+U.length+1:Nat):Int)-1=((k+U.length:Nat):Int) by omega]
   .have swm:=Wn hF wfp grp' htk hwh
    have eC2:(P++U)++(p,tk)::(b1,below hi lo p)::Vv=P++(U++(p,tk)::(b1,below hi lo p)::Vv):=by rw[List.append_assoc]
    have wf2:WfC n [] ((P++U)++(p,tk)::(b1,below hi lo p)::Vv):=X8 wf' λw=>ZG hF w htk
    have mem2:∀q,q∈mems n ((P++U)++(p,tk)::(b1,below hi lo p)::Vv)↔q∈mems n ((P++U)++(b1,hi)::(p,lo)::Vv):=uB swm
    have pe:(((P++U)++(p,tk)::(b1,below hi lo p)::Vv).map Prod.fst).Perm (((P++U)++(b1,hi)::(p,lo)::Vv).map Prod.fst):=by
     have ma:∀X:Chain,((P++U)++X).map Prod.fst=(P++U).map Prod.fst++X.map Prod.fst:=λX=>List.map_append
     rw[ma,ma]
     exact List.Perm.append_left _ (List.Perm.swap _ _ _)
    refine⟨_,?_,A2,U++(p,tk)::(b1,below hi lo p)::Vv,rfl,e1.trans eb,e2.trans eo,λb' o' e n1 n2=>kp2 b' o' (kp b' o' e n1 n2) (by rw[eb];exact n1) (by rw[eo];exact n2),?_,?_,?_,?_,?_,?_,?_,?_,rfl⟩
    .rw[hm,List.map_append,List.map_append,List.idxOf_append,List.idxOf_append,if_neg nmU,if_neg nmU]
     have i1:((p,tk)::(b1,below hi lo p)::Vv).map Prod.fst=p::b1::Vv.map Prod.fst:=rfl
     have i2:((b1,hi)::(p,lo)::Vv).map Prod.fst=b1::p::Vv.map Prod.fst:=rfl
     have nb:b1≠p:=λz=>nm (by rw[List.map_append,z];exact List.mem_append_right _ (List.mem_singleton.mpr rfl))
     have i3:List.idxOf p (b1::p::Vv.map Prod.fst)=List.idxOf p (p::Vv.map Prod.fst)+1:=by
      rw[List.idxOf_cons,show(b1 == p)=false from beq_eq_false_iff_ne.mpr nb];rfl
     rw[i1,i2,List.idxOf_cons_self,i3]
     omega
    .rw[<- eC2];exact ch2
    .rw[<- eC2];exact pe.nodup_iff.mpr nd'
    .rw[<- eC2]
     have:=pe.length_eq
     rw[List.length_map,List.length_map] at this
     omega
    .rw[List.map_append];exact List.mem_append_right _ List.mem_cons_self
    .rw[<- er,List.map_append,List.map_append]
     show(U.map Prod.fst++p::(b1::Vv.map Prod.fst)).erase p=(U.map Prod.fst++b1::p::Vv.map Prod.fst).erase p
     rw[XG nmU]
     have nb:p∉U.map Prod.fst++[b1]:=by
      have:=nm
      rw[List.map_append] at this;exact this
     have:=XG (r:=Vv.map Prod.fst) nb
     rw[List.append_assoc,List.append_assoc] at this
     exact this.symm
    .rw[<- eC2];exact wf2
    .rw[<- eC2];exact ye.of mem2 gr'
    .intro q
     rw[<- mem]
     exact uB swm q
  .have q':b=p:=Int.ofNat_inj.mp q
   subst q'
   refine kf H' A' U0 R1 eb eo kp ch' ?_ wf' mem
   rw[<- er]
   show R1.map Prod.fst=(b::R1.map Prod.fst).erase b
   rw[List.erase_cons_head]
theorem Qx:∀{Ls:List Lv}{i j:Nat}{bT:Nat×Tv},(zm i Ls)[j]? = some bT->∃L,Ls[j]? = some L/\bT=(i+j,L.out)
 |[],i,j,bT,h=>by simp[zm] at h
 |L::Ls,i,0,bT,h=>by
  have:(i,L.out)=bT:=Option.some.inj h
  exact⟨L,rfl,this.symm⟩
 |L::Ls,i,j+1,bT,h=>by
  obtain⟨M,h1,h2⟩:=Qx (Ls:=Ls) (i:=i+1) (j:=j) h
  exact⟨M,h1,by rw[h2];congr 1;omega⟩
theorem uO:∀{Ls:List Lv}{i:Nat},(zm i Ls).length=Ls.length
 |[],_=>rfl
 |L::Ls,i=>by unfold zm;rw[List.length_cons,uO];rfl
theorem XT:∀{Ls:List Lv}{i j:Nat},j<Ls.length->((zm i Ls).map Prod.fst)[j]? = some (i+j)
 |[],_,_,h=>by simp at h
 |L::Ls,i,0,_=>rfl
 |L::Ls,i,j+1,h=>by
  have:=XT (Ls:=Ls) (i:=i+1) (j:=j) (by simpa using h)
  show((zm (i+1) Ls).map Prod.fst)[j]? = _
  rw[this];congr 1;omega
theorem zcq(T:Tx K d)(h:qE K d vs H Q E):za7 K d (DQ Q) (start n_MovableChain_init vs) H:=by
 obtain⟨x,dx,l,n,w,Ls,G,G2,rfl,hx,ok,⟨as,hG⟩,xl,wx,lok,hl34,hn,g1,g2,k⟩:=h
 refine⟨_,rfl,l,rfl,⟨_,SqL.of hG.lst⟩,λB hB=>?_⟩
 have hlen:(zm 0 Ls).length=as.length:=by rw[uO,hG.len]
 refine wt (K:=K) (a:=l) (xs:=as.map V.ref) (λi H'=>Same H H'/\At H' B (((zm 0 Ls).map Prod.fst).take i)) ⟨same_upd hB,zj⟩ (λi H' _ h=>SqL.of (h.1 _ _ hG.lst)) (λi y H' hy h=>?_) (λH1 h=>?_)
 .obtain⟨a,ha,rfl⟩:=wd hy
  obtain⟨L,hL,A,hA⟩:=(hG.lay h.1).get' ha
  have hi:i<Ls.length:=(List.getElem?_eq_some_iff.mp hL).1
  have hi2:i<((zm 0 Ls).map Prod.fst).length:=by rw[List.length_map,uO];exact hi
  have ef:at_ ((zm 0 Ls).map Prod.fst) i=i:=by
   show List.getD _ i 0=i
   rw[List.getD_eq_getElem?_getD,XT hi,Nat.zero_add];rfl
  refine⟨rfl,yes ?_⟩
  refine⟨_,rfl,vx hA.ins T ⟨_,h.2,?_,h.1.upd hB,?_⟩⟩
  .rw[zR,List.length_take,List.length_map,uO];exact yJ (by omega)
  .show upd _ _ _ _=_
   have:=jD hi2
   rw[ef] at this
   rw[zj,this]
 have hb1:=h.2
 rw[List.length_map,List.take_of_length_le (by rw[List.length_map,hlen];exact Nat.le_refl _)] at hb1
 have s1:=h.1
 have xB:x≠B:=zw hx hB
 refine⟨_,rfl,x,_,_,_,rfl,s1 _ _ hx,T.cM,T.base,by show 0<1000;decide,?_⟩
 have k1:∀b o,H b=some o->b≠x->upd H1 x (.ins d.C_MovableChain dx (zp ("base":Str) (.ref B) [])) b=some o:=λb o e ne=>by rw[zh ne];exact s1 _ _ e
 have wx':∀t,w x=some t->False:=λt e=>wx t x e rfl
 have hG2:yE d w (upd H1 x (.ins d.C_MovableChain dx (zp ("base":Str) (.ref B) []))) l Ls as:=by
  have hG1:=hG.lay s1
  exact⟨k1 _ _ hG.lst xl.symm,hG.tag,hG.len,λi a L e1 e2=>let ⟨A,hA⟩:=hG1.at_ i a L e1 e2;⟨A,hA.updO λt e=>(wx' t e).elim⟩⟩
 have hB2:At (upd H1 x (.ins d.C_MovableChain dx (zp ("base":Str) (.ref B) []))) B ((zm 0 Ls).map Prod.fst):=by show upd _ _ _ _=_;rw[zh xB.symm];exact hb1
 have hx2:upd H1 x (.ins d.C_MovableChain dx (zp ("base":Str) (.ref B) [])) x=some (.ins d.C_MovableChain dx (zp ("base":Str) (.ref B) [])):=zj
 have fr2:∀a,upd H1 x (.ins d.C_MovableChain dx (zp ("base":Str) (.ref B) [])) a=none->H a=none:=λa e=>s1.free (upd_none e).1
 revert k1 hG2 hB2 hx2 fr2
 generalize upd H1 x (.ins d.C_MovableChain dx (zp ("base":Str) (.ref B) []))=H2
 intro k1 hG2 hB2 hx2 fr2
 refine⟨_,rfl,l,rfl,⟨_,SqL.of hG2.lst⟩,λO hO=>?_⟩
 refine wt (K:=K) (a:=l) (xs:=as.map V.ref) (λi H'=>Same H2 H'/\∃ds:List Addr,H' O=some (.lst (ds.map V.ref))/\ds.length=i/\∀(j:Nat)(c:Addr),ds[j]? = some c->∃L A a,Ls[j]? = some L/\zW d w H2 a l j L A/\A.o=c) ⟨same_upd hO,[],zj,rfl,λj c e=>by simp at e⟩ (λi H' _ h=>SqL.of (h.1 _ _ hG2.lst)) (λi y H' hy h=>?_) (λH3 h=>?_)
 .obtain⟨a,ha,rfl⟩:=wd hy
  obtain⟨s3,ds,hds,hdl,hdg⟩:=h
  obtain⟨L,hL,A,hA⟩:=hG2.get' ha
  have hi:i<Ls.length:=(List.getElem?_eq_some_iff.mp hL).1
  refine⟨rfl,yes ?_⟩
  refine⟨_,rfl,vy (s3 _ _ hA.ins) T ⟨_,hds,by rw[List.length_map,hdl];exact yJ (by omega),s3.upd hO,ds++[A.o],?_,by rw[List.length_append,hdl];rfl,λj c e=>?_⟩⟩
  .rw[zj,List.map_append];rfl
  .by_cases q:j<ds.length
   .rw[List.getElem?_append_left q] at e;exact hdg j c e
   .rw[List.getElem?_append_right (by omega)] at e
    have e0:j-ds.length=0:=by
     have:=(List.getElem?_eq_some_iff.mp e).1
     simp at this;omega
    rw[e0] at e;cases e
    have:j=i:=by omega
    subst this
    exact⟨L,A,a,hL,hA,rfl⟩
 obtain⟨s3,ds,hds,hdl,hdg⟩:=h
 rw[List.length_map] at hdl
 have xO:x≠O:=zw hx2 hO
 have BO:B≠O:=zw hB2 hO
 refine⟨_,rfl,x,_,_,_,rfl,s3 _ _ hx2,T.cM,T.outs,by show 1<1000;decide,?_⟩
 rw[zdA (dx:=dx)]
 have k3:∀b o,H2 b=some o->b≠x->upd H3 x (.ins d.C_MovableChain dx (mf ⟨dx,B,O,[]⟩)) b=some o:=λb o e ne=>by rw[zh ne];exact s3 _ _ e
 refine k _ ⟨dx,B,O,ds⟩ (λb o e ne=>k3 b o (k1 b o e ne) ne) hB (fr2 O hO) ⟨zj,k3 _ _ hB2 xB.symm,by rw[zh xO.symm];exact hds,BO,by rw[hdl,hlen],?_,λi a bT e1 e2=>?_⟩
 .show ds.Nodup
  rw[List.nodup_iff_pairwise_ne,List.pairwise_iff_getElem]
  intro i j hi hj hij z
  obtain⟨L1,A1,a1,_,h1,e1⟩:=hdg i _ (List.getElem?_eq_getElem hi)
  obtain⟨L2,A2,a2,_,h2,e2⟩:=hdg j _ (List.getElem?_eq_getElem hj)
  have t1:=h1.tou
  have t2:=h2.tou
  rw[e1] at t1
  rw[e2,<- z,t1] at t2
  injection t2 with t2
  injection t2 with _ t2 _
  omega
 .obtain⟨L,hL,eT⟩:=Qx e2
  obtain⟨L',A,a',hL',hA,eA⟩:=hdg i a e1
  rw[hL] at hL';cases hL'
  subst eT
  have okL:=lok i L hL
  have nr:∀{r:Addr}{t:Tag},w r=some t->r≠x:=λe=>wx _ _ e
  refine⟨g2 a i 2 (by rw[<- eA];exact hA.tou),A.kvs,⟨by rw[<- eA];exact k3 _ _ hA.ou (nr hA.tou),?_,okL.wf.nd,okL.wf.pm,λy t h=>okL.wf.key h⟩,λkv hkv r er=>?_⟩
  .exact Paired.mapP hA.oud λ_ _ ⟨e,c,e2,rc⟩=>⟨e,c,e2,k3 _ _ rc.at_ (nr rc.tag)⟩
  .obtain⟨j,hj,ej⟩:=List.getElem_of_mem hkv
   obtain⟨_,_,_,c,ec,rc⟩:=Paired.get2 hA.oud (List.getElem?_eq_getElem hj)
   rw[ej,er] at ec
   cases ec
   refine⟨λz=>?_,zw rc.at_ hO,g1 r rc.tag⟩
   have z':r=B:=z
   have tb:=rc.tag
   rw[z',ok.free hB] at tb
   cases tb
end
end Gd
end
section
set_option Elab.async false
set_option autoImplicit false
set_option linter.all false
set_option maxRecDepth 100000
set_option maxHeartbeats 2000000
namespace Gd
open PySem PyProof.Rows L2 GP
open Md07 (Row then_ none_ at_ isPerm inversions Made made least)
def ZO(_:PySem.W.Frag)(d:Ad):Sp:=λvs H Q _=>∃(l:Addr)(p n:Nat)(w:Own)(Ls:List Lv),vs=[.ref l,.int p]/\zS w H/\zI d w H l Ls/\Rest n 0 Ls/\n<=34/\p<n /\
 ∀(w':Own)(H':Hp)(l':Addr)(Ls':List Lv),Kp P0 w H w' H'->H l'=none->zI d w' H' l' Ls'->Rest n 0 Ls'->(∀q,q∈mems n (zm 0 Ls')↔q∈mems n (zm 0 Ls)/\at_ q p=p)->Q (.ref l') H'
def ZR(_:PySem.W.Frag)(d:Ad):Sp:=λvs H Q _=>∃(l r:Addr)(n:Nat)(w:Own)(Ls:List Lv)(row:Row)(g:List Row),vs=[.ref l,.ref r]/\zS w H/\zI d w H l Ls/\Rest n 0 Ls/\n<=34/\At H r row/\Pm n row/\(∀q,q∈mems n (zm 0 Ls)↔q∈g)/\uV H (least (g.map λ(q:Row)=>then_ row q)) Q
def qe(_:PySem.W.Frag)(d:Ad):Sp:=λvs H Q _=>∃(l m:Addr)(n:Nat)(w:Own)(L:Lv)(Ls Ms:List Lv),vs=[.ref l,.ref m]/\zS w H/\zI d w H l (L::Ls)/\zI d w H m Ms/\Rest n 0 (L::Ls)/\Rest n 0 Ms/\n<=34/\Just H (.bl (L.makers.all λp=>sift (zm 0 Ms) p)) Q
def spJ(J:Nat->Nat->Prop)(d:Ad):Sp:=λvs H Q _=>∃(l m:Addr)(n:Nat)(w:Own)(L M:Lv)(Ls Ms:List Lv),vs=[.ref l,.ref m]/\zS w H/\zI d w H l (L::Ls)/\zI d w H m (M::Ms)/\Rest n 0 (L::Ls)/\Rest n 0 (M::Ms)/\n<=34/\J (size (zm 0 (L::Ls))) (size (zm 0 (M::Ms))) /\
 ∀(w':Own)(H':Hp)(l':Addr)(N:Lv)(Ns:List Lv),Kp P0 w H w' H'->H l'=none->zI d w' H' l' (N::Ns)->Rest n 0 (N::Ns)->(∀q,Made n N.makers q↔Made n (L.makers++M.makers) q)->Q (.ref l') H'
def Wx(_:PySem.W.Frag)(d:Ad):Sp:=spJ (λ_ _=>True) d
def ZN(_:PySem.W.Frag)(d:Ad):Sp:=λvs H Q _=>∃(l:Addr)(n k:Nat)(w:Own)(Ls:List Lv),vs=[.ref l,.int k]/\zI d w H l Ls/\Rest n 0 Ls/\n<=34/\k<size (zm 0 Ls)/\uV H (atC (zm 0 Ls) (none_ n) k) Q
def ZM(_:PySem.W.Frag)(d:Ad):Sp:=λvs H Q _=>∃(l r:Addr)(n:Nat)(w:Own)(Ls:List Lv)(row:Row),vs=[.ref l,.ref r]/\zI d w H l Ls/\Rest n 0 Ls/\n<=34/\At H r row/\row∈mems n (zm 0 Ls)/\Just H (.int (xo (zm 0 Ls) (none_ n) row)) Q
end Gd
end
section
set_option Elab.async false
set_option autoImplicit false
set_option linter.all false
set_option maxRecDepth 100000
set_option maxHeartbeats 2000000
namespace Gd
open PySem PyProof.Rows L2 GP
abbrev zaD(K:PySem.W.Frag)(d:Ad):TS :=
 (zg (zn (j4 d.C_MovableChain (qE K d) [] E0 (zb (za 0) zd)) (zl 2))
 (zg (yr (yA d.C_MovableChain "move_up" (qD K d) [] E0 (za 2) (zb (za 1) (zb (tC (.int 0)) zd))))
 (zg (zn (tSl (we K) (zt K (za 2) "outs") (xf (tC (.int 1))) uf) (zl 3))
 (zg (yr (tBM K "list" VC (za 3) (zb (za 1) (zb (j5 [((za 1),(zy (vO K d) [] E0 (zb (tCB (zZ K) (zb (za 0) zd)) zd)))]) zd))))
 (zE (zy (qb K d) [] E0 (zb (za 3) zd)))))))
abbrev n_levels_leaving:List Str:=["levels","point","chain","outs"]
abbrev zaM(K:PySem.W.Frag)(d:Ad):TS :=
 (zg (zn (j4 d.C_MovableChain (qE K d) [] E0 (zb (za 0) zd)) (zl 2))
 (zg (zn (zy (vO K d) [] E0 (zb (tCB (zZ K) (zb (za 0) zd)) zd)) (zl 3))
 (zg (y9 (jG (zb (tCB (zZ K) (zb (za 0) zd)) zd)) (zl 4)
  (zg (zn (tOp (zu K) (zt K (za 2) "outs") (za 4)) (zl 5))
  (zg (zY (tB (ZD (tOp (zu K) (za 1) (za 4)) (za 5)))
   (zn (zy (yR K d) [] E0 (zb (za 1) (zb (zy (qg K d) [] E0 (zb (yB (za 5) (tOp (zu K) (za 1) (za 4))) zd)) zd))) (zl 1))
   (zg (yr (yA d.C_MovableChain "move_up" (qD K d) [] E0 (za 2) (zb (tOp (zu K) (za 1) (za 4)) (zb (za 4) zd))))
   (zn (tOp (zu K) (zt K (za 2) "outs") (za 4)) (zl 5))))
  (zg (zn (tCB (YF K) (zb (Zz (tLc (v0 (za 5)) (zl 7) xc (tOp (zu K) (za 3) (za 7)) [7])) zd)) (zl 6))
  (zn (zy (yR K d) [] E0 (zb (yB (za 5) (tBM K "list" (vQ K) (za 3) (zb (za 6) zd))) (zb (za 3) zd))) (zl 3))))))
 (zE (zy (yR K d) [] E0 (zb (za 1) (zb (za 3) zd)))))))
abbrev n_first_after:List Str:=["levels","row","chain","chosen","k","out","least","y"]
abbrev zaI(K:PySem.W.Frag)(d:Ad):TS :=
 (zE (tCB (jl K) (zb (tLc (yT K (zy (uj K d) [] E0 (zb (za 0) zd))) (zl 2) xc (zy (wE K d) [] E0 (zb (za 1) (zb (tC (.int 0)) (zb (za 2) zd)))) [2]) zd)))
abbrev n_is_inside:List Str:=["levels","others","maker"]
abbrev zaF(K:PySem.W.Frag)(d:Ad)(spIn:Sp):TS :=
 (zg (zY (ya (tOp (rI0 λi j=>V.bl (decide (i<j))) (zy (wF K d) [] E0 (zb (za 0) (zb (tC (.int 0)) zd))) (zy (wF K d) [] E0 (zb (za 1) (zb (tC (.int 0)) zd)))))
  (zE (zy spIn [] E0 (zb (za 1) (zb (za 0) zd))))
  z7)
 (zg (zn (zy (qb K d) [] E0 (zb (tLc (yT K (za 0)) (zl 4) xc (zt K (za 4) "out") [4]) zd)) (zl 2))
 (zg (y9 (yT K (zy (uj K d) [] E0 (zb (za 1) zd))) (zl 3)
  (zY (xP (tB (zy (wE K d) [] E0 (zb (za 2) (zb (tC (.int 0)) (zb (za 3) zd))))))
   (yr (zy (qh K d) [] E0 (zb (za 2) (zb (za 3) zd))))
   z7))
 (zE (za 2)))))
abbrev n_joined:List Str:=["levels","others","found","maker","level"]
abbrev zaA(K:PySem.W.Frag)(d:Ad):TS :=
 (zg (zn (zy (vO K d) [] E0 (zb (tCB (zZ K) (zb (za 0) zd)) zd)) (zl 2))
 (zg (zn (zy (wF K d) [] E0 (zb (za 0) (zb (tC (.int 0)) zd))) (zl 3))
 (zg (y9 (yT K (za 0)) (zl 4)
  (zg (xQ 3 (tCB (zZ K) (zb (zt K (za 4) "reached") zd)) (ipC y8 λi j=>i / j))
  (zg (zn (tCB (YD K) (zb (tLc (yT K (zt K (za 4) "reached")) (zl 6) xc (tOp (zu K) (za 2) (za 6)) [6]) zd)) (zl 5))
  (zg (zn (tBM K "list" (vQ K) (za 2) (zb (tOp (zu K) (za 5) (tOp (rI y8 λi j=>V.int (i / j)) (za 1) (za 3))) zd)) (zl 6))
  (zg (xQ 1 (za 3) (ipC (λ_ j=>0<j) λi j=>i % j))
  (zn (zy (yR K d) [] E0 (zb (yB (zt K (za 4) "out") (za 6)) (zb (za 2) zd))) (zl 2)))))))
 (zE (za 2)))))
abbrev n_member_at:List Str:=["levels","place","chosen","each","level","numbers","y"]
abbrev zaw(K:PySem.W.Frag)(d:Ad):TS :=
 (zg (zn (zy (vO K d) [] E0 (zb (tCB (zZ K) (zb (za 0) zd)) zd)) (zl 2))
 (zg (zn (zy (wF K d) [] E0 (zb (za 0) (zb (tC (.int 0)) zd))) (zl 3))
 (zg (zn (tC (.int 0)) (zl 4))
 (zg (y9 (yT K (za 0)) (zl 5)
  (zg (xQ 3 (tCB (zZ K) (zb (zt K (za 5) "reached") zd)) (ipC y8 λi j=>i / j))
  (zg (zn (tOp (zu K) (za 1) (zt K (za 5) "point")) (zl 6))
  (zg (xQ 4 (tOp (rI CMul λi j=>V.int (i*j)) (za 3) (tCB (zZ K) (zb (tLc (yT K (zt K (za 5) "reached")) (zl 7) (ya (tOp (rI0 λi j=>V.bl (decide (i<j))) (tOp (zu K) (za 2) (za 7)) (za 6))) (za 7) [7]) zd))) (ipI λi j=>i+j))
  (zn (zy (yR K d) [] E0 (zb (yB (zt K (za 5) "out") (tBM K "list" (vQ K) (za 2) (zb (za 6) zd))) (zb (za 2) zd))) (zl 2))))))
 (zE (za 4))))))
abbrev n_place_of:List Str:=["levels","row","chosen","each","place","level","number","y"]
end Gd
end
section
set_option Elab.async false
set_option autoImplicit false
set_option linter.all false
set_option maxRecDepth 100000
set_option maxHeartbeats 2000000
namespace Gd
open PySem PyProof.Rows L2 GP
open Md07 (Row then_ none_ at_ isPerm inversions Made made least)
section
variable{K:PySem.W.Frag}{d:Ad}{vs:List V}{H:Hp}{Q:VK}{E:XK}
theorem zab{n p:Nat}{F:List Nat}(hp:p<n)(hF:∀j,j∈F->j<n):WfL n F p [(p,none_ n)] :=
 ⟨hp,by simp,List.mem_singleton.mpr rfl,λx t h=>by cases List.mem_singleton.mp h;exact Pm.none,λx t h j hj=>by cases List.mem_singleton.mp h;exact at_none (hF j hj),λx t h=>by cases List.mem_singleton.mp h;exact at_none hp⟩
theorem X7{n p:Nat}(hp:p<n):∀{A B:Chain}{F G:List Nat},(∀j,j∈F->j<n)->(∀j,j∈G↔j=p∨j∈F)->WfC n G (A++B)->WfC n F (A++(p,[(p,none_ n)])::B)
 |[],B,F,G,hF,e,w=>⟨zab hp hF,WfC.swapF (λj=>by rw[e,List.mem_cons]) w⟩
 |(b,T)::A,B,F,G,hF,e,w=>⟨⟨w.1.lt,w.1.nd,w.1.one,w.1.pm,λx t h j hj=>w.1.fx x t h j ((e j).mpr (.inr hj)),w.1.tk⟩,X7 hp (G:=b::G) (xb hF w.1.lt) (λj=>by rw[List.mem_cons,List.mem_cons,e];constructor<;>(intro h;rcases h with h|h|h<;>simp[h])) w.2⟩
theorem zdC{n p:Nat}{B:Chain}(h:∀q,q∈mems n B->Pm n q)(q:Row):q∈mems n ((p,[(p,none_ n)])::B)↔q∈mems n B:=by
 rw[yi]
 constructor
 .rintro ⟨x,t,r,h1,h2,h3⟩
  cases List.mem_singleton.mp h1
  rw[h3,yL (h r h2)];exact h2
 .intro hq
  exact⟨p,none_ n,q,List.mem_singleton.mpr rfl,hq,(yL (h q hq)).symm⟩
theorem zfl{C:Chain}:∀{i:Nat},C.map Prod.fst=List.range' i C.length->C=xm i (C.map Prod.snd):=by
 induction C with
 |nil=>intro i _;rfl
 |cons bT C ih=>
  intro i h
  rw[List.map_cons,List.length_cons,List.range'_succ] at h
  injection h with h1 h2
  show bT::C=(i,bT.2)::xm (i+1) (C.map Prod.snd)
  rw[<- ih h2,<- h1]
theorem VB{n p:Nat}(hp:p<n):List.range n=List.range p++p::List.range' (p+1) (n-p-1):=by
 rw[List.range_eq_range',List.range_eq_range']
 have:n=p+((n-p-1)+1):=by omega
 conv=>lhs;rw[this]
 rw[<- List.range'_append_1,Nat.zero_add,List.range'_succ]
theorem Qy{Ls:List Lv}{n:Nat}(h:Ls.length=n):(zm 0 Ls).map Prod.fst=List.range n:=by
 apply List.ext_getElem?
 intro j
 by_cases q:j<Ls.length
 .rw[XT q,List.getElem?_range (by omega),Nat.zero_add]
 .rw[List.getElem?_eq_none (by rw[List.length_map,uO];omega),List.getElem?_eq_none (by rw[List.length_range];omega)]
theorem Rest.len{n:Nat}{Ls:List Lv}(r:Rest n 0 Ls):Ls.length=n:=by have:=r.all.le;omega
theorem Rest.grp{n:Nat}{Ls:List Lv}(r:Rest n 0 Ls):ye n (zm 0 Ls):=λp q hp hq=>Closed.mul r.all r.closed p q hp hq
theorem Rest.fit{n:Nat}{Ls:List Lv}(r:Rest n 0 Ls):Fit n Ls:=⟨Rest.len r,λj L e=>(r.xt.1.ok j L e).1⟩
theorem Rest.wf{n:Nat}{Ls:List Lv}(r:Rest n 0 Ls):WfC n [] (zm 0 Ls):=r.all.wf
theorem VU{w:Own}(ok:zS w H){x:Addr}(h:H x=none):∀t a,w a=some t->a≠x:=λt a e z=>by
 subst z;rw[ok.free h] at e;cases e
theorem zbV(T:Tx K d)(h:ZO K d vs H Q E):zaD K d (DQ Q) (start n_levels_leaving vs) H:=by
 obtain⟨l,p,n,w,Ls,rfl,ok,hG,rest,hn,hp,k⟩:=h
 have len:=Rest.len rest
 refine⟨_,rfl,λx dx hx hdx hne=>?_⟩
 have e1:∀b o,H b=some o->upd (upd H dx (.own x)) x (.ins d.C_MovableChain dx []) b=some o:=λb o e=>by rw[zh (zw e hx),zh (zw e hdx)];exact e
 obtain⟨as,hGa⟩:=hG
 refine⟨x,dx,l,n,w,Ls,λr=>w r=some .row∨H r=none,λc=>w c≠some .row,rfl,zj,ok.same e1,⟨as,hGa.lay e1⟩,(zw hGa.lst hx).symm,VU ok hx,(Rest.fit rest).out,by omega,hn,λr h=>.inl h,λr i j h z=>(by rw[h] at z;cases z),λH1 A k1 hb ho ch=>⟨rfl,?_⟩⟩
 have s1:Same H H1:=λb o e=>k1 b o (e1 b o e) (zw e hx)
 have fr1:∀r,H1 r=none->H r=none:=λr=>s1.free
 have bases:=Qy len
 refine⟨_,rfl,x,_,_,rfl,ch.ins,Xe (by simp),_,rfl,?_⟩
 refine⟨x,0,n,p,[],zm 0 Ls,A,_,_,rfl,λr hr=>⟨.inr (fr1 r hr),λz=>by rw[ok.free (fr1 r hr)] at z;cases z⟩,ch,rfl,hn,by show(zm 0 Ls).length<=34;rw[uO];omega,by show((zm 0 Ls).map Prod.fst).Nodup;rw[bases];exact List.nodup_range,by rw[bases];exact List.mem_range.mpr hp,Rest.wf rest,Rest.grp rest,λH2 A2 U R' eb eo kp2 ch2 eR wf2 mem2=>?_⟩
 have hb1:H A.b=none:=by
  have:=hb
  exact(upd_none (upd_none this).1).1
 have ho1:H A.o=none:=(upd_none (upd_none ho).1).1
 have s2:Same H H2:=λb o e=>kp2 b o (s1 b o e) (zw e hb1) (zw e ho1)
 refine⟨_,rfl,vZ ch2.ins T ⟨_,rfl,A2.o,_,rfl,SqL.of ch2.os,λos hos=>?_⟩⟩
 have ec:x0 (A2.ds.map V.ref) (some (1:Int)) none=(A2.ds.drop 1).map V.ref:=by
  have:=k9 (xs:=A2.ds.map V.ref) (s:=1)
  rw[List.map_drop];exact this
 rw[ec]
 have s3:Same H (upd H2 os (.lst ((A2.ds.drop 1).map V.ref))):=s2.trans (same_upd hos)
 have hds:A2.ds.length=R'.length+1:=by rw[ch2.len];rfl
 have hRl:R'.length+1=n:=by
  have h1:=congrArg List.length eR
  rw[List.length_map,bases,List.length_erase_of_mem (List.mem_range.mpr hp),List.length_range] at h1
  omega
 refine⟨_,rfl,.inl ⟨rfl,_,SqL.of zj⟩,_,rfl,λdd hdd=>?_⟩
 have s3d:Same (upd H2 os (.lst ((A2.ds.drop 1).map V.ref))) (upd (upd H2 os (.lst ((A2.ds.drop 1).map V.ref))) dd (.dK [])):=same_upd hdd
 refine⟨_,rfl,_,rfl,l,_,rfl,.inl (SqL.of (s3d _ _ (s3 _ _ hGa.lst))),n,by rw[List.length_map,hGa.len,len];rfl,by omega,λH4 z s4 hz hz'=>?_⟩
 have od:os≠dd:=zw zj hdd
 have dz:dd≠z:=zw zj hz
 have hos4:H4 os=some (.lst ((A2.ds.drop 1).map V.ref)):=s4 _ _ (s3d _ _ zj)
 have hdd4:H4 dd=some (.dK []):=s4 _ _ zj
 refine⟨hdd4,[(Sum.inl (p:Int),.ref z)],rfl,by show 1<=15;decide,?_⟩
 rw[merge1]
 have l1:((A2.ds.drop 1).map V.ref).length=n-1:=by rw[List.length_map,List.length_drop];omega
 refine⟨os,_,p,.ref dd,rfl,rfl,by rw[zh od];exact hos4,by rw[l1];omega,by rw[l1];omega,?_⟩
 have ei:((A2.ds.drop 1).map V.ref).take p++V.ref dd::((A2.ds.drop 1).map V.ref).drop p=((A2.ds.drop 1).take p++dd::(A2.ds.drop 1).drop p).map V.ref:=by
  simp only[List.map_append,List.map_cons,List.map_take,List.map_drop]
 rw[ei]
 have s25:∀b o,H2 b=some o->upd (upd H4 dd (.dK [(Sum.inl (p:Int),.ref z)])) os (.lst (((A2.ds.drop 1).take p++dd::(A2.ds.drop 1).drop p).map V.ref)) b=some o:=λb o e=>by
  have n1:b≠os:=zw e hos
  have e3:upd H2 os (.lst ((A2.ds.drop 1).map V.ref)) b=some o:=by rw[zh n1];exact e
  have n2:b≠dd:=zw e3 hdd
  rw[zh n1,zh n2]
  exact s4 _ _ (s3d _ _ e3)
 have hos0:H os=none:=s2.free hos
 have hdd0:H dd=none:=s3.free hdd
 have z5:At (upd (upd H4 dd (.dK [(Sum.inl (p:Int),.ref z)])) os (.lst (((A2.ds.drop 1).take p++dd::(A2.ds.drop 1).drop p).map V.ref))) z (none_ n):=by
  have n1:z≠os:=λy=>by rw[y,s3d _ _ zj] at hz;cases hz
  show upd _ _ _ _=_
  rw[zh n1,zh dz.symm];exact hz'
 have d5:upd (upd H4 dd (.dK [(Sum.inl (p:Int),.ref z)])) os (.lst (((A2.ds.drop 1).take p++dd::(A2.ds.drop 1).drop p).map V.ref)) dd=some (.dK [(Sum.inl (p:Int),.ref z)]):=by rw[zh od.symm,zj]
 have o5:upd (upd H4 dd (.dK [(Sum.inl (p:Int),.ref z)])) os (.lst (((A2.ds.drop 1).take p++dd::(A2.ds.drop 1).drop p).map V.ref)) os=some (.lst (((A2.ds.drop 1).take p++dd::(A2.ds.drop 1).drop p).map V.ref)):=zj
 have hz0:H z=none:=s3.free (s3d.free hz)
 revert s25 z5 d5 o5
 generalize upd (upd H4 dd (.dK [(Sum.inl (p:Int),.ref z)])) os (.lst (((A2.ds.drop 1).take p++dd::(A2.ds.drop 1).drop p).map V.ref))=H5
 intro s25 z5 d5 o5
 have s5:Same H H5:=λb o e=>s25 b o (s2 b o e)
 let S:Addr->Prop:=λb=>H b=none/\∃r,At H5 b r
 have k5:Kp P0 w H (owns w S .row) H5:=((Kp.refl ok).lay s5).names (λb h=>h.1) (λb h=>let ⟨r,e⟩:=h.2;⟨_,e⟩)
 have tagO:∀{r:Addr}{t:Row},At H5 r t->(w r=some .row∨H r=none)->zQ (owns w S .row) H5 r t:=λ{r t} e h=>by
  refine⟨e,?_⟩
  rcases h with h|h
  .have hr:¬S r:=λz=>by obtain⟨o,q⟩:=(ok r _ h).1;rw[z.1] at q;cases q
   rw[jr hr];exact h
  .exact VT ⟨h,t,e⟩
 have noO:∀{c:Addr}{kvs:List (Key×V)},H5 c=some (.dK kvs)->w c≠some .row->owns w S .row c≠some .row:=λ{c kvs} e h=>by
  have hc:¬S c:=λz=>by obtain⟨r,q⟩:=z.2;have q':H5 c=some (.lst (iv r)):=q;rw[e] at q';cases q'
  rw[jr hc];exact h
 have wos:owns w S .row os=none:=by
  have hc:¬S os:=λz=>by
   obtain⟨r,q⟩:=z.2
   have q':H5 os=some (.lst (iv r)):=q
   rw[o5] at q'
   have q2:=HO.lst.inj (Option.some.inj q')
   have hm:V.ref dd∈iv r:=by rw[<- q2];exact List.mem_map.mpr ⟨dd,List.mem_append_right _ List.mem_cons_self,rfl⟩
   obtain⟨y,_,hy⟩:=List.mem_map.mp hm
   cases hy
  rw[jr hc];exact ok.free hos0
 let C2:Chain:=R'.take p++(p,[(p,none_ n)])::R'.drop p
 have wfR:WfC n [p] R':=wf2.2
 have hRb:R'.map Prod.fst=List.range p++List.range' (p+1) (n-p-1):=by
  rw[eR,bases,VB hp,XG (by simp)]
 have lp:(List.range p).length=p:=List.length_range
 have eC2:C2=xm 0 (C2.map Prod.snd):=by
  refine zfl ?_
  have hl:C2.length=n:=by
   show(R'.take p++(p,[(p,none_ n)])::R'.drop p).length=n
   rw[List.length_append,List.length_cons,List.length_take,List.length_drop];omega
  rw[hl,<- List.range_eq_range',VB hp]
  show(R'.take p++(p,[(p,none_ n)])::R'.drop p).map Prod.fst=_
  rw[List.map_append,List.map_cons,List.map_take,List.map_drop,hRb,List.take_left' lp,List.drop_left' lp]
 have wfC2:WfC n [] C2:=X7 hp (G:=[p]) (λj h=>by simp at h) (λj=>by simp) (by rw[List.take_append_drop];exact wfR)
 have pmB:∀q,q∈mems n (R'.drop p)->Pm n q:=λq hq=>by
  have w3:WfC n [p] (R'.take p++R'.drop p):=by rw[List.take_append_drop];exact wfR
  have hF3:∀j,j∈[p]->j<n:=λj h=>by rw[List.mem_singleton.mp h];exact hp
  obtain⟨hF,w4⟩:=uc hF3 w3
  exact(yb hF w4 q hq).1
 have memC2:∀q,q∈mems n C2↔q∈mems n R':=λq=>by
  have:=uB (A:=R'.take p) (zdC (p:=p) pmB) q
  rw[List.take_append_drop] at this
  exact this
 have grU:ye n ((p,U)::R'):=ye.of mem2 (Rest.grp rest)
 have grC2:ye n C2:=ye.of memC2 (grU.tail yD wf2)
 refine⟨_,rfl,?_⟩
 refine⟨os,n,owns w S .row,(A2.ds.drop 1).take p++dd::(A2.ds.drop 1).drop p,C2.map Prod.snd,rfl,k5.ok,o5,?_,?_,by omega,hn,wos,λi c U' ec' eT=>?_,by rw[<- eC2];exact wfC2,by rw[<- eC2];exact grC2,λw6 H6 l' Ls' k6 hl' hG6 rest6 mem6=>?_⟩
 .simp only[List.length_append,List.length_cons,List.length_take,List.length_drop];omega
 .rw[List.length_map]
  show(R'.take p++(p,[(p,none_ n)])::R'.drop p).length=n
  rw[List.length_append,List.length_cons,List.length_take,List.length_drop];omega
 ·
  have old:∀(j:Nat)(bT:Nat×Tv),A2.ds[j+1]? = some c->R'[j]? = some bT->∃kvs,H5 c=some (.dK kvs)/\DictAt (owns w S .row) H5 kvs bT.2/\owns w S .row c≠some .row:=λj bT e1 e2=>by
   obtain⟨g2,kvs,da,sr⟩:=ch2.at_ (j+1) c bT e1 e2
   refine⟨kvs,s25 _ _ da.at_,?_,noO (s25 _ _ da.at_) g2⟩
   have go:∀{kvs:List (Key×V)}{T:Tv},yF H2 kvs T->Src (λr=>r≠A2.b/\r≠A2.o/\(w r=some .row∨H r=none)) kvs->DictAt (owns w S .row) H5 kvs T:=by
    intro kvs T hd
    induction hd with
    |nil=>intro _;exact .nil
    |@cons kv xt kvs T h t ih=>
     intro sr
     obtain⟨h1,a,h2,h3⟩:=h
     exact .cons ⟨h1,a,h2,tagO (s25 _ _ h3) (sr kv List.mem_cons_self a h2).2.2⟩ (ih λkv hk=>sr kv (List.mem_cons_of_mem _ hk))
   exact go da.dh sr
  have lt':((A2.ds.drop 1).take p).length=p:=by rw[List.length_take,List.length_drop];omega
  have lt2:(R'.take p).length=p:=by rw[List.length_take];omega
  rw[List.getElem?_map] at eT
  by_cases q1:i<p
  .rw[List.getElem?_append_left (by omega),List.getElem?_take_of_lt q1,List.getElem?_drop] at ec'
   have eT2:C2[i]? = R'[i]?:=by
    show(R'.take p++(p,[(p,none_ n)])::R'.drop p)[i]? = _
    rw[List.getElem?_append_left (by omega),List.getElem?_take_of_lt q1]
   rw[eT2] at eT
   cases eb':R'[i]? with
   |none=>rw[eb'] at eT;cases eT
   |some bT=>
    rw[eb'] at eT
    have e9:bT.2=U':=Option.some.inj eT
    subst e9
    exact old i bT (by rw[Nat.add_comm];exact ec') eb'
  .by_cases q2:i=p
   .subst q2
    have h1:=vC (P:=(A2.ds.drop 1).take i) (R:=(A2.ds.drop 1).drop i) (a:=dd) lt'
    rw[h1] at ec';cases ec'
    have h2:C2[i]? = some (i,[(i,none_ n)]):=vC (P:=R'.take i) (R:=R'.drop i) lt2
    rw[h2] at eT
    have e9:[(i,none_ n)]=U':=Option.some.inj eT
    subst e9
    exact⟨_,d5,.cons ⟨rfl,z,rfl,tagO z5 (.inr hz0)⟩ .nil,noO d5 (λy=>by rw[ok.free hdd0] at y;cases y)⟩
   .have e8:i-p=(i-p-1)+1:=by omega
    rw[List.getElem?_append_right (by omega),lt',e8,List.getElem?_cons_succ,List.getElem?_drop,List.getElem?_drop] at ec'
    have eT2:C2[i]? = R'[i-1]?:=by
     show(R'.take p++(p,[(p,none_ n)])::R'.drop p)[i]? = _
     rw[List.getElem?_append_right (by omega),lt2,e8,List.getElem?_cons_succ,List.getElem?_drop]
     congr 1;omega
    rw[eT2] at eT
    cases eb':R'[i-1]? with
    |none=>rw[eb'] at eT;cases eT
    |some bT=>
     rw[eb'] at eT
     have e9:bT.2=U':=Option.some.inj eT
     subst e9
     refine old (i-1) bT ?_ eb'
     rw[<- ec'];congr 1;omega
 .refine k w6 H6 l' Ls' (k5.trans k6) (s5.free hl') hG6 rest6 λq=>?_
  rw[mem6,<- eC2,memC2,vp yD wf2,mem2]
theorem y6.mem{n k:Nat}{p:Row}{g:List Row}{P R R':Chain}{row c:Row}(I:y6 n k p g P R row c)(wf:WfC n [] (P++R'))(m:∀q,q∈mems n R'↔q∈mems n R):y6 n k p g P R' row c:=by
 refine⟨I.len,I.base,wf,ye.of (uB m) I.grp,I.pr,I.pc,λh hh=>I.sub h ((m h).mp hh),λq hq=>?_⟩
 rcases I.rest q hq with ⟨h,h1,h2⟩|h
 .exact .inl ⟨h,(m h).mpr h1,h2⟩
 .exact .inr λx hx=>h x ((m x).mp hx)
theorem zb4(T:Tx K d)(h:ZR K d vs H Q E):zaM K d (DQ Q) (start n_first_after vs) H:=by
 obtain⟨l,r,n,w,Ls,row,g,rfl,ok,hG,rest,hn,hr,pr,mem,k⟩:=h
 have len:=Rest.len rest
 refine⟨_,rfl,λx dx hx hdx hne=>?_⟩
 have e1:∀b o,H b=some o->upd (upd H dx (.own x)) x (.ins d.C_MovableChain dx []) b=some o:=λb o e=>by rw[zh (zw e hx),zh (zw e hdx)];exact e
 obtain⟨as,hGa⟩:=hG
 refine⟨x,dx,l,n,w,Ls,λ_=>True,λ_=>True,rfl,zj,ok.same e1,⟨as,hGa.lay e1⟩,(zw hGa.lst hx).symm,VU ok hx,(Rest.fit rest).out,by omega,hn,λ_ _=>trivial,λ_ _ _ _=>trivial,λH1 A k1 hb ho ch=>⟨rfl,?_⟩⟩
 have s1:Same H H1:=λb o e=>k1 b o (e1 b o e) (zw e hx)
 have hb1:H A.b=none:=(upd_none (upd_none hb).1).1
 have ho1:H A.o=none:=(upd_none (upd_none ho).1).1
 have bases:=Qy len
 have la:(as.map V.ref).length=n:=by rw[List.length_map,hGa.len,len]
 refine⟨_,rfl,l,_,rfl,.inl (SqL.of (s1 _ _ hGa.lst)),n,by rw[la];rfl,by omega,λH2 cc s2 hcc hcc'=>?_⟩
 have s12:=s1.trans s2
 have ch2:xC d n (λ_=>True) (λ_=>True) H2 x (zm 0 Ls) A:=⟨s2 _ _ ch.ins,s2 _ _ ch.bs,s2 _ _ ch.os,ch.ne,ch.len,ch.nd,λi a bT h1 h2=>let ⟨_,kvs,da,sr⟩:=ch.at_ i a bT h1 h2;⟨trivial,kvs,da.off (P:=λ_=>True) (λ_ _ _ _=>trivial) (λr l _ e=>s2 _ _ e) (s2 _ _ da.at_),sr⟩⟩
 refine⟨_,rfl,l,_,rfl,.inl (SqL.of (s12 _ _ hGa.lst)),_,rfl,by omega,by rw[la];omega,?_⟩
 rw[la,Int.toNat_natCast]
 have bc:cc≠A.b/\cc≠A.o:=⟨(zw ch.bs hcc).symm,(zw ch.os hcc).symm⟩
 have br:r≠A.b/\r≠A.o:=⟨zw hr hb1,zw hr ho1⟩
 refine J9 (lo:=0) (n:=n) (λj σ H'=>∃(u4 u5 u6 u7:Option V)(A':MAdr)(P R:Chain)(r' cc':Addr)(row' c:Row),σ=[some (.ref l),some (.ref r'),some (.ref x),some (.ref cc'),u4,u5,u6,u7]/\A'.b=A.b/\A'.o=A.o/\Same H H'/\xC d n (λ_=>True) (λ_=>True) H' x (P++R) A'/\((P++R).map Prod.fst).Perm (List.range n)/\At H' r' row'/\At H' cc' c/\(r'≠A.b/\r'≠A.o)/\(cc'≠A.b/\cc'≠A.o)/\y6 n j row g P R row' c)
  ⟨none,none,none,none,A,[],zm 0 Ls,r,cc,row,none_ n,rfl,rfl,rfl,s12,ch2,by rw[List.nil_append,bases],s12 _ _ hr,hcc',br,bc,y6.start pr (Rest.wf rest) (Rest.grp rest) mem⟩ ?_ ?_
 .rintro j σ H' hj ⟨u4,u5,u6,u7,A',P,R,r',cc',row',c,rfl,eb,eo,s',ch',pe,hr',hc',br',bc',I⟩
  rw[Int.zero_add]
  have lenC:(P++R).length=n:=by have:=pe.length_eq;rw[List.length_map,List.length_range] at this;exact this
  have lenP:P.length=j:=I.len
  have tail:∀(H':Hp)(A':MAdr)(P R1:Chain)(b:Nat)(U:Tv)(r' cc' o5:Addr)(row' c:Row)(u6 u7:Option V),A'.b=A.b->A'.o=A.o->Same H H'->xC d n (λ_=>True) (λ_=>True) H' x (P++(b,U)::R1) A'->((P++(b,U)::R1).map Prod.fst).Perm (List.range n)->A'.ds[j]? = some o5->At H' r' row'->At H' cc' c->(r'≠A.b/\r'≠A.o)->(cc'≠A.b/\cc'≠A.o)->y6 n j row g P ((b,U)::R1) row' c->at_ row' j=b ->
    zg (zn (tCB (YF K) (zb (Zz (tLc (v0 (za 5)) (zl 7) xc (tOp (zu K) (za 3) (za 7)) [7])) zd)) (zl 6)) (zn (zy (yR K d) [] E0 (zb (yB (za 5) (tBM K "list" (vQ K) (za 3) (zb (za 6) zd))) (zb (za 3) zd))) (zl 3))
     { nx:=fun σ H'=>∃(u4 u5 u6 u7:Option V)(A':MAdr)(P R:Chain)(r' cc':Addr)(row' c:Row),σ=[some (.ref l),some (.ref r'),some (.ref x),some (.ref cc'),u4,u5,u6,u7]/\A'.b=A.b/\A'.o=A.o/\Same H H'/\xC d n (λ_=>True) (λ_=>True) H' x (P++R) A'/\((P++R).map Prod.fst).Perm (List.range n)/\At H' r' row'/\At H' cc' c/\(r'≠A.b/\r'≠A.o)/\(cc'≠A.b/\cc'≠A.o)/\y6 n (j+1) row g P R row' c,rt:=Q,bk:=λ_ _=>False,ct:=λ_ _=>False }
     [some (.ref l),some (.ref r'),some (.ref x),some (.ref cc'),some (.int (j:Int)),some (.ref o5),u6,u7] H':=λH' A' P R1 b U r' cc' o5 row' c u6 u7 eb eo s' ch' pe e5 hr' hc' br' bc' I hbj=>by
   have hPj:P.length=j:=I.len
   obtain⟨_,kvs,da,sr⟩:=ch'.at_ j o5 _ e5 (vC hPj)
   change DAt n H' o5 U kvs at da
   obtain⟨hF,wU⟩:=uc yD I.wf
   have n5:∀{b:Addr}{l:List Nat},At H' b l->b≠o5:=λe=>xj e da.at_ (λz=>by cases z)
   refine⟨o5,.dK kvs,da.at_,trivial,λod=>⟨_,rfl,o5,od,rfl,.inl ⟨kvs,zj,λD hD=>?_⟩⟩⟩
   have D5:D≠o5:=λz=>by rw[z,zj] at hD;cases hD
   have hD0:H' D=none:=(upd_none hD).1
   refine zd3 (d:=o5) (o:=od) (kvs:=kvs) (λi H2=>(∀b o,H' b=some o->b≠o5->H2 b=some o)/\H2 o5=some (.frz od (.dK kvs))/\At H2 D ((U.map λyt=>at_ c yt.1).take i)) ⟨λb o e ne=>by rw[zh (zw e hD0),zh ne];exact e,by rw[zh D5.symm];exact zj,zj⟩ (λi H2 _ h=>h.2.1) (λi ky v H2 hkv h=>?_) (λH2 h=>?_)
   .obtain⟨⟨y,t⟩,hyt,ek,_⟩:=Paired.get2 da.dh hkv
    change ky=Sum.inl (y:Int) at ek
    subst ek
    have my:(y,t)∈U:=List.mem_of_getElem? hyt
    have hiU:i<U.length:=(List.getElem?_eq_some_iff.mp hyt).1
    have him:i<(U.map λyt=>at_ c yt.1).length:=by rw[List.length_map];exact hiU
    have ea:at_ (U.map λyt=>at_ c yt.1) i=at_ c y:=by
     show List.getD _ i 0=_
     rw[List.getD_eq_getElem?_getD,List.getElem?_map,hyt];rfl
    refine⟨rfl,yes ?_⟩
    refine⟨_,rfl,_,rfl,cc',_,_,_,rfl,rfl,SqL.of (h.1 _ _ hc' (n5 hc')),yC (by rw[I.pc.1];exact da.lt y t my),_,h.2.2,?_,λb o e ne=>?_,?_,?_⟩
    .rw[zR,List.length_take,List.length_map]
     have:=da.len
     exact yJ (by omega)
    .rw[zh (zw e hD0)];exact h.1 b o e ne
    .rw[zh D5.symm];exact h.2.1
    .show upd _ _ _ _=_
     have:=jD him
     rw[ea] at this
     rw[zj,this]
   .obtain⟨h1,h2,h3⟩:=h
    rw[da.dh.len,List.take_of_length_le (by rw[List.length_map];exact Nat.le_refl _)] at h3
    refine⟨h2,?_⟩
    have s2:Same H' (upd H2 o5 (.dK kvs)):=λb o e=>by
     by_cases z:b=o5
     .rw[z,zj,<- da.at_,<- z,e]
     .rw[zh z];exact h1 b o e z
    have hD3:At (upd H2 o5 (.dK kvs)) D (U.map λyt=>at_ c yt.1):=by show upd _ _ _ _=_;rw[zh D5];exact h3
    have hne:U≠[]:=λz=>by have:=wU.1.one;rw[z] at this;cases this
    refine⟨D,(U.map λyt=>at_ c yt.1).map λ(v:Nat)=>(v:Int),rfl,SqL.of (by rw[<- wu];exact hD3),by rw[List.length_map,List.length_map];exact List.length_pos_iff.mpr hne,λm hm hmin=>?_⟩
    obtain⟨v,hv,rfl⟩:=List.mem_map.mp hm
    obtain⟨⟨y,t⟩,hyt,rfl⟩:=List.mem_map.mp hv
    have hyn:=da.lt y t hyt
    have pt:=da.pm y t hyt
    have least':∀z u,(z,u)∈U->at_ c y<=at_ c z:=λz u hz=>by
     have:=hmin _ (List.mem_map.mpr ⟨_,List.mem_map.mpr ⟨(z,u),hz,rfl⟩,rfl⟩)
     exact Int.ofNat_le.mp this
    have hc3:=s2 _ _ hc'
    have eix:at_ (inv c) (at_ c y)=y:=yK I.pc hyn
    have ch3:xC d n (λ_=>True) (λ_=>True) (upd H2 o5 (.dK kvs)) x (P++(b,U)::R1) A':=⟨s2 _ _ ch'.ins,s2 _ _ ch'.bs,s2 _ _ ch'.os,ch'.ne,ch'.len,ch'.nd,λi a bT h1 h2=>let ⟨_,kvs,da,sr⟩:=ch'.at_ i a bT h1 h2;⟨trivial,kvs,da.off (P:=λ_=>True) (λ_ _ _ _=>trivial) (λr l _ e=>s2 _ _ e) (s2 _ _ da.at_),sr⟩⟩
    have da3:DAt n (upd H2 o5 (.dK kvs)) o5 U kvs:=da.off (P:=λ_=>True) (λ_ _ _ _=>trivial) (λr l _ e=>s2 _ _ e) (s2 _ _ da.at_)
    revert hc3 ch3 da3 s2
    generalize upd H2 o5 (.dK kvs)=H3
    intro s2 hc3 ch3 da3
    obtain⟨ct,ect,rct⟩:=da3.dh.get (yN da.nd hyt)
    refine⟨_,rfl,_,rfl,.inl ⟨rfl,_,SqL.of hc3⟩,_,rfl,kQ hc3 I.pc (I.pc.at_lt hyn) ⟨o5,.ref ct,rfl,?_,_,rfl,?_⟩⟩
    .rw[eix,<- ect];exact DGet.k (k:=Sum.inl (y:Int)) da3.at_
    refine⟨ct,cc',t,c,rfl,rct,hc3,λz hz=>by rw[I.pc.1];exact pt.lt hz,by rw[pt.1];omega,λH4 q s4 hq hq'=>?_⟩
    have ch4:xC d n (λ_=>True) (λ_=>True) H4 x (P++(b,U)::R1) A':=⟨s4 _ _ ch3.ins,s4 _ _ ch3.bs,s4 _ _ ch3.os,ch3.ne,ch3.len,ch3.nd,λi a bT h1 h2=>let ⟨_,kvs,da,sr⟩:=ch3.at_ i a bT h1 h2;⟨trivial,kvs,da.off (P:=λ_=>True) (λ_ _ _ _=>trivial) (λr l _ e=>s4 _ _ e) (s4 _ _ da.at_),sr⟩⟩
    have ea:(P++[(b,U)])++R1=P++(b,U)::R1:=by rw[List.append_assoc];rfl
    refine⟨_,_,_,_,A',P++[(b,U)],R1,r',q,row',then_ t c,rfl,eb,eo,s'.trans (s2.trans s4),by rw[ea];exact ch4,by rw[ea];exact pe,s4 _ _ (s2 _ _ hr'),hq',br',⟨?_,?_⟩,I.pick pr hj hbj hyt least'⟩
    .rw[<- eb];exact(zw ch3.bs hq).symm
    .rw[<- eo];exact(zw ch3.os hq).symm
  cases R with
  |nil=>rw[List.append_nil] at lenC;omega
  |cons bT R1=>
   obtain⟨b,U⟩:=bT
   obtain⟨o5,e5⟩:∃o5,A'.ds[j]? = some o5:=⟨_,List.getElem?_eq_getElem (show j<A'.ds.length by rw[ch'.len];omega)⟩
   obtain⟨_,kvs,da,sr⟩:=ch'.at_ j o5 _ e5 (vC lenP)
   change DAt n H' o5 U kvs at da
   have hrj:=I.pr.at_lt hj
   refine⟨_,rfl,vZ ch'.ins T ⟨_,rfl,A'.o,_,_,_,rfl,rfl,SqL.of ch'.os,wQ e5,?_⟩⟩
   have ixr:=yC (l:=row') (i:=j) (by rw[I.pr.1];exact hj)
   refine⟨_,rfl,_,rfl,r',_,_,_,rfl,rfl,SqL.of hr',ixr,_,rfl,o5,_,rfl,DGet.k (k:=Sum.inl ((at_ row' j:Nat):Int)) da.at_,_,rfl,?_⟩
   cases hlk:U.lookup (at_ row' j) with
   |some t=>
    obtain⟨ct,ect,rct⟩:=da.dh.get hlk
    rw[ect]
    have mt:=wr hlk
    have pt:=da.pm _ t mt
    refine yj ?_
    refine⟨_,rfl,_,rfl,_,rfl,_,rfl,r',_,_,_,rfl,rfl,SqL.of hr',ixr,o5,.ref ct,rfl,?_,?_⟩
    .rw[<- ect];exact DGet.k (k:=Sum.inl ((at_ row' j:Nat):Int)) da.at_
    refine⟨ct,t,n,rfl,rct,pt,by omega,λH3 iv3 s3 h3 h3'=>?_⟩
    refine⟨r',iv3,row',inv t,rfl,s3 _ _ hr',h3',λz hz=>by rw[vw,pt.1];exact I.pr.lt hz,by rw[I.pr.1];omega,λH4 r4 s4 h4 h4'=>?_⟩
    obtain⟨I2,eb2⟩:=I.undo hj mt
    have s34:=s3.trans s4
    have ch4:xC d n (λ_=>True) (λ_=>True) H4 x (P++(b,U)::R1) A':=⟨s34 _ _ ch'.ins,s34 _ _ ch'.bs,s34 _ _ ch'.os,ch'.ne,ch'.len,ch'.nd,λi a bT h1 h2=>let ⟨_,kvs,da,sr⟩:=ch'.at_ i a bT h1 h2;⟨trivial,kvs,da.off (P:=λ_=>True) (λ_ _ _ _=>trivial) (λr l _ e=>s34 _ _ e) (s34 _ _ da.at_),sr⟩⟩
    refine tail H4 A' P R1 b U r4 cc' o5 _ c u6 u7 eb eo (s'.trans s34) ch4 pe e5 h4' (s34 _ _ hc') ⟨?_,?_⟩ bc' I2 eb2
    .rw[<- eb];exact(zw (s3 _ _ ch'.bs) h4).symm
    .rw[<- eo];exact(zw (s3 _ _ ch'.os) h4).symm
   |none=>
    rw[da.dh.non hlk]
    refine zM ?_
    refine⟨_,rfl,x,_,_,rfl,ch'.ins,Xe (by simp),_,rfl,_,rfl,r',_,_,_,rfl,rfl,SqL.of hr',ixr,_,rfl,?_⟩
    have hin:at_ row' j∈((b,U)::R1).map Prod.fst:=by
     have h1:at_ row' j∈(P++(b,U)::R1).map Prod.fst:=pe.mem_iff.mpr (List.mem_range.mpr hrj)
     rw[List.map_append] at h1
     rcases List.mem_append.mp h1 with z|z
     .exfalso
      obtain⟨i,hi,ei⟩:=List.getElem_of_mem z
      rw[List.length_map] at hi
      rw[List.getElem_map] at ei
      have:=I.base i (P[i]).1 (P[i]).2 (List.getElem?_eq_getElem hi)
      rw[ei] at this
      have:=I.pr.at_inj (by omega) hj this
      omega
     .exact z
    refine⟨x,j,n,at_ row' j,P,(b,U)::R1,A',_,_,rfl,λ_ _=>⟨trivial,trivial⟩,ch',lenP,hn,by omega,pe.nodup_iff.mpr List.nodup_range,hin,I.wf,I.grp,λH3 A3 U3 R3 eb3 eo3 kp3 ch3 er3 wf3 mem3=>?_⟩
    have s3:Same H H3:=λb o e=>kp3 b o (s' b o e) (by rw[eb];exact zw e hb1) (by rw[eo];exact zw e ho1)
    obtain⟨o6,e6⟩:∃o6,A3.ds[j]? = some o6:=⟨_,List.getElem?_eq_getElem (show j<A3.ds.length by rw[ch3.len,List.length_append,List.length_cons];omega)⟩
    refine⟨_,rfl,vZ ch3.ins T ⟨_,rfl,A3.o,_,_,_,rfl,rfl,SqL.of ch3.os,wQ e6,?_⟩⟩
    refine tail H3 A3 P R3 (at_ row' j) U3 r' cc' o6 row' c u6 u7 (eb3.trans eb) (eo3.trans eo) s3 ch3 ?_ e6 (kp3 _ _ hr' (by rw[eb];exact br'.1) (by rw[eo];exact br'.2)) (kp3 _ _ hc' (by rw[eb];exact bc'.1) (by rw[eo];exact bc'.2)) br' bc' (y6.mem I wf3 mem3) rfl
    rw[List.map_append] at pe ⊢
    refine List.Perm.trans (List.Perm.append_left _ ?_) pe
    show(at_ row' j::R3.map Prod.fst).Perm _
    rw[er3]
    exact(List.perm_cons_erase hin).symm
 .rintro σ H' ⟨u4,u5,u6,u7,A',P,R,r',cc',row',c,rfl,eb,eo,s',ch',pe,hr',hc',br',bc',I⟩
  have lenC:(P++R).length=n:=by have:=pe.length_eq;rw[List.length_map,List.length_range] at this;exact this
  have eR:R=[]:=by
   rw[List.length_append,I.len] at lenC
   exact List.length_eq_zero_iff.mp (by omega)
  subst eR
  refine⟨_,rfl,_,rfl,?_⟩
  refine⟨r',cc',row',c,rfl,hr',hc',λz hz=>by rw[I.pc.1];exact I.pr.lt hz,by rw[I.pr.1];omega,λH3 q s3 hq hq'=>?_⟩
  rw[<- I.last pr (λq hq=>(yb yD (Rest.wf rest) q ((mem q).mpr hq)).1)] at hq'
  exact k H3 q (s'.trans s3) (s'.free hq) hq'
theorem zb0(T:Tx K d)(h:qe K d vs H Q E):zaI K d (DQ Q) (start n_is_inside vs) H:=by
 obtain⟨l,m,n,w,L,Ls,Ms,rfl,ok,hL,hM,restL,restM,hn,k⟩:=h
 have len:=Rest.len restM
 have fitM:=Rest.fit restM
 have pmL:∀p,p∈L.makers->Pm n p:=(restL.1).pms
 have tw:L.makers.length<128:=restL.2.2.2.2.1.len hn pmL
 refine⟨_,rfl,?_⟩
 refine⟨l,w,L,Ls,rfl,hL,λms H1 q rms s1 hq hq1=>?_⟩
 refine⟨q,rfl,⟨_,SqL.of hq1⟩,λD hD=>?_⟩
 have hlen:ms.length=L.makers.length:=rms.length
 refine wt (K:=K) (a:=q) (xs:=ms.map V.ref) (λi H'=>Same H1 H'/\H' D=some (.lst (((L.makers.take i).map λp=>sift (zm 0 Ms) p).map V.bl))) ⟨same_upd hD,zj⟩ (λi H' _ h=>SqL.of (h.1 _ _ hq1)) (λi y H' hy h=>?_) (λH' h=>?_)
 .obtain⟨c,hc,rfl⟩:=wd hy
  obtain⟨p,hp,rp⟩:=Paired.get2 rms hc
  have hi:i<L.makers.length:=(List.getElem?_eq_some_iff.mp hp).1
  have et:L.makers.take (i+1)=L.makers.take i++[p]:=by rw[List.take_succ_eq_append_getElem hi,(List.getElem?_eq_some_iff.mp hp).2]
  obtain⟨as,hMa⟩:=hM
  refine⟨rfl,yes ?_⟩
  refine⟨_,rfl,_,rfl,?_⟩
  refine⟨m,c,0,n,w,Ms,p,rfl,⟨as,hMa.lay (s1.trans h.1)⟩,h.1 _ _ (s1 _ _ rp.at_),pmL p (List.mem_of_getElem? hp),hn,len,fitM.pm,λH2 s2=>?_⟩
  rw[List.drop_zero]
  refine⟨_,s2 _ _ h.2,?_,(h.1.trans s2).upd hD,?_⟩
  .rw[List.length_map,List.length_map,List.length_take];exact yJ (by omega)
  .rw[zj,et,List.map_append,List.map_append];rfl
 .refine⟨D,L.makers.map λp=>sift (zm 0 Ms) p,rfl,SqL.of ?_,?_⟩
  .have:=h.2
   rw[List.length_map,hlen,List.take_length] at this
   exact this
  .have:=k H' (s1.trans h.1)
   rw[List.all_map]
   exact this
theorem zbX{J:Nat->Nat->Prop}{spIn:Sp}(T:Tx K d)(hIn:∀vs H Q E,spJ (λa b=>b<a) d vs H Q E->(∃a b,J a b/\a<b)->spIn vs H Q E)(h:spJ J d vs H Q E):zaF K d spIn (DQ Q) (start n_joined vs) H:=by
 obtain⟨l,m,n,w,L,M,Ls,Ms,rfl,ok,hL,hM,restL,restM,hn,hJ,k⟩:=h
 have fitL:=Rest.fit restL
 have fitM:=Rest.fit restM
 have pmL:∀p,p∈L.makers->Pm n p:=(restL.1).pms
 have pmM:∀p,p∈M.makers->Pm n p:=(restM.1).pms
 obtain⟨as,hLa⟩:=hL
 obtain⟨bs,hMa⟩:=hM
 refine⟨_,rfl,?_⟩
 refine⟨l,0,w,L::Ls,rfl,⟨as,hLa⟩,λN hN=>Nat.le_trans (fitL.le N hN) (by omega),λH1 s1=>?_⟩
 refine⟨_,rfl,?_⟩
 refine⟨m,0,w,M::Ms,rfl,⟨bs,hMa.lay s1⟩,λN hN=>Nat.le_trans (fitM.le N hN) (by omega),λH2 s2=>?_⟩
 have s12:=s1.trans s2
 have ok2:=ok.same s12
 rw[List.drop_zero,List.drop_zero]
 refine⟨_,_,rfl,rfl,_,rfl,?_⟩
 refine vW (λq=>?_) (λq=>?_)
 .refine⟨_,rfl,_,rfl,?_⟩
  refine hIn _ _ _ _ ⟨m,l,n,w,M,L,Ms,Ls,rfl,ok2,⟨bs,hMa.lay s12⟩,⟨as,hLa.lay s12⟩,restM,restL,hn,by omega,λw' H' l' N Ns kp hl' hN rN mk=>?_⟩ ⟨_,_,hJ,by omega⟩
  refine k w' H' l' N Ns (((Kp.refl ok).lay s12).trans kp) (s12.free hl') hN rN λq=>?_
  rw[mk]
  refine Jr (λp hp=>?_) (λp=>?_) q
  .rcases List.mem_append.mp hp with z|z
   .exact pmM p z
   .exact pmL p z
  .rw[List.mem_append,List.mem_append,or_comm]
 ·
  have hL2:=hLa.lay s12
  have lenL:=Rest.len restL
  refine⟨_,rfl,l,rfl,⟨_,SqL.of hL2.lst⟩,λO hO=>?_⟩
  refine wt (K:=K) (a:=l) (xs:=as.map V.ref) (λi H'=>Same H2 H'/\∃ds:List Addr,H' O=some (.lst (ds.map V.ref))/\ds.length=i/\∀(j:Nat)(c:Addr),ds[j]? = some c->∃N A a,(L::Ls)[j]? = some N/\zW d w H2 a l j N A/\A.o=c) ⟨same_upd hO,[],zj,rfl,λj c e=>by simp at e⟩ (λi H' _ h=>SqL.of (h.1 _ _ hL2.lst)) (λi y H' hy h=>?_) (λH3 h=>?_)
  .obtain⟨a,ha,rfl⟩:=wd hy
   obtain⟨s3,ds,hds,hdl,hdg⟩:=h
   obtain⟨N,hN,A,hA⟩:=hL2.get' ha
   have hi:i<(L::Ls).length:=(List.getElem?_eq_some_iff.mp hN).1
   refine⟨rfl,yes ?_⟩
   refine⟨_,rfl,vy (s3 _ _ hA.ins) T ⟨_,hds,by rw[List.length_map,hdl];exact yJ (by omega),s3.upd hO,ds++[A.o],?_,by rw[List.length_append,hdl];rfl,λj c e=>?_⟩⟩
   .rw[zj,List.map_append];rfl
   .by_cases q:j<ds.length
    .rw[List.getElem?_append_left q] at e;exact hdg j c e
    .rw[List.getElem?_append_right (by omega)] at e
     have e0:j-ds.length=0:=by
      have:=(List.getElem?_eq_some_iff.mp e).1
      simp at this;omega
     rw[e0] at e;cases e
     have:j=i:=by omega
     subst this
     exact⟨N,A,a,hN,hA,rfl⟩
  obtain⟨s3,ds,hds,hdl,hdg⟩:=h
  rw[List.length_map,hLa.len] at hdl
  have s123:=s12.trans s3
  have k3:Kp P0 w H w H3:=(Kp.refl ok).lay s123
  have eT:xm 0 ((L::Ls).map Lv.out)=zm 0 (L::Ls):=QA.symm
  refine⟨O,n,w,ds,(L::Ls).map Lv.out,rfl,k3.ok,hds,by rw[hdl];exact lenL,by rw[List.length_map];exact lenL,by rw[<- lenL];exact Nat.succ_le_succ (Nat.zero_le _),hn,k3.ok.free' (s12.free hO) ok,λi c U e1 e2=>?_,by rw[eT];exact Rest.wf restL,by rw[eT];exact Rest.grp restL,λw4 H4 l' Ns k4 hl' hN rN mN=>?_⟩
  .obtain⟨N,A,a,hN,hA,eA⟩:=hdg i c e1
   rw[List.getElem?_map,hN] at e2
   have e9:N.out=U:=Option.some.inj e2
   subst e9
   have hA3:=hA.lay s3
   exact⟨A.kvs,by rw[<- eA];exact hA3.ou,hA3.oud,by rw[<- eA,hA3.tou];intro z;cases z⟩
  ·
   rw[eT] at mN
   cases Ns with
   |nil=>have:=Rest.len rN;simp at this;have:=lenL;simp at this;omega
   |cons N Ns=>
    have k04:=k3.trans k4
    have nog:∀c t,w c=some t->¬grP l' t:=λc t e ⟨i,j,z⟩=>by
     subst z
     obtain⟨o,q⟩:=(ok c _ e).2 l' rfl
     rw[s123.free hl'] at q;cases q
    have hM4:yE d w4 H4 m (M::Ms) bs:=hMa.keep k04 (λz=>z) (λz=>z) (λ_ _ z=>z)
    have mkN:∀p,Made n N.makers p↔Made n L.makers p:=λp=>((Closed.iff rN.all rN.closed p).symm.trans (mN p)).trans (Closed.iff restL.all restL.closed p)
    refine⟨_,rfl,?_⟩
    refine⟨m,w4,M,Ms,rfl,⟨bs,hM4⟩,λms H5 q rms s5 hq hq5=>?_⟩
    refine⟨q,rfl,⟨_,SqL.of hq5⟩,?_⟩
    have hlenM:ms.length=M.makers.length:=rms.length
    have hq0:H q=none:=k04.free hq
    refine v4 (K:=K) (a:=q) (xs:=ms.map V.ref) (λj σ H'=>∃(u3 u4:Option V)(w':Own)(N':Lv)(Ns':List Lv),σ=[some (.ref l),some (.ref m),some (.ref l'),u3,u4]/\Kp P0 w H w' H'/\Kp (grP l') w4 H5 w' H'/\zI d w' H' l' (N'::Ns')/\Rest n 0 (N'::Ns')/\∀p,Made n N'.makers p↔Made n (L.makers++M.makers.take j) p)
     ⟨none,none,w4,N,Ns,rfl,k04.lay s5,Kp.refl (k4.ok.same s5),let ⟨cs,h⟩:=hN;⟨cs,h.lay s5⟩,rN,λp=>by rw[List.take_zero,List.append_nil];exact mkN p⟩ (λj σ H' _ ⟨_,_,_,_,_,_,_,k6,_⟩=>SqL.of (k6.hp _ _ hq5 λt e=>by rw[k4.ok.free hq] at e;cases e)) ?_ ?_
    .rintro j y σ H' hy ⟨u3,u4,w',N',Ns',rfl,k5,k6,hN',rN',mk'⟩
     obtain⟨c,hc,rfl⟩:=wd hy
     obtain⟨p,hp,rp⟩:=Paired.get2 rms hc
     have hj:j<M.makers.length:=(List.getElem?_eq_some_iff.mp hp).1
     have et:M.makers.take (j+1)=M.makers.take j++[p]:=by rw[List.take_succ_eq_append_getElem hj,(List.getElem?_eq_some_iff.mp hp).2]
     have pp:Pm n p:=pmM p (List.mem_of_getElem? hp)
     have rp':zQ w' H' c p:=zQ.keep ⟨s5 _ _ rp.at_,rp.tag⟩ k6 J7
     have pms:∀q,q∈L.makers++M.makers.take (j+1)->Pm n q:=λq hq=>by
      rcases List.mem_append.mp hq with z|z
      .exact pmL q z
      .exact pmM q (List.mem_of_mem_take z)
     have pms0:∀q,q∈L.makers++M.makers.take j->Pm n q:=λq hq=>by
      rcases List.mem_append.mp hq with z|z
      .exact pmL q z
      .exact pmM q (List.mem_of_mem_take z)
     have pmN':∀q,q∈N'.makers->Pm n q:=rN'.1.pms
     have fitN:=Rest.fit rN'
     refine⟨_,rfl,_,rfl,?_⟩
     refine⟨l',c,0,n,w',N'::Ns',p,rfl,hN',rp'.at_,pp,hn,fitN.len,fitN.pm,λH6 s6=>?_⟩
     rw[List.drop_zero]
     have sif:=vP (n:=n) (F:=[]) yD (Rest.wf rN') pp (λj hj=>by simp at hj)
     obtain⟨cs,hNa⟩:=hN'
     refine⟨_,rfl,?_⟩
     cases hs:sift (zm 0 (N'::Ns')) p with
     |true=>
      refine zM ⟨_,_,w',N',Ns',rfl,k5.lay s6,k6.lay s6,⟨cs,hNa.lay s6⟩,rN',λq=>?_⟩
      have mp:Made n N'.makers p:=vq rN'.all p (sif.mp hs)
      rw[mk',et,<- List.append_assoc]
      exact(zdN pms0 (t:=[p]) (λr hr=>by rw[List.mem_singleton.mp hr];exact(mk' p).mp mp) q).symm
     |false=>
      refine yj ?_
      refine⟨_,rfl,_,rfl,?_⟩
      have k6':=k6.lay s6
      refine⟨l',c,n,w',N',Ns',p,rfl,k6'.ok,⟨cs,hNa.lay s6⟩,⟨s6 _ _ rp'.at_,rp'.tag⟩,pp,hn,rN',λz=>(by rw[sif.mpr z] at hs;cases hs),λw7 H7 N7 Ns7 k7 hN7 rN7 mk7=>?_⟩
      refine⟨_,_,w7,N7,Ns7,rfl,(k5.lay s6).hide k7 nog,k6'.trans k7,hN7,rN7,λq=>?_⟩
      rw[mk7,et,<- List.append_assoc]
      exact Xi pmN' (λr hr=>by rw[List.mem_singleton.mp hr];exact pp) pms0 (λr hr=>by rw[List.mem_singleton.mp hr];exact pp) mk' (λ_=>Iff.rfl) q
    .rintro σ H' ⟨u3,u4,w',N',Ns',rfl,k5,k6,hN',rN',mk'⟩
     rw[List.length_map,hlenM,List.take_length] at mk'
     exact⟨_,rfl,k w' H' l' N' Ns' k5 (s123.free hl') hN' rN' mk'⟩
theorem WB{n:Nat}{C:Chain}{F:List Nat}(hn:n<=34)(hF:∀j,j∈F->j<n)(w:WfC n F C):size C<2 ^ 128:=by
 have h1:(mems n C).length<=Md07.factorial n:=YQ _ (vU hF w) λp hp=>(yb hF w p hp).1
 rw[vV] at h1
 exact Nat.lt_of_le_of_lt (Nat.le_trans h1 (Qg hn)) (by decide)
theorem zbt{l:List Nat}{ns:List Int}(hp:ns.Perm (l.map λ(x:Nat)=>(x:Int)))(hs:ns.Pairwise (·<=·)):ns=(srt l).map λ(x:Nat)=>(x:Int):=by
 have h2:ns.Perm ((srt l).map λ(x:Nat)=>(x:Int)):=hp.trans ((vM l).symm.map _)
 refine h2.eq_of_pairwise (λa b _ _ x y=>Int.le_antisymm x y) hs ?_
 rw[List.pairwise_map]
 exact(uh l).imp λh=>Int.ofNat_le.mpr h
theorem zea{T:Tv}{c:Row}:(keys T).map (at_ c)=T.map λyt=>at_ c yt.1:=by unfold keys;rw[List.map_map];rfl
theorem zd5{a D:Addr}{c:Row}{cc:Addr}{l:List Nat}{H1:Hp}{σ:L2.St}{i j:Nat}{Qd:Hp->Prop}(hD:H1 D=none)(ha:At H1 a l)(hc:At H1 cc c)(hlt:∀x,x∈l->x<c.length)(hl:l.length<=500)(hcc:∀v:V,(((wipe σ [j]).set j (some v)):L2.St)[i]? = some (some (.ref cc)))(hj:∀v:V,(((wipe σ [j]).set j (some v)):L2.St)[j]? = some (some v))(hw:∀v:V,wipe ((wipe σ [j]).set j (some v)) [j]=wipe σ [j])
  (k:∀H',Same H1 H'->At H' D (l.map (at_ c))->Qd H') :
  ∃W:Nat->Nat->Hp->Prop,(∃m,W 0 m (upd H1 D (.lst [])))/\∀i' m H,W i' m H ->
   ((Itl K a).stop i' H/\Qd H)∨((Itl K a).go i' H/\∃Nx:Hp->Prop,(∀H',Nx H'->∃m',m'<m/\W (i'+1) m' H')/\∀x H',(Itl K a).yld i' H x H'->zl j x (wipe σ [j]) H' fun σ2 H2=>wipe σ2 [j]=wipe σ [j]/\xc σ2 H2 λb H3=>
    if b=true then tOp (zu K) (za i) (za j) σ2 H3 λy H4=>∃acc,H4 D=some (.lst acc)/\acc.length<sizeLine/\Nx (upd H4 D (.lst (acc++[y]))) else Nx H3):=by
 refine wt (K:=K) (a:=a) (xs:=iv l) (λi H'=>Same H1 H'/\At H' D ((l.map (at_ c)).take i)) ⟨same_upd hD,zj⟩ (λi H' _ h=>SqL.of (h.1 _ _ ha)) (λm x H' hx h=>?_) (λH' h=>?_)
 .obtain⟨hm,rfl⟩:=vv hx
  have hm2:m<(l.map (at_ c)).length:=by rw[List.length_map];exact hm
  have ea:at_ (l.map (at_ c)) m=at_ c (at_ l m):=by rw[yk hm2,List.getElem_map,yk hm]
  refine⟨hw _,yes ?_⟩
  refine⟨_,hcc _,_,hj _,cc,_,_,_,rfl,rfl,SqL.of (h.1 _ _ hc),yC (hlt _ (jR hm)),_,h.2,?_,h.1.upd hD,?_⟩
  .rw[zR,List.length_take,List.length_map];exact yJ (by omega)
  .show upd _ _ _ _=_
   have:=jD hm2
   rw[ea] at this
   rw[zj,this]
 .refine k H' h.1 ?_
  have:=h.2
  rw[zR,List.take_of_length_le (by rw[List.length_map];exact Nat.le_refl _)] at this
  exact this
theorem zbS(T:Tx K d)(h:ZN K d vs H Q E):zaA K d (DQ Q) (start n_member_at vs) H:=by
 obtain⟨l,n,k0,w,Ls,rfl,⟨as,hG⟩,rest,hn,hk,k⟩:=h
 have len:=Rest.len rest
 have fit:=Rest.fit rest
 have la:(as.map V.ref).length=n:=by rw[List.length_map,hG.len,len]
 have xt:=rest.xt.1
 refine⟨_,rfl,l,_,rfl,.inl (SqL.of hG.lst),n,by rw[la];rfl,by omega,λH1 cc s1 hcc hcc'=>?_⟩
 refine⟨_,rfl,?_⟩
 refine⟨l,0,w,Ls,rfl,⟨as,hG.lay s1⟩,λN hN=>Nat.le_trans (fit.le N hN) (by omega),λH2 s2=>?_⟩
 have s12:=s1.trans s2
 rw[List.drop_zero]
 refine⟨_,rfl,l,rfl,⟨_,SqL.of (s12 _ _ hG.lst)⟩,?_⟩
 refine v4 (K:=K) (a:=l) (xs:=as.map V.ref) (λj σ H'=>∃(u4 u5 u6:Option V)(cc':Addr)(c:Row)(kk:Nat),σ=[some (.ref l),some (.int (kk:Int)),some (.ref cc'),some (.int ((size (zm j (Ls.drop j)):Nat):Int)),u4,u5,u6]/\Same H H'/\At H' cc' c/\H cc'=none/\Pm n c/\kk<size (zm j (Ls.drop j))/\atC (zm 0 Ls) (none_ n) k0=atC (zm j (Ls.drop j)) c kk)
  ⟨none,none,none,cc,none_ n,k0,by rw[List.drop_zero];rfl,s12,s2 _ _ hcc',hcc,Pm.none,by rw[List.drop_zero];exact hk,by rw[List.drop_zero]⟩ (λj σ H' _ ⟨_,_,_,_,_,_,_,s',_⟩=>SqL.of (s' _ _ hG.lst)) ?_ ?_
 .rintro j y σ H' hy ⟨u4,u5,u6,cc',c,kk,rfl,s',hc',hc0,pc,hkk,eq⟩
  obtain⟨a,ha,rfl⟩:=wd hy
  obtain⟨L,hL,A,hA⟩:=(hG.lay s').get' ha
  have hj:j<n:=by rw[<- len];exact(List.getElem?_eq_some_iff.mp hL).1
  obtain⟨okL,_,_⟩:=xt.ok j L hL
  have all:=xt.all (k:=n-(j+1)) (j:=j+1) (by omega)
  have wfR:=all.wf
  have hF:∀x,x∈dn (j+1)->x<n:=v7 (by omega)
  have eC:zm j (Ls.drop j)=(j,L.out)::zm (j+1) (Ls.drop (j+1)):=by rw[xZ hL];rfl
  have szr:=WB hn hF wfR
  have pos:=ji wfR
  have lout:L.out.length<=n:=YX okL.wf
  have lpos:0<L.out.length:=List.length_pos_of_mem okL.wf.one
  have esz:size (zm j (Ls.drop j))=L.out.length*size (zm (j+1) (Ls.drop (j+1))):=by rw[eC];rfl
  rw[eC] at eq
  refine⟨_,rfl,_,rfl,ww hA.ins T ⟨A.r,_,rfl,.inl (SqL.of hA.re),_,_,rfl,rfl,by rw[zR,xz];exact y8.of (by omega) (by omega),?_⟩⟩
  have ediv:((size (zm j (Ls.drop j)):Nat):Int) / (((iv (keys L.out)).length:Nat):Int)=((size (zm (j+1) (Ls.drop (j+1))):Nat):Int):=by
   rw[zR,xz,<- Int.natCast_ediv,esz,Nat.mul_div_cancel_left _ lpos]
  show zg _ _ _ ([some (.ref l),some (.int (kk:Int)),some (.ref cc'),some (.int (((size (zm j (Ls.drop j)):Nat):Int) / (((iv (keys L.out)).length:Nat):Int))),some (.ref a),u5,u6]) H'
  rw[ediv]
  refine⟨_,rfl,ww hA.ins T ⟨A.r,rfl,⟨_,SqL.of hA.re⟩,λD hD=>?_⟩⟩
  refine zd5 (K:=K) (c:=c) (cc:=cc') (l:=keys L.out) hD hA.re hc' (λx hx=>?_) (by rw[xz];omega) (λv=>rfl) (λv=>rfl) (λv=>rfl) λH3 s3 hD3=>?_
  .obtain⟨⟨x',t⟩,h1,h2⟩:=List.mem_map.mp hx
   have h2':x'=x:=h2
   rw[pc.1,<- h2'];exact okL.wf.key h1
  rw[zea] at hD3
  refine⟨D,(L.out.map λyt=>at_ c yt.1).map λ(x:Nat)=>(x:Int),rfl,SqL.of (by rw[<- wu];exact hD3),by rw[List.length_map,List.length_map];omega,λns N hperm hsort hN=>?_⟩
  have ens:=zbt hperm hsort
  subst ens
  have eiv:((srt (L.out.map λyt=>at_ c yt.1)).map λ(x:Nat)=>(x:Int)).map V.int=iv (srt (L.out.map λyt=>at_ c yt.1)):=wu.symm
  rw[eiv]
  have s4:=s3.trans (same_upd (o:=.lst (iv (srt (L.out.map λyt=>at_ c yt.1)))) hN)
  have hN4:At (upd H3 N (.lst (iv (srt (L.out.map λyt=>at_ c yt.1))))) N (srt (L.out.map λyt=>at_ c yt.1)):=zj
  revert s4 hN4
  generalize upd H3 N (.lst (iv (srt (L.out.map λyt=>at_ c yt.1))))=H4
  intro s4 hN4
  have hq:kk / size (zm (j+1) (Ls.drop (j+1)))<L.out.length:=by
   rw[Nat.div_lt_iff_lt_mul pos,<- esz];exact hkk
  obtain⟨y,t,hyt,ey,_⟩:=Q0 okL.wf pc hq
  have hyn:=okL.wf.key hyt
  have pt:=okL.wf.pm y t hyt
  have lsr:(srt (L.out.map λyt=>at_ c yt.1)).length=L.out.length:=by rw[(vM _).length_eq,List.length_map]
  have hc4:=s4 _ _ hc'
  have hA4:=hA.lay s4
  have eix:at_ (inv c) (at_ c y)=y:=yK pc hyn
  have edv:((kk:Nat):Int) / ((size (zm (j+1) (Ls.drop (j+1))):Nat):Int)=((kk / size (zm (j+1) (Ls.drop (j+1))):Nat):Int):=(Int.natCast_ediv _ _).symm
  refine⟨_,rfl,.inl ⟨rfl,_,SqL.of hc4⟩,_,rfl,_,rfl,_,rfl,_,_,rfl,rfl,y8.of (by omega) (by omega),N,_,_,_,rfl,rfl,SqL.of hN4,vG edv (uJ (by rw[lsr];exact hq)),?_⟩
  rw[ey]
  refine kQ hc4 pc (pc.at_lt hyn) ?_
  rw[eix]
  refine⟨_,rfl,_,rfl,_,_,rfl,rfl,by show(0:Int)<_;omega,?_⟩
  have emd:((kk:Nat):Int) % ((size (zm (j+1) (Ls.drop (j+1))):Nat):Int)=((kk % size (zm (j+1) (Ls.drop (j+1))):Nat):Int):=(Int.natCast_emod _ _).symm
  obtain⟨ct,ect,rct⟩:=hA4.oud.get (yN okL.wf.nd hyt)
  refine⟨_,rfl,vy hA4.ins T ⟨_,rfl,A.o,.ref ct,rfl,?_,_,rfl,?_⟩⟩
  .rw[<- ect];exact DGet.k (k:=Sum.inl (y:Int)) hA4.ou
  refine⟨ct,cc',t,c,rfl,rct.at_,hc4,λz hz=>by rw[pc.1];exact pt.lt hz,by rw[pt.1];omega,λH5 q s5 hq5 hq5'=>?_⟩
  refine⟨some (.ref a),some (.ref N),some (.int (y:Int)),q,then_ t c,kk % size (zm (j+1) (Ls.drop (j+1))),by rw[<- emd];rfl,(s'.trans s4).trans s5,hq5',(s'.trans s4).free hq5,pt.then pc,Nat.mod_lt _ pos,?_⟩
  rw[eq]
  show atC (zm (j+1) (Ls.drop (j+1))) (then_ (tOf L.out (at_ (inv c) (at_ (srt (L.out.map λyt=>at_ c yt.1)) (kk / size (zm (j+1) (Ls.drop (j+1))))))) c) (kk % size (zm (j+1) (Ls.drop (j+1))))=_
  rw[ey,eix,vK okL.wf.nd hyt]
 .rintro σ H' ⟨u4,u5,u6,cc',c,kk,rfl,s',hc',hc0,pc,hkk,eq⟩
  refine⟨_,rfl,?_⟩
  rw[la] at eq
  have e0:Ls.drop n=[]:=List.drop_of_length_le (by omega)
  rw[e0] at eq
  have e1:c=atC (zm 0 Ls) (none_ n) k0:=eq.symm
  rw[e1] at hc'
  exact k H' cc' s' hc0 hc'
theorem zbO(T:Tx K d)(h:ZM K d vs H Q E):zaw K d (DQ Q) (start n_place_of vs) H:=by
 obtain⟨l,r,n,w,Ls,row,rfl,⟨as,hG⟩,rest,hn,hr,hmem,k⟩:=h
 have len:=Rest.len rest
 have fit:=Rest.fit rest
 have la:(as.map V.ref).length=n:=by rw[List.length_map,hG.len,len]
 have xt:=rest.xt.1
 have pr:Pm n row:=(yb yD (Rest.wf rest) row hmem).1
 refine⟨_,rfl,l,_,rfl,.inl (SqL.of hG.lst),n,by rw[la];rfl,by omega,λH1 cc s1 hcc hcc'=>?_⟩
 refine⟨_,rfl,?_⟩
 refine⟨l,0,w,Ls,rfl,⟨as,hG.lay s1⟩,λN hN=>Nat.le_trans (fit.le N hN) (by omega),λH2 s2=>?_⟩
 have s12:=s1.trans s2
 rw[List.drop_zero]
 refine⟨_,rfl,l,rfl,⟨_,SqL.of (s12 _ _ hG.lst)⟩,?_⟩
 refine v4 (K:=K) (a:=l) (xs:=as.map V.ref) (λj σ H'=>∃(u5 u6 u7:Option V)(cc':Addr)(c h:Row)(pl:Nat),σ=[some (.ref l),some (.ref r),some (.ref cc'),some (.int ((size (zm j (Ls.drop j)):Nat):Int)),some (.int (pl:Int)),u5,u6,u7]/\Same H H'/\At H' cc' c/\Pm n c/\h∈mems n (zm j (Ls.drop j))/\row=then_ h c/\xo (zm 0 Ls) (none_ n) row=pl+xo (zm j (Ls.drop j)) c row)
  ⟨none,none,none,cc,none_ n,row,0,by rw[List.drop_zero];rfl,s12,s2 _ _ hcc',Pm.none,by rw[List.drop_zero];exact hmem,(yL pr).symm,by rw[List.drop_zero,Nat.zero_add]⟩ (λj σ H' _ ⟨_,_,_,_,_,_,_,_,s',_⟩=>SqL.of (s' _ _ hG.lst)) ?_ ?_
 .rintro j y σ H' hy ⟨u5,u6,u7,cc',c,h,pl,rfl,s',hc',pc,hh,erow,eq⟩
  obtain⟨a,ha,rfl⟩:=wd hy
  obtain⟨L,hL,A,hA⟩:=(hG.lay s').get' ha
  have hj:j<n:=by rw[<- len];exact(List.getElem?_eq_some_iff.mp hL).1
  obtain⟨okL,_,_⟩:=xt.ok j L hL
  have all:=xt.all (k:=n-(j+1)) (j:=j+1) (by omega)
  have wfR:=all.wf
  have hF:∀x,x∈dn (j+1)->x<n:=v7 (by omega)
  have eC:zm j (Ls.drop j)=(j,L.out)::zm (j+1) (Ls.drop (j+1)):=by rw[xZ hL];rfl
  have szr:=WB hn hF wfR
  have pos:=ji wfR
  have lout:L.out.length<=n:=YX okL.wf
  have lpos:0<L.out.length:=List.length_pos_of_mem okL.wf.one
  have esz:size (zm j (Ls.drop j))=L.out.length*size (zm (j+1) (Ls.drop (j+1))):=by rw[eC];rfl
  rw[eC] at eq hh
  obtain⟨x,t,h',hxt,hh',eh⟩:=yi.mp hh
  have wfj:WfC n (dn j) ((j,L.out)::zm (j+1) (Ls.drop (j+1))):=⟨okL.wf,wfR⟩
  have ahj:at_ h j=x:=by rw[eh];exact vb (v7 (by omega)) wfj hxt hh'
  have ph:Pm n h:=(yb (v7 (by omega)) wfj h hh).1
  have ph':Pm n h':=(yb hF wfR h' hh').1
  have hxn:=okL.wf.key hxt
  have pt:=okL.wf.pm x t hxt
  have arj:at_ row j=at_ c x:=by rw[erow,zJ (by rw[ph.1];exact hj),ahj]
  have eix:at_ (inv c) (at_ c x)=x:=yK pc hxn
  refine⟨_,rfl,_,rfl,ww hA.ins T ⟨A.r,_,rfl,.inl (SqL.of hA.re),_,_,rfl,rfl,by rw[zR,xz];exact y8.of (by omega) (by omega),?_⟩⟩
  have ediv:((size (zm j (Ls.drop j)):Nat):Int) / (((iv (keys L.out)).length:Nat):Int)=((size (zm (j+1) (Ls.drop (j+1))):Nat):Int):=by
   rw[zR,xz,<- Int.natCast_ediv,esz,Nat.mul_div_cancel_left _ lpos]
  show zg _ _ _ ([some (.ref l),some (.ref r),some (.ref cc'),some (.int (((size (zm j (Ls.drop j)):Nat):Int) / (((iv (keys L.out)).length:Nat):Int))),some (.int (pl:Int)),some (.ref a),u6,u7]) H'
  rw[ediv]
  refine⟨_,rfl,_,rfl,vx hA.ins T ⟨r,_,_,_,rfl,rfl,SqL.of (s' _ _ hr),yC (by rw[pr.1];exact hj),?_⟩⟩
  rw[arj]
  refine⟨_,rfl,_,rfl,_,rfl,ww hA.ins T ⟨A.r,rfl,⟨_,SqL.of hA.re⟩,λD hD=>?_⟩⟩
  refine wt (K:=K) (a:=A.r) (xs:=iv (keys L.out)) (λi H3=>Same H' H3/\At H3 D (((keys L.out).take i).filter λy=>decide (at_ c y<at_ c x))) ⟨same_upd hD,zj⟩ (λi H3 _ h=>SqL.of (h.1 _ _ hA.re)) (λi v H3 hv h=>?_) (λH3 h=>?_)
  .obtain⟨hi,rfl⟩:=vv hv
   have hkn:at_ (keys L.out) i<n:=by
    obtain⟨⟨x',t'⟩,h1,h2⟩:=List.mem_map.mp (jR hi)
    have h2':x'=at_ (keys L.out) i:=h2
    rw[<- h2'];exact okL.wf.key h1
   have et:(keys L.out).take (i+1)=(keys L.out).take i++[at_ (keys L.out) i]:=by rw[List.take_succ_eq_append_getElem hi,yk hi]
   refine⟨rfl,_,rfl,_,rfl,cc',_,_,_,rfl,rfl,SqL.of (h.1 _ _ hc'),yC (by rw[pc.1];exact hkn),_,rfl,_,_,rfl,rfl,_,rfl,?_⟩
   refine vW (λq=>?_) (λq=>?_)
   .have q':at_ c (at_ (keys L.out) i)<at_ c x:=Int.ofNat_lt.mp q
    refine⟨_,rfl,_,h.2,?_,h.1.upd hD,?_⟩
    .rw[zR]
     refine yJ (Nat.le_trans (List.length_filter_le _ _) ?_)
     rw[List.length_take,xz];omega
    .show upd _ _ _ _=_
     rw[zj,et,List.filter_append,jE]
     simp[q']
   .have q':¬at_ c (at_ (keys L.out) i)<at_ c x:=λz=>q (Int.ofNat_lt.mpr z)
    refine⟨h.1,?_⟩
    rw[et,List.filter_append]
    simpa [q'] using h.2
  have hD3:=h.2
  rw[zR,List.take_of_length_le (Nat.le_refl _)] at hD3
  have s3:=h.1
  have hfl:((keys L.out).filter λy=>decide (at_ c y<at_ c x)).length=(L.out.filter λyt=>decide (at_ c yt.1<at_ c x)).length:=by
   unfold keys;rw[List.filter_map,List.length_map];rfl
  have hfle:(L.out.filter λyt=>decide (at_ c yt.1<at_ c x)).length<=n:=Nat.le_trans (List.length_filter_le _ _) lout
  have hA3:=hA.lay s3
  have hc3:=s3 _ _ hc'
  refine⟨D,_,rfl,.inl (SqL.of hD3),_,_,rfl,rfl,.inr ⟨by omega,by rw[zR,hfl];omega⟩,_,_,rfl,rfl,?_⟩
  obtain⟨ct,ect,rct⟩:=hA3.oud.get (yN okL.wf.nd hxt)
  refine⟨_,rfl,vy hA3.ins T ⟨_,rfl,.inl ⟨rfl,_,SqL.of hc3⟩,_,rfl,kQ hc3 pc (pc.at_lt hxn) ⟨A.o,.ref ct,rfl,?_,_,rfl,?_⟩⟩⟩
  .rw[eix,<- ect];exact DGet.k (k:=Sum.inl (x:Int)) hA3.ou
  refine⟨ct,cc',t,c,rfl,rct.at_,hc3,λz hz=>by rw[pc.1];exact pt.lt hz,by rw[pt.1];omega,λH5 q s5 hq5 hq5'=>?_⟩
  refine⟨some (.ref a),some (.int ((at_ c x:Nat):Int)),u7,q,then_ t c,h',pl+size (zm (j+1) (Ls.drop (j+1)))*(L.out.filter λyt=>decide (at_ c yt.1<at_ c x)).length,?_,(s'.trans s3).trans s5,hq5',pt.then pc,hh',by rw[erow,eh,yz ph' pt],?_⟩
  .rw[zR,hfl,Int.natCast_add,Int.natCast_mul];rfl
  .rw[eq]
   show pl+(size (zm (j+1) (Ls.drop (j+1)))*(L.out.filter λyt=>decide (at_ c yt.1<at_ row j)).length+xo (zm (j+1) (Ls.drop (j+1))) (then_ (tOf L.out (at_ (inv c) (at_ row j))) c) row)=_
   rw[arj,eix,vK okL.wf.nd hxt,Nat.add_assoc]
 .rintro σ H' ⟨u5,u6,u7,cc',c,h,pl,rfl,s',hc',pc,hh,erow,eq⟩
  refine⟨_,rfl,?_⟩
  rw[la] at eq
  have e0:Ls.drop n=[]:=List.drop_of_length_le (by omega)
  rw[e0] at eq
  have e1:xo (zm 0 Ls) (none_ n) row=pl:=eq
  have:=k H' s'
  rw[e1] at this
  exact this
end
end Gd
end
section
set_option Elab.async false
set_option autoImplicit false
set_option linter.all false
set_option maxRecDepth 100000
set_option maxHeartbeats 2000000
namespace Gd
open PySem PyProof.Rows L2 GP
open Md07 (Row then_ none_ at_ isPerm inversions Made made least does two)
open Md07Neutral (S of_ with_ step said asked1)
abbrev inz(l:List Int):List V:=l.map V.int
def Q4(H:Hp)(l:List Int)(Q:VK):Prop:=∀(H':Hp)(a:Addr),Same H H'->H a=none->H' a=some (.lst (inz l))->Q (.ref a) H'
def ui(_:PySem.W.Frag)(_:Ad):Sp:=λvs H Q _=>∃k:Nat,vs=[.int k]/\Q4 H ((two k).map λ(x:Nat)=>(x:Int)) Q
def qi(_:PySem.W.Frag)(_:Ad):Sp:=λvs H Q _=>∃(a:Addr)(l:List Int)(n:Nat),vs=[.ref a,.int n]/\H a=some (.lst (inz l))/\l.length<=500/\Just H (.bl (l.all λx=>decide (0<=x) && decide (x<(n:Int)))) Q
def vN(_:PySem.W.Frag)(_:Ad):Sp:=λvs H Q _=>∃b:Bool,vs=[.bl b]/\Q4 H [if b=true then 1 else 0] Q
structure xn(d:Ad)(w:Own)(H:Hp)(h:Addr)(s:S)(l0 l1:Addr):Prop where
 lst:H h=some (.lst [.ref l0,.ref l1])
 tag:w h=some .held
 ne:l0≠l1
 t0:∃o,H l0=some o
 t1:∃o,H l1=some o
 a0:∀x,s.1=some x->∃Ls,zI d w H l0 Ls/\Rep x Ls
 a1:∀x,s.2=some x->∃Ls,zI d w H l1 Ls/\Rep x Ls
def xM(d:Ad)(w:Own)(H:Hp)(h:Addr)(s:S):Prop:=∃l0 l1,xn d w H h s l0 l1
abbrev P1:Tag->Prop:=λt=>t≠.row
def Ob(o:Int):Prop:=o=0∨o=1
def lo(l0 l1:Addr)(o:Int):Addr:=if o=0 then l0 else l1
section
variable{d:Ad}{w w':Own}{H H':Hp}{h l0 l1:Addr}{s:S}{o:Int}{x:Md07.Obj}
theorem xn.ix(_:xn d w H h s l0 l1)(ho:Ob o):atI [V.ref l0,V.ref l1] o=some (.ref (lo l0 l1 o)):=by
 rcases ho with rfl|rfl<;>rfl
theorem xn.ob(e:xn d w H h s l0 l1)(ho:Ob o)(hx:of_ s o=some x):∃Ls,zI d w H (lo l0 l1 o) Ls/\Rep x Ls:=by
 rcases ho with rfl|rfl
 .exact e.a0 x hx
 .exact e.a1 x hx
theorem xn.keep{P:Tag->Prop}(e:xn d w H h s l0 l1)(k:Kp P w H w' H')(hP:∀t,¬P t):xn d w' H' h s l0 l1:=by
 have kg:∀{l:Addr}{Ls:List Lv},zI d w H l Ls->zI d w' H' l Ls:=λ⟨as,g⟩=>⟨as,g.keep k (hP _) (hP _) λ_ _=>hP _⟩
 refine⟨k.hp _ _ e.lst λt _=>hP t,by rw[k.ow _ _ e.lst];exact e.tag,e.ne,let ⟨o,q⟩:=e.t0;k.th _ _ q,let ⟨o,q⟩:=e.t1;k.th _ _ q,λx hx=>?_,λx hx=>?_⟩
 .obtain⟨Ls,g,r⟩:=e.a0 x hx;exact⟨Ls,kg g,r⟩
 .obtain⟨Ls,g,r⟩:=e.a1 x hx;exact⟨Ls,kg g,r⟩
theorem xn.turn(e:xn d w H h s l0 l1)(ho:Ob o){Ls:List Lv}(k:Kp (grP (lo l0 l1 o)) w H w' H')(g:zI d w' H' (lo l0 l1 o) Ls)(r:Rep x Ls):xn d w' H' h (with_ s o x) l0 l1:=by
 have kg:∀{l:Addr}{Ls:List Lv},l≠lo l0 l1 o->zI d w H l Ls->zI d w' H' l Ls:=λ{l Ls} ne ⟨as,g⟩=>⟨as,g.keep k J7 zey λi j ⟨_,_,z⟩=>by injection z with z _ _;exact ne z⟩
 have hp:H' h=some (.lst [.ref l0,.ref l1]):=k.hp _ _ e.lst λt q z=>by rw[e.tag] at q;cases q;obtain⟨_,_,z⟩:=z;cases z
 have th0:=let ⟨o,q⟩:=e.t0;k.th _ _ q
 have th1:=let ⟨o,q⟩:=e.t1;k.th _ _ q
 have tg:w' h=some .held:=by rw[k.ow _ _ e.lst];exact e.tag
 rcases ho with rfl|rfl
 .refine⟨hp,tg,e.ne,th0,th1,λy hy=>?_,λy hy=>?_⟩
  .cases hy;exact⟨Ls,g,r⟩
  .obtain⟨Ms,gm,rm⟩:=e.a1 y hy;exact⟨Ms,kg e.ne.symm gm,rm⟩
 .refine⟨hp,tg,e.ne,th0,th1,λy hy=>?_,λy hy=>?_⟩
  .obtain⟨Ms,gm,rm⟩:=e.a0 y hy;exact⟨Ms,kg e.ne gm,rm⟩
  .cases hy;exact⟨Ls,g,r⟩
theorem yE.updO{l:Addr}{Ls:List Lv}{as:List Addr}{b:Addr}{u:HO}(g:yE d w H l Ls as)(hb:w b=some .held):yE d w (upd H b u) l Ls as:=by
 have q:∀t,w b=some t->t=.held:=λt e=>by rw[hb] at e;exact(Option.some.inj e).symm
 refine⟨by rw[zh (Zv g.tag hb (λz=>by cases z))];exact g.lst,g.tag,g.len,λi a L e1 e2=>?_⟩
 obtain⟨A,hA⟩:=g.at_ i a L e1 e2
 exact⟨A,hA.updO λt e=>by rw[q t e];exact⟨λz=>(by cases z),λk z=>(by cases z)⟩⟩
theorem xn.put(e:xn d w H h s l0 l1)(ho:Ob o){l':Addr}{Ls:List Lv}(k:Kp P0 w H w' H')(hl:H l'=none)(g:zI d w' H' l' Ls)(r:Rep x Ls):xM d w' (upd H' h (.lst ([V.ref l0,V.ref l1].set o.toNat (.ref l')))) h (with_ s o x)/\Kp P1 w H w' (upd H' h (.lst ([V.ref l0,V.ref l1].set o.toNat (.ref l')))):=by
 have e':=e.keep k (λ_ z=>z)
 have kg:∀{l:Addr}{Ls:List Lv},zI d w' H' l Ls->zI d w' (upd H' h (.lst ([V.ref l0,V.ref l1].set o.toNat (.ref l')))) l Ls:=λ⟨as,g⟩=>⟨as,g.updO e'.tag⟩
 have hl':∃o,H' l'=some o:=let ⟨as,g⟩:=g;⟨_,g.lst⟩
 refine⟨?_,(k.mono0 (P:=P1)).write e'.tag (λz=>by cases z)⟩
 rcases ho with rfl|rfl
 .refine⟨l',l1,zj,e'.tag,λz=>?_,yM hl',yM e'.t1,λy hy=>?_,λy hy=>?_⟩
  .obtain⟨u,q⟩:=e.t1;rw[<- z,hl] at q;cases q
  .cases hy;exact⟨Ls,kg g,r⟩
  .obtain⟨Ms,gm,rm⟩:=e'.a1 y hy;exact⟨Ms,kg gm,rm⟩
 .refine⟨l0,l',zj,e'.tag,λz=>?_,yM e'.t0,yM hl',λy hy=>?_,λy hy=>?_⟩
  .obtain⟨u,q⟩:=e.t0;rw[z,hl] at q;cases q
  .obtain⟨Ms,gm,rm⟩:=e'.a0 y hy;exact⟨Ms,kg gm,rm⟩
  .cases hy;exact⟨Ls,kg g,r⟩
end
theorem zez{g:Nat}:∀t,grP g t->P1 t:=λt ⟨_,_,z⟩ y=>by rw[y] at z;cases z
def HSp(d:Ad)(c:S->Md07Neutral.Call->List Int->Prop):Sp:=λvs H Q _=>∃(h nu:Addr)(w:Own)(s:S)(q:Md07Neutral.Call)(nums:List Int),vs=[.ref h,.ref nu]/\zS w H/\xM d w H h s/\H nu=some (.lst (inz nums))/\c s q nums /\
 ∀(w':Own)(H':Hp)(a:Addr),H a=none->Kp P1 w H w' H'->xM d w' H' h (step s q).1->H' a=some (.lst (inz (step s q).2))->Q (.ref a) H'
def qp(_:PySem.W.Frag)(d:Ad):Sp:=HSp d λ_ q nums=>∃o n:Int,Ob o/\nums=[o,n]/\q=[[1,o,n]]
def qv(_:PySem.W.Frag)(d:Ad):Sp:=HSp d λs q nums=>∃(o:Int)(i:Nat)(x:Md07.Obj),Ob o/\of_ s o=some x/\i<x.n/\nums=[o,(i:Int)]/\q=[[10,o,(i:Int)]]
def qt(_:PySem.W.Frag)(d:Ad):Sp:=HSp d λs q nums=>∃(a b:Int)(x y:Md07.Obj),Ob a/\Ob b/\of_ s a=some x/\of_ s b=some y/\nums=[a,b]/\q=[[11,a,b]]
def qr(_:PySem.W.Frag)(d:Ad):Sp:=HSp d λs q nums=>∃(a b:Int)(x y:Md07.Obj),Ob a/\Ob b/\of_ s a=some x/\of_ s b=some y/\nums=[a,b]/\q=[[12,a,b]]
def OSp(d:Ad)(c:Md07.Obj->Md07.Call->List Int->Row->Prop):Sp:=λvs H Q _=>∃(l nu r:Addr)(w:Own)(x:Md07.Obj)(Ls:List Lv)(q:Md07.Call)(nums:List Int)(row:Row),vs=[.ref l,.ref nu,.ref r]/\zS w H/\zI d w H l Ls/\Rep x Ls/\H nu=some (.lst (inz nums))/\zQ w H r row/\c x q nums row /\
 ∀(w':Own)(H':Hp)(a:Addr)(Ls':List Lv),H a=none->Kp (grP l) w H w' H'->zI d w' H' l Ls'->Rep (does x q).1 Ls'->H' a=some (.lst (inz (said (does x q).2)))->Q (.ref a) H'
def qB(_:PySem.W.Frag)(d:Ad):Sp:=OSp d λx q _ row=>Pm x.n row/\q=.add row
def qm(_:PySem.W.Frag)(d:Ad):Sp:=OSp d λ_ q _ _=>q=.order
def qu(_:PySem.W.Frag)(d:Ad):Sp:=OSp d λx q _ row=>Pm x.n row/\q=.has row
def qA(_:PySem.W.Frag)(d:Ad):Sp:=OSp d λ_ q nums _=>∃(o:Int)(low high:Nat),low<2 ^ 64/\high<2 ^ 64/\nums=[o,(low:Int),(high:Int)]/\q=.at_ (low+Md07.W*high)
def qk(_:PySem.W.Frag)(d:Ad):Sp:=OSp d λx q _ row=>Pm x.n row/\q=.rank row
def qw(_:PySem.W.Frag)(d:Ad):Sp:=OSp d λx q _ row=>Pm x.n row/\q=.first row
def qo(_:PySem.W.Frag)(d:Ad):Sp:=OSp d λx q nums _=>∃(o:Int)(i:Nat),i<x.n/\nums=[o,(i:Int)]/\q=.orbit (i:Int)
def qj(_:PySem.W.Frag)(d:Ad):Sp:=OSp d λx q nums _=>∃(o:Int)(i j:Nat),i<x.n/\j<x.n/\nums=[o,(i:Int),(j:Int)]/\q=.ways (i:Int) (j:Int)
def qz(_:PySem.W.Frag)(d:Ad):Sp:=OSp d λx q _ row=>Pm x.n row/\q=.commutes row
def qy(_:PySem.W.Frag)(d:Ad):Sp:=OSp d λ_ q _ _=>q=.even
def w8(K:PySem.W.Frag)(d:Ad):List (Addr×Sp):=[(d.a_answer_new,qp K d),(d.a_answer_fix,qv K d),(d.a_answer_inside,qt K d),(d.a_answer_join,qr K d)]
def xq(K:PySem.W.Frag)(d:Ad):List (Addr×Sp):=[(d.a_answer_add,qB K d),(d.a_answer_order,qm K d),(d.a_answer_has,qu K d),(d.a_answer_at,qA K d),(d.a_answer_rank,qk K d),(d.a_answer_first,qw K d),(d.a_answer_orbit,qo K d),(d.a_answer_ways,qj K d),(d.a_answer_commutes,qz K d),(d.a_answer_even,qy K d)]
structure Ty(K:PySem.W.Frag)(d:Ad):Prop extends Tx K d where
 numbersOf:KDict K d.o_NUMBERS_OF [(.inl 1,.int 2),(.inl 2,.int 1),(.inl 3,.int 1),(.inl 4,.int 1),(.inl 5,.int 3),(.inl 6,.int 1),(.inl 7,.int 1),(.inl 8,.int 2),(.inl 9,.int 3),(.inl 10,.int 2),(.inl 11,.int 2),(.inl 12,.int 2),(.inl 13,.int 1),(.inl 14,.int 1)]
 ofHeld:KDict K d.o_ANSWERS_OF_HELD [(.inl 1,.ref d.a_answer_new),(.inl 10,.ref d.a_answer_fix),(.inl 11,.ref d.a_answer_inside),(.inl 12,.ref d.a_answer_join)]
 ofOne:KDict K d.o_ANSWERS_OF_ONE [(.inl 2,.ref d.a_answer_add),(.inl 3,.ref d.a_answer_order),(.inl 4,.ref d.a_answer_has),(.inl 5,.ref d.a_answer_at),(.inl 6,.ref d.a_answer_rank),(.inl 7,.ref d.a_answer_first),(.inl 8,.ref d.a_answer_orbit),(.inl 9,.ref d.a_answer_ways),(.inl 13,.ref d.a_answer_commutes),(.inl 14,.ref d.a_answer_even)]
inductive Taken:yW->Int->List Int->Row->Prop
 |nums (p:Int) (nums:List Int):Taken [p::nums] p nums []
 |row (p o:Int) (row:Row):Taken [[p,o],row.map λ(x:Nat)=>(x:Int)] p [o] row
def qC(_:PySem.W.Frag)(d:Ad):Sp:=λvs H Q _=>∃(h nu r:Addr)(w:Own)(s:S)(q:yW)(e:List Int)(p:Int)(nums:List Int)(row:Row),vs=[.ref h,.int p,.ref nu,.ref r]/\zS w H/\xM d w H h s/\H nu=some (.lst (inz nums))/\zQ w H r row/\Taken q p nums row/\vJ q e/\asked1 s q=true /\
 ∀(w':Own)(H':Hp)(a:Addr),H a=none->Kp P1 w H w' H'->xM d w' H' h (step s q).1->H' a=some (.lst (inz (step s q).2))->Q (.ref a) H'
def ZS(K:PySem.W.Frag)(_:Ad):Sp:=λvs H Q _=>∃(c:Addr)(l:List Int),vs=[.ref c]/\SqL K H c (inz l)/\(∀b t,H b=some t->∃o u,t=.frz o u)/\l.length<=16000/\PyMd07.answers_asked l=true/\∀(H':Hp)(a:Addr),H' a=some (.lst (inz (PyMd07.answers l)))->Q (.ref a) H'
end Gd
end
section
set_option Elab.async false
set_option autoImplicit false
set_option linter.all false
set_option maxRecDepth 100000
set_option maxHeartbeats 2000000
namespace Gd
open PySem PyProof.Rows L2 GP
abbrev zat(K:PySem.W.Frag)(d:Ad):TS :=
 (zE (zU (zb (tOp (rI (λ_ j=>0<j) λi j=>V.int (i % j)) (za 0) (tC (.int (18446744073709551616)))) (zb (tOp (rI y8 λi j=>V.int (i / j)) (za 0) (tC (.int (18446744073709551616)))) zd))))
abbrev n_two_words:List Str:=["number"]
abbrev zaP(K:PySem.W.Frag)(d:Ad):TS :=
 (zE (tCB (jl K) (zb (tLc (yT K (za 0)) (zl 2) xc (j7 (tOp (rI0 λi j=>V.bl (decide (j<=i))) (za 2) (tC (.int 0))) (tOp (rI0 λi j=>V.bl (decide (i<j))) (za 2) (za 1))) [2]) zd)))
abbrev n_are_points:List Str:=["numbers","points","x"]
abbrev zas(K:PySem.W.Frag)(d:Ad):TS :=
 (zE (zU (zb (tIf (tB (za 0)) (tC (.int 1)) (tC (.int 0))) zd)))
abbrev n_yes_or_no:List Str:=["truth"]
abbrev zaV(K:PySem.W.Frag)(d:Ad):TS :=
 (zg (zn (tOp (zu K) (za 1) (tC (.int 1))) (zl 2))
 (zg (zY (tOr (ya (tOp (rI0 λi j=>V.bl (decide (i<j))) (za 2) (tC (.int 1)))) (ya (tOp (rI0 λi j=>V.bl (decide (j<i))) (za 2) (tC (.int (34))))))
  (zE (zU (zb (tC (.int (-2))) zd)))
  z7)
 (zg (zn (zy (qa K d) [] E0 (zb (za 2) zd)) (wL (za 0) (tOp (zu K) (za 1) (tC (.int 0))) xS))
 (zE (zU (zb (tC (.int 0)) zd))))))
abbrev n_answer_new:List Str:=["held","numbers","points"]
abbrev zaZ(K:PySem.W.Frag)(d:Ad):TS :=
 (zg (zn (tOp (zu K) (za 0) (tOp (zu K) (za 1) (tC (.int 0)))) (zl 2))
 (zg (zn (tOp (zu K) (za 1) (tC (.int 1))) (zl 3))
 (zg (zY (ya (tOp (kb K) (zy (jg K d) [] E0 (zb (za 2) (zb (za 3) zd))) (zU (zb (za 3) zd))))
  (zE (zU (zb (tC (.int 0)) zd)))
  z7)
 (zg (zn (zy (ZO K d) [] E0 (zb (za 2) (zb (za 3) zd))) (wL (za 0) (tOp (zu K) (za 1) (tC (.int 0))) xS))
 (zE (zU (zb (tC (.int 1)) zd)))))))
abbrev n_answer_fix:List Str:=["held","numbers","levels","point"]
abbrev zaX(K:PySem.W.Frag)(d:Ad):TS :=
 (zg (zn (tOp (zu K) (za 0) (tOp (zu K) (za 1) (tC (.int 0)))) (zl 2))
 (zg (zn (tOp (zu K) (za 0) (tOp (zu K) (za 1) (tC (.int 1)))) (zl 3))
 (zE (zy (vN K d) [] E0 (zb (j7 (tOp rEq (tCB (zZ K) (zb (za 2) zd)) (tCB (zZ K) (zb (za 3) zd))) (zy (qe K d) [] E0 (zb (za 2) (zb (za 3) zd)))) zd)))))
abbrev n_answer_inside:List Str:=["held","numbers","levels","others"]
abbrev zaW(K:PySem.W.Frag)(d:Ad):TS :=
 (zg (zn (tOp (zu K) (za 0) (tOp (zu K) (za 1) (tC (.int 0)))) (zl 2))
 (zg (zn (tOp (zu K) (za 0) (tOp (zu K) (za 1) (tC (.int 1)))) (zl 3))
 (zg (zY (ya (tOp rNe (tCB (zZ K) (zb (za 2) zd)) (tCB (zZ K) (zb (za 3) zd))))
  (zE (zU (zb (tC (.int (-1))) zd)))
  z7)
 (zg (zY (tB (zy (qe K d) [] E0 (zb (za 3) (zb (za 2) zd))))
  (zE (zU (zb (tC (.int 0)) zd)))
  z7)
 (zg (zn (zy (Wx K d) [] E0 (zb (za 2) (zb (za 3) zd))) (wL (za 0) (tOp (zu K) (za 1) (tC (.int 0))) xS))
 (zE (zU (zb (tC (.int 1)) zd))))))))
abbrev n_answer_join:List Str:=["held","numbers","levels","others"]
abbrev za4(K:PySem.W.Frag)(d:Ad):TS :=
 (zg (zY (tB (zy (wE K d) [] E0 (zb (za 0) (zb (tC (.int 0)) (zb (za 2) zd)))))
  (zE (zU (zb (tC (.int 0)) zd)))
  z7)
 (zg (yr (zy (qh K d) [] E0 (zb (za 0) (zb (za 2) zd))))
 (zE (zU (zb (tC (.int 1)) zd)))))
abbrev n_answer_add:List Str:=["levels","numbers","row"]
abbrev zaT(K:PySem.W.Frag)(d:Ad):TS :=
 (zE (tOp wR (zU (zb (tC (.int 0)) zd)) (zy (ui K d) [] E0 (zb (zy (wF K d) [] E0 (zb (za 0) (zb (tC (.int 0)) zd))) zd))))
abbrev n_answer_order:List Str:=["levels","numbers","row"]
abbrev zaY(K:PySem.W.Frag)(d:Ad):TS :=
 (zE (zy (vN K d) [] E0 (zb (zy (wE K d) [] E0 (zb (za 0) (zb (tC (.int 0)) (zb (za 2) zd)))) zd)))
abbrev n_answer_has:List Str:=["levels","numbers","row"]
abbrev za3(K:PySem.W.Frag)(d:Ad):TS :=
 (zg (zn (tOp (rI0 λi j=>V.int (i+j)) (tOp (zu K) (za 1) (tC (.int 1))) (tOp (rI CMul λi j=>V.int (i*j)) (tOp (zu K) (za 1) (tC (.int 2))) (tC (.int (18446744073709551616))))) (zl 3))
 (zg (zY (ya (tOp (rI0 λi j=>V.bl (decide (j<=i))) (za 3) (zy (wF K d) [] E0 (zb (za 0) (zb (tC (.int 0)) zd)))))
  (zE (zU (zb (tC (.int (-1))) zd)))
  z7)
 (zE (tOp wR (zU (zb (tC (.int 0)) zd)) (zy (ZN K d) [] E0 (zb (za 0) (zb (za 3) zd)))))))
abbrev n_answer_at:List Str:=["levels","numbers","row","place"]
abbrev zaS(K:PySem.W.Frag)(d:Ad):TS :=
 (zg (zY (xP (tB (zy (wE K d) [] E0 (zb (za 0) (zb (tC (.int 0)) (zb (za 2) zd))))))
  (zE (zU (zb (tC (.int (-1))) zd)))
  z7)
 (zE (tOp wR (zU (zb (tC (.int 0)) zd)) (zy (ui K d) [] E0 (zb (zy (ZM K d) [] E0 (zb (za 0) (zb (za 2) zd))) zd)))))
abbrev n_answer_rank:List Str:=["levels","numbers","row"]
abbrev za0(K:PySem.W.Frag)(d:Ad):TS :=
 (zE (tOp wR (zU (zb (tC (.int 0)) zd)) (zy (ZR K d) [] E0 (zb (za 0) (zb (za 2) zd)))))
abbrev n_answer_first:List Str:=["levels","numbers","row"]
abbrev zaU(K:PySem.W.Frag)(d:Ad):TS :=
 (zg (zn (zy (jg K d) [] E0 (zb (za 0) (zb (tOp (zu K) (za 1) (tC (.int 1))) zd))) (zl 3))
 (zE (tOp wR (zU (zb (tCB (zZ K) (zb (za 3) zd)) zd)) (za 3))))
abbrev n_answer_orbit:List Str:=["levels","numbers","row","orbit"]
abbrev zaR(K:PySem.W.Frag)(d:Ad):TS :=
 (zg (zn (zy (jg K d) [] E0 (zb (za 0) (zb (tOp (zu K) (za 1) (tC (.int 1))) zd))) (zl 3))
 (zg (zn (tIf (ya (tOp (rIn K false) (tOp (zu K) (za 1) (tC (.int 2))) (za 3))) (tOp (rI y8 λi j=>V.int (i / j)) (zy (wF K d) [] E0 (zb (za 0) (zb (tC (.int 0)) zd))) (tCB (zZ K) (zb (za 3) zd))) (tC (.int 0))) (zl 4))
 (zE (tOp wR (zU (zb (tC (.int 0)) zd)) (zy (ui K d) [] E0 (zb (za 4) zd))))))
abbrev n_answer_ways:List Str:=["levels","numbers","row","orbit","ways"]
abbrev za2(K:PySem.W.Frag)(d:Ad):TS :=
 (zE (zy (vN K d) [] E0 (zb (tCB (jl K) (zb (tLc (yT K (zy (uj K d) [] E0 (zb (za 0) zd))) (zl 3) xc (tOp (kb K) (zy (yR K d) [] E0 (zb (za 2) (zb (za 3) zd))) (zy (yR K d) [] E0 (zb (za 3) (zb (za 2) zd)))) [3]) zd)) zd)))
abbrev n_answer_commutes:List Str:=["levels","numbers","row","maker"]
abbrev za1(K:PySem.W.Frag)(d:Ad):TS :=
 (zE (zy (vN K d) [] E0 (zb (tCB (jl K) (zb (tLc (yT K (zy (uj K d) [] E0 (zb (za 0) zd))) (zl 3) xc (zy (qf K d) [] E0 (zb (za 3) zd)) [3]) zd)) zd)))
abbrev n_answer_even:List Str:=["levels","numbers","row","maker"]
abbrev Wj(K:PySem.W.Frag)(d:Ad):TS :=
 (zg (zn (tOp (zu K) (za 0) (tOp (zu K) (za 2) (tC (.int 0)))) (zl 4))
 (zg (zY (vf (ya (tOp (rIn K false) (za 1) (tC (.ref d.o_WITH_ROW)))) (xP (tB (zy (qd K d) [] E0 (zb (za 3) (zb (tCB (zZ K) (zb (za 4) zd)) zd))))))
  (zE (zU (zb (tC (.int (-2))) zd)))
  z7)
 (zg (zY (vf (ya (tOp (rIn K false) (za 1) (tC (.ref d.o_WITH_POINTS)))) (xP (tB (zy (qi K d) [] E0 (zb (tSl (we K) (za 2) (xf (tC (.int 1))) uf) (zb (tCB (zZ K) (zb (za 4) zd)) zd))))))
  (zE (zU (zb (tC (.int (-2))) zd)))
  z7)
 (zg (zY (tB (ZA K (za 1) (tC (.ref d.o_ANSWERS_OF_HELD))))
  (zg (zn (vL K (tC (.ref d.o_ANSWERS_OF_HELD)) (za 1)) (zl 6))
  (zE (jc 6 (w8 K d) (zb (za 0) (zb (za 2) zd)))))
  z7)
 (zg (zn (vL K (tC (.ref d.o_ANSWERS_OF_ONE)) (za 1)) (zl 5))
 (zE (jc 5 (xq K d) (zb (za 4) (zb (za 2) (zb (za 3) zd))))))))))
abbrev n_answer:List Str:=["held","call","numbers","row","levels","answer_one","answer_held"]
abbrev zaQ(K:PySem.W.Frag)(d:Ad):TS :=
 (zg (zn (zU (zb (zU zd) (zb (zU zd) zd))) (zl 1))
 (zg (zn (zU zd) (zl 2))
 (zg (zn (tC (.int 0)) (zl 3))
 (zg (wa (ya (tOp (rI0 λi j=>V.bl (decide (i<j))) (za 3) (tCB (zZ K) (zb (za 0) zd))))
  (zg (zn (tOp (zu K) (za 0) (za 3)) (zl 4))
  (zg (zn (tOp (rI0 λi j=>V.int (i+j)) (tOp (rI0 λi j=>V.int (i+j)) (za 3) (tC (.int 1))) (vL K (tC (.ref d.o_NUMBERS_OF)) (za 4))) (zl 5))
  (zg (zn (tSl (we K) (za 0) (xf (tOp (rI0 λi j=>V.int (i+j)) (za 3) (tC (.int 1)))) (xf (za 5))) (zl 6))
  (zg (zn (zU zd) (zl 7))
  (zg (zY (ya (tOp (rIn K false) (za 4) (tC (.ref d.o_WITH_ROW))))
   (zg (zn (tOp (rI0 λi j=>V.int (i+j)) (za 5) (tC (.int 1))) (zl 9))
   (zg (zn (tOp (rI0 λi j=>V.int (i+j)) (za 9) (tOp (zu K) (za 0) (tOp (rI0 λi j=>V.int (i-j)) (za 9) (tC (.int 1))))) (zl 5))
   (zn (tSl (we K) (za 0) (xf (za 9)) (xf (za 5))) (zl 7))))
   z7)
  (zg (zn (zy (qC K d) [] E0 (zb (za 1) (zb (za 4) (zb (za 6) (zb (za 7) zd))))) (zl 8))
  (zg (yr (tBM K "list" uo (za 2) (zb (tCB (zZ K) (zb (za 8) zd)) zd)))
  (zg (yr (tBM K "list" YI (za 2) (zb (za 8) zd)))
  (zn (za 5) (zl 3)))))))))))
 (zE (za 2))))))
abbrev n_answers:List Str:=["calls","held","found","place","call","end","numbers","row","answered","start"]
end Gd
end
section
set_option Elab.async false
set_option autoImplicit false
set_option linter.all false
set_option maxRecDepth 100000
set_option maxHeartbeats 2000000
namespace Gd
open PySem PyProof.Rows L2 GP
open Md07 (Row then_ none_ at_ isPerm inversions Made made least does two only)
open Md07Neutral (S of_ with_ step said asked1)
section
variable{K:PySem.W.Frag}{d:Ad}{vs:List V}{H:Hp}{Q:VK}{E:XK}
theorem zbL(h:ui K d vs H Q E):zat K d (DQ Q) (start n_two_words vs) H:=by
 obtain⟨k0,rfl,k⟩:=h
 refine⟨_,rfl,_,_,rfl,rfl,by show(0:Int)<18446744073709551616;decide,_,rfl,_,_,rfl,rfl,y8.of (by decide) (by decide),by show 2<=sizeLine;exact yP (by omega),λa ha=>?_⟩
 refine k _ a (same_upd ha) ha ?_
 rw[zj]
 show some (HO.lst [V.int (((k0:Nat):Int) % 18446744073709551616),V.int (((k0:Nat):Int) / 18446744073709551616)])=some (HO.lst [V.int ((k0 % Md07.W:Nat):Int),V.int ((k0 / Md07.W:Nat):Int)])
 have e:((Md07.W:Nat):Int)=18446744073709551616:=by decide
 rw[Int.natCast_emod,Int.natCast_ediv,e]
theorem zbK(h:vN K d vs H Q E):zas K d (DQ Q) (start n_yes_or_no vs) H:=by
 obtain⟨b,rfl,k⟩:=h
 refine⟨_,rfl,_,rfl,?_⟩
 cases b with
 |true=>exact yj ⟨by show 1<=sizeLine;exact yP (by omega),λa ha=>k _ a (same_upd ha) ha zj⟩
 |false=>exact zM ⟨by show 1<=sizeLine;exact yP (by omega),λa ha=>k _ a (same_upd ha) ha zj⟩
theorem zet{l:List Int}{i:Nat}{v:V}(h:(inz l)[i]? = some v):∃z,l[i]? = some z/\v=V.int z:=by
 rw[List.getElem?_map] at h
 cases e:l[i]? with
 |none=>rw[e] at h;cases h
 |some z=>rw[e] at h;exact⟨z,rfl,(Option.some.inj h).symm⟩
theorem zb7(h:qi K d vs H Q E):zaP K d (DQ Q) (start n_are_points vs) H:=by
 obtain⟨a,l,n,rfl,ha,hl,k⟩:=h
 refine⟨_,rfl,a,rfl,⟨_,SqL.of ha⟩,λD hD=>?_⟩
 refine wt (K:=K) (a:=a) (xs:=inz l) (λi H'=>Same H H'/\H' D=some (.lst (((l.take i).map λx=>decide (0<=x) && decide (x<(n:Int))).map V.bl))) ⟨same_upd hD,zj⟩ (λi H' _ h=>SqL.of (h.1 _ _ ha)) (λi y H' hy h=>?_) (λH' h=>?_)
 .obtain⟨z,hz,rfl⟩:=zet hy
  have hi:i<l.length:=(List.getElem?_eq_some_iff.mp hz).1
  have et:l.take (i+1)=l.take i++[z]:=by rw[List.take_succ_eq_append_getElem hi,(List.getElem?_eq_some_iff.mp hz).2]
  have fin:∀b:Bool,b=(decide (0<=z) && decide (z<(n:Int)))->∃acc,H' D=some (.lst acc)/\acc.length<sizeLine/\Same H (upd H' D (.lst (acc++[V.bl b])))/\upd H' D (.lst (acc++[V.bl b])) D=some (.lst (((l.take (i+1)).map λx=>decide (0<=x) && decide (x<(n:Int))).map V.bl)):=λb hb=>by
   refine⟨_,h.2,?_,h.1.upd hD,?_⟩
   .rw[List.length_map,List.length_map,List.length_take];exact yJ (by omega)
   .rw[zj,et,List.map_append,List.map_append,hb];rfl
  refine⟨rfl,yes ?_⟩
  refine⟨_,rfl,_,_,rfl,rfl,_,rfl,?_⟩
  refine Xl (λq=>?_) (λq=>?_)
  .exact⟨_,rfl,_,rfl,_,_,rfl,rfl,fin _ (by rw[decide_eq_true q,Bool.true_and])⟩
  .exact fin _ (by rw[decide_eq_false q,Bool.false_and])
 .refine⟨D,l.map λx=>decide (0<=x) && decide (x<(n:Int)),rfl,SqL.of ?_,?_⟩
  .have:=h.2
   rw[List.length_map,List.take_length] at this
   exact this
  .have:=k H' h.1
   rw[List.all_map]
   exact this
theorem VZ{σ:L2.St}{H:Hp}{Q:VK}{z:Int}(k:∀a,H a=none->Q (.ref a) (upd H a (.lst (inz [z])))):zU (zb (tC (.int z)) zd) σ H Q:=⟨by show 1<=sizeLine;exact yP (by omega),k⟩
theorem xn.lay{w:Own}{h l0 l1:Addr}{s:S}{H':Hp}(e:xn d w H h s l0 l1)(ok:zS w H)(s':Same H H'):xn d w H' h s l0 l1:=e.keep (P:=P0) ((Kp.refl ok).lay s') (λ_ z=>z)
theorem vB{w w1:Own}{H1:Hp}{h:Addr}{s s':S}{q:Md07Neutral.Call}{z:Int}{σ:L2.St}(k:∀(w':Own)(H':Hp)(a:Addr),H a=none->Kp P1 w H w' H'->xM d w' H' h (step s q).1->H' a=some (.lst (inz (step s q).2))->Q (.ref a) H')
  (kp:Kp P1 w H w1 H1) (hp:xM d w1 H1 h s') (e:step s q=(s',[z])):zU (zb (tC (.int z)) zd) σ H1 Q:=VZ λa ha=>by
 obtain⟨l0,l1,hp⟩:=hp
 refine k w1 _ a (kp.free ha) (kp.lay (same_upd ha)) ?_ ?_
 .rw[e];exact⟨l0,l1,hp.lay kp.ok (same_upd ha)⟩
 .rw[e];exact zj
theorem ixO{o:Int}(h:Ob o):ixN 2 o=some o.toNat:=by rcases h with rfl|rfl<;>rfl
theorem zcd(T:Tx K d)(h:qp K d vs H Q E):zaV K d (DQ Q) (start n_answer_new vs) H:=by
 obtain⟨h,nu,w,s,q,nums,rfl,ok,⟨l0,l1,hH⟩,hnu,⟨o,n,ho,rfl,rfl⟩,k⟩:=h
 refine⟨_,rfl,nu,_,_,_,rfl,rfl,SqL.of hnu,rfl,?_⟩
 have bad:¬(1<=n/\n<=((Md07.MOST:Nat):Int))->step s [[1,o,n]]=(s,[-2]):=λz=>by
  show(if (if 1<=n/\n<=((Md07.MOST:Nat):Int) then (Md07.alone n.toNat,only 0) else ((of_ s o).getD (Md07.alone 1),only (-2))).2.value=0 then _ else _,said (if 1<=n/\n<=((Md07.MOST:Nat):Int) then (Md07.alone n.toNat,only 0) else ((of_ s o).getD (Md07.alone 1),only (-2))).2)=_
  rw[if_neg z];rfl
 have good:(1<=n/\n<=((Md07.MOST:Nat):Int))->step s [[1,o,n]]=(with_ s o (Md07.alone n.toNat),[0]):=λz=>by
  show(if (if 1<=n/\n<=((Md07.MOST:Nat):Int) then (Md07.alone n.toNat,only 0) else ((of_ s o).getD (Md07.alone 1),only (-2))).2.value=0 then with_ s o (if 1<=n/\n<=((Md07.MOST:Nat):Int) then (Md07.alone n.toNat,only 0) else ((of_ s o).getD (Md07.alone 1),only (-2))).1 else s,said (if 1<=n/\n<=((Md07.MOST:Nat):Int) then (Md07.alone n.toNat,only 0) else ((of_ s o).getD (Md07.alone 1),only (-2))).2)=_
  rw[if_pos z];rfl
 have e34:((Md07.MOST:Nat):Int)=34:=rfl
 have no:¬(1<=n/\n<=((Md07.MOST:Nat):Int))->zU (zb (tC (.int (-2))) zd) [some (.ref h),some (.ref nu),some (.int n)] H Q:=λz=>vB k (Kp.refl ok) ⟨l0,l1,hH⟩ (bad z)
 refine⟨_,rfl,_,_,rfl,rfl,_,rfl,?_⟩
 refine vW (λq1=>?_) (λq1=>?_)
 .exact yj (no (by omega))
 refine⟨_,rfl,_,_,rfl,rfl,_,rfl,?_⟩
 refine vW (λq2=>no (by omega)) (λq2=>?_)
 obtain⟨m,rfl⟩:∃m:Nat,n=(m:Int):=⟨n.toNat,by omega⟩
 have gd:=good (by omega)
 rw[Int.toNat_natCast] at gd
 refine⟨_,rfl,?_⟩
 refine⟨m,w,rfl,by omega,ok,λw1 H1 l' k1 hl' hG=>?_⟩
 have s1:=k1.same0
 have r':=Rep.new (n:=m) (by omega) (by omega)
 obtain⟨hp,kp⟩:=hH.put ho k1 hl' hG r'
 refine⟨_,rfl,_,rfl,nu,_,_,_,rfl,rfl,SqL.of (s1 _ _ hnu),rfl,h,_,_,o.toNat,rfl,rfl,s1 _ _ hH.lst,ixO ho,?_⟩
 exact vB (σ:=[]) k kp hp gd
theorem jX{s:S}{o:Int}{x:Md07.Obj}(ho:Ob o)(h:of_ s o=some x):with_ s o x=s:=by
 obtain⟨s0,s1⟩:=s
 rcases ho with rfl|rfl
 .have:s0=some x:=h
  subst this;rfl
 .have:s1=some x:=h
  subst this;rfl
theorem Ww{s:S}{o:Int}{x:Md07.Obj}{i:Int}(h:of_ s o=some x):step s [[10,o,i]]=(with_ s o (does x (.fix i)).1,said (does x (.fix i)).2):=by
 show(match of_ s o,Md07Neutral.callOf [[10,o,i]] with
  |some x,some q=>(with_ s o (does x q).1,said (does x q).2)
  |_,_=>(s,[]))=_
 rw[h];rfl
theorem zbn{s:S}{a b:Int}{x y:Md07.Obj}(h:of_ s a=some x)(h':of_ s b=some y):step s [[11,a,b]]=(s,[if Md07.inside x y=true then 1 else 0]):=by
 unfold Md07Neutral.step
 simp only[h,h']
theorem zbm{s:S}{a b:Int}{x y:Md07.Obj}(h:of_ s a=some x)(h':of_ s b=some y):step s [[12,a,b]]=(with_ s a (Md07.join x y).1,said (Md07.join x y).2):=by
 unfold Md07Neutral.step
 simp only[h,h']
theorem zch(T:Tx K d)(h:qv K d vs H Q E):zaZ K d (DQ Q) (start n_answer_fix vs) H:=by
 obtain⟨h,nu,w,s,q,nums,rfl,ok,⟨l0,l1,hH⟩,hnu,⟨o,i,x,ho,hx,hi,rfl,rfl⟩,k⟩:=h
 obtain⟨Ls,hG,rep⟩:=hH.ob ho hx
 obtain⟨L,Ls,rfl⟩:=rep.cons
 have hn:=rep.tells.good.hi
 have st:=Ww (i:=(i:Int)) hx
 refine⟨_,rfl,_,rfl,nu,_,_,_,rfl,rfl,SqL.of hnu,rfl,h,_,_,_,rfl,rfl,SqL.of hH.lst,hH.ix ho,?_⟩
 refine⟨_,rfl,nu,_,_,_,rfl,rfl,SqL.of hnu,rfl,?_⟩
 refine⟨_,rfl,_,rfl,?_⟩
 refine⟨lo l0 l1 o,i,x.n,w,L,Ls,rfl,hG,rep.len,rep.rest.1.kl,hn,hi,λH1 a s1 ha ha1=>?_⟩
 change At H1 a (zT x.n L i) at ha1
 refine⟨_,rfl,by show 1<=sizeLine;exact yP (by omega),λb hb=>?_⟩
 have s2:=s1.trans (same_upd (o:=.lst [.int (i:Int)]) hb)
 refine⟨a,b,(zT x.n L i).map λ(v:Nat)=>(v:Int),[(i:Int)],rfl,rfl,SqL.of (by rw[zh (zw ha1 hb),<- wu];exact ha1),SqL.of zj,_,rfl,?_⟩
 have k2:Kp P0 w H w (upd H1 b (.lst [.int (i:Int)])):=(Kp.refl ok).lay s2
 have hH2:=hH.lay ok s2
 by_cases q:zT x.n L i=[i]
 .rw[decide_eq_true (by rw[q];rfl)]
  refine yj ?_
  have e:=zeW rep hi q
  rw[e] at st
  have st':step s [[10,o,(i:Int)]]=(s,[0]):=by rw[st];show(with_ s o x,[0])=_;rw[jX ho hx]
  exact vB (σ:=[]) k k2.mono0 ⟨l0,l1,hH2⟩ st'
 .have nq:¬((zT x.n L i).map λ(v:Nat)=>(v:Int))=[(i:Int)]:=λz=>q (by
   have:=congrArg (List.map Int.toNat) z
   rw[List.map_map] at this
   have e1:(Int.toNat ∘ λ(x:Nat)=>(x:Int))=id:=by funext x;simp
   rw[e1,List.map_id] at this
   simpa using this)
  rw[decide_eq_false nq]
  refine zM ?_
  have e:=zeV rep hi q
  rw[e] at st
  obtain⟨as,hGa⟩:=hG
  refine⟨_,rfl,_,rfl,?_⟩
  refine⟨lo l0 l1 o,i,x.n,w,L::Ls,rfl,k2.ok,⟨as,hGa.lay s2⟩,rep.rest,hn,hi,λw3 H3 l' Ls' k3 hl' hG3 r3 m3=>?_⟩
  obtain⟨hp,kp⟩:=hH2.put ho k3 hl' hG3 (rep.fix hi r3 m3)
  have s3:=k3.same0
  refine⟨_,rfl,_,rfl,nu,_,_,_,rfl,rfl,SqL.of (s3 _ _ (s2 _ _ hnu)),rfl,h,_,_,o.toNat,rfl,rfl,s3 _ _ hH2.lst,ixO ho,?_⟩
  exact vB (σ:=[]) k ((k2.mono0 (P:=P1)).trans kp) hp st
theorem zcf(T:Tx K d)(h:qt K d vs H Q E):zaX K d (DQ Q) (start n_answer_inside vs) H:=by
 obtain⟨h,nu,w,s,q,nums,rfl,ok,⟨l0,l1,hH⟩,hnu,⟨a,b,x,y,ha,hb,hx,hy,rfl,rfl⟩,k⟩:=h
 obtain⟨Ls,hG,rep⟩:=hH.ob ha hx
 obtain⟨Ms,hM,repM⟩:=hH.ob hb hy
 obtain⟨L,Ls,rfl⟩:=rep.cons
 have st:=zbn hx hy
 refine⟨_,rfl,_,rfl,nu,_,_,_,rfl,rfl,SqL.of hnu,rfl,h,_,_,_,rfl,rfl,SqL.of hH.lst,hH.ix ha,?_⟩
 refine⟨_,rfl,_,rfl,nu,_,_,_,rfl,rfl,SqL.of hnu,rfl,h,_,_,_,rfl,rfl,SqL.of hH.lst,hH.ix hb,?_⟩
 obtain⟨as,hGa⟩:=hG
 obtain⟨bs,hMa⟩:=hM
 refine⟨_,rfl,_,_,rfl,.inl (SqL.of hGa.lst),_,rfl,_,_,rfl,.inl (SqL.of hMa.lst),rfl,_,rfl,?_⟩
 rw[List.length_map,List.length_map,hGa.len,hMa.len,rep.len,repM.len]
 have fin:∀(b:Bool)(H1:Hp),Same H H1->Md07.inside x y=b->vN K d [.bl b] H1 Q E0:=λb0 H1 s1 e=>⟨b0,rfl,λH2 c s2 hc hc2=>by
  rw[e] at st
  have s12:=s1.trans s2
  exact k w H2 c (s1.free hc) ((Kp.refl ok).lay s12) (by rw[st];exact⟨l0,l1,hH.lay ok s12⟩) (by rw[st];exact hc2)⟩
 refine jK (λq=>?_) (λq=>?_)
 .have en:x.n=y.n:=Int.ofNat_inj.mp q
  refine⟨_,rfl,_,rfl,?_⟩
  refine⟨lo l0 l1 a,lo l0 l1 b,x.n,w,L,Ls,Ms,rfl,ok,⟨as,hGa⟩,⟨bs,hMa⟩,rep.rest,by rw[en];exact repM.rest,rep.tells.good.hi,λH1 s1=>?_⟩
  refine fin _ H1 s1 ?_
  show(x.n == y.n && x.g.all λ(p:Row)=>y.g.contains p)=_
  rw[J0 rep repM en,en,beq_self_eq_true,Bool.true_and]
 .refine fin false H (Same.refl _) ?_
  show(x.n == y.n && x.g.all λ(p:Row)=>y.g.contains p)=_
  rw[beq_eq_false_iff_ne.mpr (λz=>q (by rw[z])),Bool.false_and]
theorem zce(T:Tx K d)(h:qr K d vs H Q E):zaW K d (DQ Q) (start n_answer_join vs) H:=by
 obtain⟨h,nu,w,s,q,nums,rfl,ok,⟨l0,l1,hH⟩,hnu,⟨a,b,x,y,ha,hb,hx,hy,rfl,rfl⟩,k⟩:=h
 obtain⟨Ls,hG,rep⟩:=hH.ob ha hx
 obtain⟨Ms,hM,repM⟩:=hH.ob hb hy
 obtain⟨L,Ls,rfl⟩:=rep.cons
 obtain⟨M,Ms,rfl⟩:=repM.cons
 have st:=zbm hx hy
 obtain⟨as,hGa⟩:=hG
 obtain⟨bs,hMa⟩:=hM
 refine⟨_,rfl,_,rfl,nu,_,_,_,rfl,rfl,SqL.of hnu,rfl,h,_,_,_,rfl,rfl,SqL.of hH.lst,hH.ix ha,?_⟩
 refine⟨_,rfl,_,rfl,nu,_,_,_,rfl,rfl,SqL.of hnu,rfl,h,_,_,_,rfl,rfl,SqL.of hH.lst,hH.ix hb,?_⟩
 refine⟨_,rfl,_,_,rfl,.inl (SqL.of hGa.lst),_,rfl,_,_,rfl,.inl (SqL.of hMa.lst),rfl,_,rfl,?_⟩
 rw[List.length_map,List.length_map,hGa.len,hMa.len,rep.len,repM.len]
 refine ju (λq=>?_) (λq=>?_)
 .have e:Md07.join x y=(x,only (-1)):=if_pos (λz=>q (by rw[z]))
  rw[e] at st
  exact vB (σ:=[]) k (Kp.refl ok) ⟨l0,l1,hH⟩ (by rw[st];show(with_ s a x,[-1])=_;rw[jX ha hx])
 .have en:x.n=y.n:=Int.ofNat_inj.mp q
  refine⟨_,rfl,_,rfl,?_⟩
  refine⟨lo l0 l1 b,lo l0 l1 a,x.n,w,M,Ms,L::Ls,rfl,ok,⟨bs,hMa⟩,⟨as,hGa⟩,by rw[en];exact repM.rest,rep.rest,rep.tells.good.hi,λH1 s1=>?_⟩
  have ei:=J0 repM rep en.symm
  have k1:Kp P0 w H w H1:=(Kp.refl ok).lay s1
  have hH1:=hH.lay ok s1
  refine⟨_,rfl,?_⟩
  cases hs:M.makers.all λp=>GP.sift (zm 0 (L::Ls)) p with
  |true=>
   rw[hs] at ei
   have e:Md07.join x y=(x,only 0):=by
    show(if x.n≠y.n then _ else _)=_
    rw[if_neg (λz=>z en),if_pos ei]
   rw[e] at st
   refine yj ?_
   exact vB (σ:=[]) k k1.mono0 ⟨l0,l1,hH1⟩ (by rw[st];show(with_ s a x,[0])=_;rw[jX ha hx])
  |false=>
   rw[hs] at ei
   have e:Md07.join x y=(⟨x.n,x.gens++y.gens,made x.n (x.gens++y.gens)⟩,only 1):=by
    show(if x.n≠y.n then _ else _)=_
    rw[if_neg (λz=>z en),if_neg (by rw[ei];decide)]
   rw[e] at st
   refine zM ?_
   refine⟨_,rfl,_,rfl,?_⟩
   refine⟨lo l0 l1 a,lo l0 l1 b,x.n,w,L,M,Ls,Ms,rfl,k1.ok,⟨as,hGa.lay s1⟩,⟨bs,hMa.lay s1⟩,rep.rest,by rw[en];exact repM.rest,rep.tells.good.hi,trivial,λw3 H3 l' N Ns k3 hl' hG3 r3 m3=>?_⟩
   obtain⟨hp,kp⟩:=hH1.put ha k3 hl' hG3 (rep.join repM en r3 m3)
   have s3:=k3.same0
   refine⟨_,rfl,_,rfl,nu,_,_,_,rfl,rfl,SqL.of (s3 _ _ (s1 _ _ hnu)),rfl,h,_,_,a.toNat,rfl,rfl,s3 _ _ hH1.lst,ixO ha,?_⟩
   exact vB (σ:=[]) k ((k1.mono0 (P:=P1)).trans kp) hp st
section
variable{l:Addr}{w w1:Own}{H1:Hp}{x x':Md07.Obj}{q:Md07.Call}{Ls Ls':List Lv}
theorem wI{ans:Md07.Ans}{a:Addr}(k:∀(w':Own)(H':Hp)(a:Addr)(Ls':List Lv),H a=none->Kp (grP l) w H w' H'->zI d w' H' l Ls'->Rep (does x q).1 Ls'->H' a=some (.lst (inz (said (does x q).2)))->Q (.ref a) H')
  (hn:H a=none) (kp:Kp (grP l) w H w1 H1) (g:zI d w1 H1 l Ls') (r:Rep x' Ls') (e:does x q=(x',ans)) (ha:H1 a=some (.lst (inz (said ans)))):Q (.ref a) H1:=k w1 H1 a Ls' hn kp g (by rw[e];exact r) (by rw[e];exact ha)
theorem zI.lay{H2:Hp}(g:zI d w1 H1 l Ls)(s:Same H1 H2):zI d w1 H2 l Ls:=let ⟨as,h⟩:=g;⟨as,h.lay s⟩
theorem kD{z:Int}{σ:L2.St}(k:∀(w':Own)(H':Hp)(a:Addr)(Ls':List Lv),H a=none->Kp (grP l) w H w' H'->zI d w' H' l Ls'->Rep (does x q).1 Ls'->H' a=some (.lst (inz (said (does x q).2)))->Q (.ref a) H')
  (kp:Kp (grP l) w H w1 H1) (g:zI d w1 H1 l Ls') (r:Rep x' Ls') (e:does x q=(x',only z)):zU (zb (tC (.int z)) zd) σ H1 Q:=VZ λa ha=>wI k (kp.free ha) (kp.lay (same_upd ha)) (zI.lay g (same_upd ha)) r e zj
theorem uP{z:Int}{l2:List Int}{a b:Addr}{H2:Hp}(ha:H2 a=some (.lst (inz [z])))(hb:H2 b=some (.lst (inz l2)))(hl:l2.length<=500)(k:∀c,H2 c=none->Q (.ref c) (upd H2 c (.lst (inz (z::l2))))):wR (.ref a) (.ref b) H2 Q :=
 ⟨a,b,_,_,rfl,rfl,ha,hb,by rw[List.length_map,List.length_map];exact yP (by simp only[List.length_singleton];omega),λc hc=>k c hc⟩
end
theorem zcm(T:Tx K d)(h:qB K d vs H Q E):za4 K d (DQ Q) (start n_answer_add vs) H:=by
 obtain⟨l,nu,r,w,x,Ls,q,nums,row,rfl,ok,hG,rep,hnu,hr,⟨pm,rfl⟩,k⟩:=h
 have hn:=rep.tells.good.hi
 have fit:=Rest.fit rep.rest
 have da:=ze1 rep pm
 refine⟨_,rfl,_,rfl,?_⟩
 refine⟨l,r,0,x.n,w,Ls,row,rfl,hG,hr.at_,pm,hn,rep.len,fit.pm,λH1 s1=>?_⟩
 rw[List.drop_zero]
 have k1:Kp (grP l) w H w H1:=(Kp.refl ok).lay s1
 refine⟨_,rfl,?_⟩
 cases hs:GP.sift (zm 0 Ls) row with
 |true=>
  rw[hs,if_pos rfl] at da
  exact yj (kD (σ:=[]) k k1 (zI.lay hG s1) rep da)
 |false=>
  rw[hs,if_neg (by decide)] at da
  refine zM ?_
  obtain⟨L,Ls,rfl⟩:=rep.cons
  have sif:=vP (n:=x.n) (F:=[]) yD (Rest.wf rep.rest) pm (λj hj=>by simp at hj)
  refine⟨_,rfl,_,rfl,?_⟩
  refine⟨l,r,x.n,w,L,Ls,row,rfl,k1.ok,zI.lay hG s1,⟨s1 _ _ hr.at_,hr.tag⟩,pm,hn,rep.rest,λz=>(by rw[sif.mpr z] at hs;cases hs),λw2 H2 L' Ls' k2 hG2 r2 em=>?_⟩
  exact kD (σ:=[]) k (k1.trans k2) hG2 (rep.add pm r2 em) da
theorem Zt(k:Nat):((two k).map λ(x:Nat)=>(x:Int)).length<=500:=by show 2<=500;decide
theorem zcb(T:Tx K d)(h:qm K d vs H Q E):zaT K d (DQ Q) (start n_answer_order vs) H:=by
 obtain⟨l,nu,r,w,x,Ls,q,nums,row,rfl,ok,hG,rep,hnu,hr,rfl,k⟩:=h
 have hn:=rep.tells.good.hi
 have fit:=Rest.fit rep.rest
 refine⟨by show 1<=sizeLine;exact yP (by omega),λz hz=>?_⟩
 have s0:Same H (upd H z (.lst (inz [0]))):=same_upd hz
 refine⟨_,rfl,?_⟩
 refine⟨l,0,w,Ls,rfl,zI.lay hG s0,λN hN=>Nat.le_trans (fit.le N hN) (by omega),λH1 s1=>?_⟩
 rw[List.drop_zero]
 refine⟨_,rfl,λH2 a s2 ha ha2=>?_⟩
 have s02:=(s0.trans s1).trans s2
 refine uP (z:=0) (s2 _ _ (s1 _ _ zj)) ha2 (Zt _) λc hc=>?_
 have s3:=s02.trans (same_upd (o:=.lst (inz (0::((two (size (zm 0 Ls))).map λ(x:Nat)=>(x:Int))))) hc)
 exact wI k (s02.free hc) ((Kp.refl ok).lay s3) (zI.lay hG s3) rep (zeS rep) zj
theorem zcg(T:Tx K d)(h:qu K d vs H Q E):zaY K d (DQ Q) (start n_answer_has vs) H:=by
 obtain⟨l,nu,r,w,x,Ls,q,nums,row,rfl,ok,hG,rep,hnu,hr,⟨pm,rfl⟩,k⟩:=h
 have hn:=rep.tells.good.hi
 have fit:=Rest.fit rep.rest
 have da:=zeU rep pm
 refine⟨_,rfl,_,rfl,?_⟩
 refine⟨l,r,0,x.n,w,Ls,row,rfl,hG,hr.at_,pm,hn,rep.len,fit.pm,λH1 s1=>?_⟩
 rw[List.drop_zero]
 refine⟨_,rfl,λH2 a s2 ha ha2=>?_⟩
 exact wI k (s1.free ha) ((Kp.refl ok).lay (s1.trans s2)) (zI.lay hG (s1.trans s2)) rep da ha2
theorem zcl(T:Tx K d)(h:qA K d vs H Q E):za3 K d (DQ Q) (start n_answer_at vs) H:=by
 obtain⟨l,nu,r,w,x,Ls,q,nums,row,rfl,ok,hG,rep,hnu,hr,⟨o,low,high,hlow,hhigh,rfl,rfl⟩,k⟩:=h
 have hn:=rep.tells.good.hi
 have fit:=Rest.fit rep.rest
 have da:=ze0 rep (low+Md07.W*high)
 refine⟨_,rfl,nu,_,_,_,rfl,rfl,SqL.of hnu,rfl,_,rfl,nu,_,_,_,rfl,rfl,SqL.of hnu,rfl,_,_,rfl,rfl,.inl ⟨by omega,by omega⟩,_,_,rfl,rfl,?_⟩
 have epl:(low:Int)+(high:Int)*18446744073709551616=((low+Md07.W*high:Nat):Int):=by
  have e:Md07.W=18446744073709551616:=by decide
  rw[e];omega
 refine⟨_,rfl,_,rfl,?_⟩
 refine⟨l,0,w,Ls,rfl,hG,λN hN=>Nat.le_trans (fit.le N hN) (by omega),λH1 s1=>?_⟩
 rw[List.drop_zero]
 have k1:Kp (grP l) w H w H1:=(Kp.refl ok).lay s1
 refine⟨_,_,rfl,rfl,_,rfl,?_⟩
 refine Xl (λq=>?_) (λq=>?_)
 .rw[epl] at q
  rw[if_neg (by omega)] at da
  exact kD (σ:=[]) k k1 (zI.lay hG s1) rep da
 .rw[epl] at q
  have hlt:low+Md07.W*high<size (zm 0 Ls):=by omega
  rw[if_pos hlt] at da
  refine⟨by show 1<=sizeLine;exact yP (by omega),λz hz=>?_⟩
  have s2:=s1.trans (same_upd (o:=.lst (inz [0])) hz)
  refine⟨_,rfl,_,rfl,?_⟩
  refine⟨l,x.n,low+Md07.W*high,w,Ls,by rw[<- epl];rfl,zI.lay hG s2,rep.rest,hn,hlt,λH3 a s3 ha ha3=>?_⟩
  have la:(atC (zm 0 Ls) (none_ x.n) (low+Md07.W*high)).length<=500:=by
   obtain⟨h,hm,e,_⟩:=X2 yD (Rest.wf rep.rest) (c:=none_ x.n) Pm.none hlt
   have ph:=(yb yD (Rest.wf rep.rest) h hm).1
   rw[e,yf,ph.1];omega
  rw[At,wu] at ha3
  refine uP (z:=0) (s3 _ _ zj) ha3 (by rw[List.length_map];exact la) λc hc=>?_
  have s4:=(s2.trans s3).trans (same_upd (o:=.lst (inz (0::((atC (zm 0 Ls) (none_ x.n) (low+Md07.W*high)).map λ(x:Nat)=>(x:Int))))) hc)
  exact wI k ((s2.trans s3).free hc) ((Kp.refl ok).lay s4) (zI.lay hG s4) rep da zj
theorem zca(T:Tx K d)(h:qk K d vs H Q E):zaS K d (DQ Q) (start n_answer_rank vs) H:=by
 obtain⟨l,nu,r,w,x,Ls,q,nums,row,rfl,ok,hG,rep,hnu,hr,⟨pm,rfl⟩,k⟩:=h
 have hn:=rep.tells.good.hi
 have fit:=Rest.fit rep.rest
 have da:=zeR rep pm
 refine⟨_,rfl,_,rfl,?_⟩
 refine⟨l,r,0,x.n,w,Ls,row,rfl,hG,hr.at_,pm,hn,rep.len,fit.pm,λH1 s1=>?_⟩
 rw[List.drop_zero]
 have k1:Kp (grP l) w H w H1:=(Kp.refl ok).lay s1
 have sif:=vP (n:=x.n) (F:=[]) yD (Rest.wf rep.rest) pm (λj hj=>by simp at hj)
 refine⟨_,rfl,?_⟩
 cases hs:GP.sift (zm 0 Ls) row with
 |false=>
  rw[hs,if_neg (by decide)] at da
  exact yj (kD (σ:=[]) k k1 (zI.lay hG s1) rep da)
 |true=>
  rw[hs,if_pos rfl] at da
  refine zM ?_
  refine⟨by show 1<=sizeLine;exact yP (by omega),λz hz=>?_⟩
  have s2:=s1.trans (same_upd (o:=.lst (inz [0])) hz)
  refine⟨_,rfl,_,rfl,?_⟩
  refine⟨l,r,x.n,w,Ls,row,rfl,zI.lay hG s2,rep.rest,hn,s2 _ _ hr.at_,sif.mp hs,λH3 s3=>?_⟩
  refine⟨_,rfl,λH4 a s4 ha ha4=>?_⟩
  refine uP (z:=0) (s4 _ _ (s3 _ _ zj)) ha4 (Zt _) λc hc=>?_
  have s5:=((s2.trans s3).trans s4).trans (same_upd (o:=.lst (inz (0::((two (xo (zm 0 Ls) (none_ x.n) row)).map λ(x:Nat)=>(x:Int))))) hc)
  exact wI k (((s2.trans s3).trans s4).free hc) ((Kp.refl ok).lay s5) (zI.lay hG s5) rep da zj
theorem zci(T:Tx K d)(h:qw K d vs H Q E):za0 K d (DQ Q) (start n_answer_first vs) H:=by
 obtain⟨l,nu,r,w,x,Ls,q,nums,row,rfl,ok,hG,rep,hnu,hr,⟨pm,rfl⟩,k⟩:=h
 have hn:=rep.tells.good.hi
 have da:=zeX rep pm
 refine⟨by show 1<=sizeLine;exact yP (by omega),λz hz=>?_⟩
 have s0:Same H (upd H z (.lst (inz [0]))):=same_upd hz
 refine⟨_,rfl,_,rfl,?_⟩
 refine⟨l,r,x.n,w,Ls,row,x.g,rfl,ok.same s0,zI.lay hG s0,rep.rest,hn,s0 _ _ hr.at_,pm,rep.tells.mem,λH1 a s1 ha ha1=>?_⟩
 have ll:(least (x.g.map λ(q:Row)=>then_ row q)).length<=500:=by
  have hm:∀y,y∈x.g.map (λ(q:Row)=>then_ row q)->y.length=x.n:=λy hy=>by
   obtain⟨q,_,rfl⟩:=List.mem_map.mp hy
   rw[yf,pm.1]
  unfold Md07.least
  rcases kJ (x.g.map λ(q:Row)=>then_ row q) ((x.g.map λ(q:Row)=>then_ row q).headD []) with e|e
  .rw[e]
   cases hg:x.g.map (λ(q:Row)=>then_ row q) with
   |nil=>show 0<=500;omega
   |cons y ys=>show y.length<=500;rw[hm y (by rw[hg];exact List.mem_cons_self)];omega
  .rw[hm _ e];omega
 rw[At,wu] at ha1
 refine uP (z:=0) (s1 _ _ zj) ha1 (by rw[List.length_map];exact ll) λc hc=>?_
 have s2:=(s0.trans s1).trans (same_upd (o:=.lst (inz (0::((least (x.g.map λ(q:Row)=>then_ row q)).map λ(x:Nat)=>(x:Int))))) hc)
 exact wI k ((s0.trans s1).free hc) ((Kp.refl ok).lay s2) (zI.lay hG s2) rep da zj
theorem JI{n:Nat}{L:Lv}{i:Nat}:(zT n L i).length<=n:=by
 unfold zT;exact Nat.le_trans (List.length_filter_le _ _) (by rw[List.length_range];exact Nat.le_refl _)
theorem zcc(T:Tx K d)(h:qo K d vs H Q E):zaU K d (DQ Q) (start n_answer_orbit vs) H:=by
 obtain⟨l,nu,r,w,x,Ls,q,nums,row,rfl,ok,hG,rep,hnu,hr,⟨o,i,hi,rfl,rfl⟩,k⟩:=h
 have hn:=rep.tells.good.hi
 obtain⟨L,Ls,rfl⟩:=rep.cons
 refine⟨_,rfl,_,rfl,nu,_,_,_,rfl,rfl,SqL.of hnu,rfl,?_⟩
 refine⟨l,i,x.n,w,L,Ls,rfl,hG,rep.len,rep.rest.1.kl,hn,hi,λH1 a s1 ha ha1=>?_⟩
 change At H1 a (zT x.n L i) at ha1
 have lk:(zT x.n L i).length<=x.n:=JI
 refine⟨_,rfl,a,_,rfl,.inl (SqL.of ha1),by show 1<=sizeLine;exact yP (by omega),λz hz=>?_⟩
 have s2:=s1.trans (same_upd (o:=.lst [.int ((iv (zT x.n L i)).length:Nat)]) hz)
 have ha2:upd H1 z (.lst [.int ((iv (zT x.n L i)).length:Nat)]) a=some (.lst (inz ((zT x.n L i).map λ(v:Nat)=>(v:Int)))):=by rw[zh (zw ha1 hz)];rw[At,wu] at ha1;exact ha1
 have hz2:upd H1 z (.lst [.int ((iv (zT x.n L i)).length:Nat)]) z=some (.lst (inz [((zT x.n L i).length:Int)])):=by rw[zj,zR];rfl
 revert s2 ha2 hz2
 generalize upd H1 z (.lst [.int ((iv (zT x.n L i)).length:Nat)])=H2
 intro s2 ha2 hz2
 refine⟨_,rfl,?_⟩
 refine uP hz2 ha2 (by rw[List.length_map];omega) λc hc=>?_
 have s3:=s2.trans (same_upd (o:=.lst (inz (((zT x.n L i).length:Int)::((zT x.n L i).map λ(v:Nat)=>(v:Int))))) hc)
 exact wI k (s2.free hc) ((Kp.refl ok).lay s3) (zI.lay hG s3) rep (zeT rep hi) zj
theorem J2{j:Nat}:∀l:List Nat,inV (.int (j:Int)) (iv l)=decide (j∈l)
 |[]=>by simp[inV,iv]
 |a::l=>by
  show(((a:Int) == (j:Int)) || inV (.int (j:Int)) (iv l))=_
  rw[J2 l]
  by_cases h:a=j
  .subst h;simp
  .have h':¬j=a:=λz=>h z.symm
   rw[beq_eq_false_iff_ne.mpr (λz=>h (Int.ofNat_inj.mp z)),Bool.false_or]
   simp[h']
theorem zb9(T:Tx K d)(h:qj K d vs H Q E):zaR K d (DQ Q) (start n_answer_ways vs) H:=by
 obtain⟨l,nu,r,w,x,Ls,q,nums,row,rfl,ok,hG,rep,hnu,hr,⟨o,i,j,hi,hj,rfl,rfl⟩,k⟩:=h
 have hn:=rep.tells.good.hi
 have fit:=Rest.fit rep.rest
 obtain⟨L,Ls,rfl⟩:=rep.cons
 have da:=zeQ rep hi hj
 refine⟨_,rfl,_,rfl,nu,_,_,_,rfl,rfl,SqL.of hnu,rfl,?_⟩
 refine⟨l,i,x.n,w,L,Ls,rfl,hG,rep.len,rep.rest.1.kl,hn,hi,λH1 a s1 ha ha1=>?_⟩
 change At H1 a (zT x.n L i) at ha1
 have lk:(zT x.n L i).length<=x.n:=JI
 have lp:0<(zT x.n L i).length:=List.length_pos_of_mem (JH rep hi)
 refine⟨_,rfl,nu,_,_,_,rfl,rfl,SqL.of (s1 _ _ hnu),rfl,_,rfl,a,_,rfl,.inl (SqL.of ha1),rfl,Xr _,_,rfl,?_⟩
 have fin:∀(m:Nat)(H2:Hp)(u:Option V),Same H H2->H2 a=some (.lst (iv (zT x.n L i)))->m=(if j∈zT x.n L i then size (zm 0 (L::Ls)) / (zT x.n L i).length else 0) ->
   zE (tOp wR (zU (zb (tC (.int 0)) zd)) (zy (ui K d) [] E0 (zb (za 4) zd))) (DQ Q) [some (.ref l),some (.ref nu),some (.ref r),some (.ref a),some (.int (m:Int))] H2:=λm H2 u s2 _ em=>by
  refine⟨by show 1<=sizeLine;exact yP (by omega),λz hz=>?_⟩
  have s3:=s2.trans (same_upd (o:=.lst (inz [0])) hz)
  refine⟨_,rfl,m,rfl,λH4 b s4 hb hb4=>?_⟩
  refine uP (z:=0) (s4 _ _ zj) hb4 (Zt _) λc hc=>?_
  have s5:=(s3.trans s4).trans (same_upd (o:=.lst (inz (0::((two m).map λ(x:Nat)=>(x:Int))))) hc)
  rw[<- em] at da
  exact wI k ((s3.trans s4).free hc) ((Kp.refl ok).lay s5) (zI.lay hG s5) rep da zj
 show if inV (.int (j:Int)) (iv (zT x.n L i))=true then _ else _
 rw[J2]
 by_cases hm:j∈zT x.n L i
 .rw[decide_eq_true hm]
  refine yj ?_
  refine⟨_,rfl,?_⟩
  refine⟨l,0,w,L::Ls,rfl,zI.lay hG s1,λN hN=>Nat.le_trans (fit.le N hN) (by omega),λH2 s2=>?_⟩
  rw[List.drop_zero]
  refine⟨_,rfl,a,_,rfl,.inl (SqL.of (s2 _ _ ha1)),_,_,rfl,rfl,by rw[zR];exact y8.of (by omega) (by omega),?_⟩
  have ed:((size (zm 0 (L::Ls)):Nat):Int) / (((iv (zT x.n L i)).length:Nat):Int)=((size (zm 0 (L::Ls)) / (zT x.n L i).length:Nat):Int):=by rw[zR,Int.natCast_ediv]
  have f:=fin _ H2 none (s1.trans s2) (s2 _ _ ha1) (by rw[if_pos hm])
  rw[<- ed] at f
  exact f
 .rw[decide_eq_false hm]
  exact zM (fin 0 H1 none s1 ha1 (by rw[if_neg hm]))
theorem zck(T:Tx K d)(h:qz K d vs H Q E):za2 K d (DQ Q) (start n_answer_commutes vs) H:=by
 obtain⟨l,nu,r,w,x,Ls,q,nums,row,rfl,ok,hG,rep,hnu,hr,⟨pm,rfl⟩,k⟩:=h
 have hn:=rep.tells.good.hi
 obtain⟨L,Ls,rfl⟩:=rep.cons
 have da:=zeZ rep pm
 have tw:L.makers.length<128:=rep.rest.2.2.2.2.1.len hn rep.pms
 refine⟨_,rfl,?_⟩
 refine⟨l,w,L,Ls,rfl,hG,λms H1 q rms s1 hq hq1=>?_⟩
 refine⟨q,rfl,⟨_,SqL.of hq1⟩,λD hD=>?_⟩
 have hlen:ms.length=L.makers.length:=rms.length
 refine wt (K:=K) (a:=q) (xs:=ms.map V.ref) (λi H'=>Same H1 H'/\H' D=some (.lst (((L.makers.take i).map λp=>then_ row p == then_ p row).map V.bl))) ⟨same_upd hD,zj⟩ (λi H' _ h=>SqL.of (h.1 _ _ hq1)) (λi y H' hy h=>?_) (λH' h=>?_)
 .obtain⟨c,hc,rfl⟩:=wd hy
  obtain⟨p,hp,rp⟩:=Paired.get2 rms hc
  have hi:i<L.makers.length:=(List.getElem?_eq_some_iff.mp hp).1
  have et:L.makers.take (i+1)=L.makers.take i++[p]:=by rw[List.take_succ_eq_append_getElem hi,(List.getElem?_eq_some_iff.mp hp).2]
  have pp:=rep.pms p (List.mem_of_getElem? hp)
  have sH:=s1.trans h.1
  refine⟨rfl,yes ?_⟩
  refine⟨_,rfl,_,rfl,?_⟩
  refine⟨r,c,row,p,rfl,sH _ _ hr.at_,sH _ _ rp.at_,λz hz=>by rw[pp.1];exact pm.lt hz,by rw[pm.1];omega,λH2 a2 s2 ha2 ha2'=>?_⟩
  refine⟨_,rfl,_,rfl,?_⟩
  refine⟨c,r,p,row,rfl,s2 _ _ (sH _ _ rp.at_),s2 _ _ (sH _ _ hr.at_),λz hz=>by rw[pm.1];exact pp.lt hz,by rw[pp.1];omega,λH3 a3 s3 ha3 ha3'=>?_⟩
  refine⟨a2,a3,(then_ row p).map λ(v:Nat)=>(v:Int),(then_ p row).map λ(v:Nat)=>(v:Int),rfl,rfl,SqL.of (by rw[<- wu];exact s3 _ _ ha2'),SqL.of (by rw[<- wu];exact ha3'),?_⟩
  have eb:decide (((then_ row p).map λ(v:Nat)=>(v:Int))=(then_ p row).map λ(v:Nat)=>(v:Int))=(then_ row p == then_ p row):=by
   by_cases z:then_ row p=then_ p row
   .rw[z];simp
   .rw[beq_eq_false_iff_ne.mpr z,decide_eq_false]
    intro y
    apply z
    have:=congrArg (List.map Int.toNat) y
    rw[List.map_map,List.map_map] at this
    have e1:(Int.toNat ∘ λ(x:Nat)=>(x:Int))=id:=by funext x;simp
    rw[e1,List.map_id,List.map_id] at this
    exact this
  rw[eb]
  refine⟨_,s3 _ _ (s2 _ _ h.2),?_,((h.1.trans s2).trans s3).upd hD,?_⟩
  .rw[List.length_map,List.length_map,List.length_take];exact yJ (by omega)
  .rw[zj,et,List.map_append,List.map_append];rfl
 .have h2:=h.2
  rw[List.length_map,hlen,List.take_length] at h2
  refine⟨D,L.makers.map λp=>then_ row p == then_ p row,rfl,SqL.of h2,?_⟩
  rw[List.all_map]
  refine⟨_,rfl,λH2 a s2 ha ha2=>?_⟩
  have sA:=(s1.trans h.1).trans s2
  exact wI k ((s1.trans h.1).free ha) ((Kp.refl ok).lay sA) (zI.lay hG sA) rep da ha2
theorem zcj(T:Tx K d)(h:qy K d vs H Q E):za1 K d (DQ Q) (start n_answer_even vs) H:=by
 obtain⟨l,nu,r,w,x,Ls,q,nums,row,rfl,ok,hG,rep,hnu,hr,rfl,k⟩:=h
 have hn:=rep.tells.good.hi
 obtain⟨L,Ls,rfl⟩:=rep.cons
 have da:=zeY rep
 have tw:L.makers.length<128:=rep.rest.2.2.2.2.1.len hn rep.pms
 refine⟨_,rfl,?_⟩
 refine⟨l,w,L,Ls,rfl,hG,λms H1 q rms s1 hq hq1=>?_⟩
 refine⟨q,rfl,⟨_,SqL.of hq1⟩,λD hD=>?_⟩
 have hlen:ms.length=L.makers.length:=rms.length
 refine wt (K:=K) (a:=q) (xs:=ms.map V.ref) (λi H'=>Same H1 H'/\H' D=some (.lst (((L.makers.take i).map λp=>inversions p % 2 == 0).map V.bl))) ⟨same_upd hD,zj⟩ (λi H' _ h=>SqL.of (h.1 _ _ hq1)) (λi y H' hy h=>?_) (λH' h=>?_)
 .obtain⟨c,hc,rfl⟩:=wd hy
  obtain⟨p,hp,rp⟩:=Paired.get2 rms hc
  have hi:i<L.makers.length:=(List.getElem?_eq_some_iff.mp hp).1
  have et:L.makers.take (i+1)=L.makers.take i++[p]:=by rw[List.take_succ_eq_append_getElem hi,(List.getElem?_eq_some_iff.mp hp).2]
  have pp:=rep.pms p (List.mem_of_getElem? hp)
  have sH:=s1.trans h.1
  refine⟨rfl,yes ?_⟩
  refine⟨_,rfl,?_⟩
  refine⟨c,p,x.n,rfl,sH _ _ rp.at_,pp,by omega,λH2 s2=>?_⟩
  refine⟨_,s2 _ _ h.2,?_,(h.1.trans s2).upd hD,?_⟩
  .rw[List.length_map,List.length_map,List.length_take];exact yJ (by omega)
  .rw[zj,et,List.map_append,List.map_append];rfl
 .have h2:=h.2
  rw[List.length_map,hlen,List.take_length] at h2
  refine⟨D,L.makers.map λp=>inversions p % 2 == 0,rfl,SqL.of h2,?_⟩
  rw[List.all_map]
  refine⟨_,rfl,λH2 a s2 ha ha2=>?_⟩
  have sA:=(s1.trans h.1).trans s2
  exact wI k ((s1.trans h.1).free ha) ((Kp.refl ok).lay sA) (zI.lay hG sA) rep da ha2
end
end Gd
end
section
set_option Elab.async false
set_option autoImplicit false
set_option linter.all false
set_option maxRecDepth 100000
set_option maxHeartbeats 2000000
namespace Gd
open PySem PyProof.Rows L2 GP
open Md07 (Row then_ none_ at_ isPerm inversions Made made least does two only)
open Md07Neutral (S of_ with_ step said asked1)
section
variable{K:PySem.W.Frag}{d:Ad}{vs:List V}{H:Hp}{Q:VK}{E:XK}
theorem Xs{b:Bool}{A B:Prop}(h:b=true)(a:A):if b=true then A else B:=by rw[if_pos h];exact a
theorem Xu{b:Bool}{A B:Prop}(h:b=false)(x:B):if b=true then A else B:=by rw[if_neg (by rw[h];decide)];exact x
abbrev ZB(K:PySem.W.Frag)(d:Ad):TS :=
 zg (zY (tB (ZA K (za 1) (tC (.ref d.o_ANSWERS_OF_HELD))))
  (zg (zn (vL K (tC (.ref d.o_ANSWERS_OF_HELD)) (za 1)) (zl 6))
  (zE (jc 6 (w8 K d) (zb (za 0) (zb (za 2) zd)))))
  z7)
 (zg (zn (vL K (tC (.ref d.o_ANSWERS_OF_ONE)) (za 1)) (zl 5))
 (zE (jc 5 (xq K d) (zb (za 4) (zb (za 2) (zb (za 3) zd))))))
theorem wM(T:Ty K d){h nu r l f:Addr}{p:Int}{sp:Sp}{u5 u6:Option V}(h1:zX ([(.inl 1,.ref d.a_answer_new),(.inl 10,.ref d.a_answer_fix),(.inl 11,.ref d.a_answer_inside),(.inl 12,.ref d.a_answer_join)]:List (Key×V)) (.inl p)=none)
  (h2:zX ([(.inl 2,.ref d.a_answer_add),(.inl 3,.ref d.a_answer_order),(.inl 4,.ref d.a_answer_has),(.inl 5,.ref d.a_answer_at),(.inl 6,.ref d.a_answer_rank),(.inl 7,.ref d.a_answer_first),(.inl 8,.ref d.a_answer_orbit),(.inl 9,.ref d.a_answer_ways),(.inl 13,.ref d.a_answer_commutes),(.inl 14,.ref d.a_answer_even)]:List (Key×V)) (.inl p)=some (.ref f))
  (hf:(f,sp)∈xq K d) (k:sp [.ref l,.ref nu,.ref r] H Q λ_ _ _=>False):ZB K d (DQ Q) [some (.ref h),some (.int p),some (.ref nu),some (.ref r),some (.ref l),u5,u6] H:=by
 refine⟨_,rfl,_,_,.inl p,rfl,T.ofHeld,rfl,_,rfl,?_⟩
 rw[h1]
 refine zM ?_
 refine⟨_,rfl,_,_,.inl p,.ref f,rfl,T.ofOne,rfl,h2,?_⟩
 exact⟨f,sp,rfl,hf,_,rfl,_,rfl,_,rfl,k⟩
theorem kZ(T:Ty K d){h nu r l f:Addr}{p:Int}{sp:Sp}{u5 u6:Option V}(h1:zX ([(.inl 1,.ref d.a_answer_new),(.inl 10,.ref d.a_answer_fix),(.inl 11,.ref d.a_answer_inside),(.inl 12,.ref d.a_answer_join)]:List (Key×V)) (.inl p)=some (.ref f))
  (hf:(f,sp)∈w8 K d) (k:sp [.ref h,.ref nu] H Q λ_ _ _=>False):ZB K d (DQ Q) [some (.ref h),some (.int p),some (.ref nu),some (.ref r),some (.ref l),u5,u6] H:=by
 refine⟨_,rfl,_,_,.inl p,rfl,T.ofHeld,rfl,_,rfl,?_⟩
 rw[h1]
 refine yj ?_
 refine⟨_,rfl,_,_,.inl p,.ref f,rfl,T.ofHeld,rfl,h1,?_⟩
 exact⟨f,sp,rfl,hf,_,rfl,_,rfl,k⟩
abbrev Zx(K:PySem.W.Frag)(d:Ad):TT:=vf (ya (tOp (rIn K false) (za 1) (tC (.ref d.o_WITH_ROW)))) (xP (tB (zy (qd K d) [] E0 (zb (za 3) (zb (tCB (zZ K) (zb (za 4) zd)) zd)))))
abbrev Zw(K:PySem.W.Frag)(d:Ad):TT:=vf (ya (tOp (rIn K false) (za 1) (tC (.ref d.o_WITH_POINTS)))) (xP (tB (zy (qi K d) [] E0 (zb (tSl (we K) (za 2) (xf (tC (.int 1))) uf) (zb (tCB (zZ K) (zb (za 4) zd)) zd)))))
theorem wX(T:Ty K d){σ:L2.St}{p:Int}{R:Bool->Hp->Prop}(e:σ[1]? = some (some (.int p)))(h:inV (.int p) [.int 2,.int 4,.int 6,.int 7,.int 13]=false)(k:R false H):Zx K d σ H R :=
 ⟨_,e,d.o_WITH_ROW,_,rfl,.inr (T.withRow _),rfl,rfl,_,rfl,Xu h k⟩
theorem wq(T:Ty K d){σ:L2.St}{p:Int}{R:Bool->Hp->Prop}(e:σ[1]? = some (some (.int p)))(h:inV (.int p) [.int 8,.int 9,.int 10]=false)(k:R false H):Zw K d σ H R :=
 ⟨_,e,d.o_WITH_POINTS,_,rfl,.inr (T.withPoints _),rfl,rfl,_,rfl,Xu h k⟩
theorem Zo(T:Ty K d){h nu r l:Addr}{p o:Int}{rest:List Int}{n:Nat}{u5 u6:Option V}{R:Bool->Hp->Prop}(hp:inV (.int p) [.int 8,.int 9,.int 10]=true)(hnu:H nu=some (.lst (inz (o::rest))))(hl:rest.length<=500)(hg:∀H1,Same H H1->∃ys:List V,SqL K H1 l ys/\ys.length=n)
  (k:∀H1,Same H H1->R (!(rest.all λx=>decide (0<=x) && decide (x<(n:Int)))) H1):Zw K d [some (.ref h),some (.int p),some (.ref nu),some (.ref r),some (.ref l),u5,u6] H R:=by
 refine⟨_,rfl,d.o_WITH_POINTS,_,rfl,.inr (T.withPoints _),rfl,rfl,_,rfl,Xs hp ?_⟩
 refine⟨_,rfl,_,rfl,nu,_,rfl,SqL.of hnu,λc hc=>?_⟩
 have ec:x0 (inz (o::rest)) (some (1:Int)) none=inz rest:=by
  have:=k9 (xs:=inz (o::rest)) (s:=1)
  exact this
 rw[ec]
 have s1:Same H (upd H c (.lst (inz rest))):=same_upd hc
 obtain⟨ys,hy,hyl⟩:=hg _ s1
 refine⟨_,rfl,l,ys,rfl,.inl hy,?_⟩
 refine⟨c,rest,n,by rw[hyl];rfl,zj,hl,λH1 s2=>?_⟩
 exact⟨_,rfl,k H1 (s1.trans s2)⟩
theorem uX(T:Ty K d){h nu r l:Addr}{p:Int}{row:Row}{n:Nat}{u5 u6:Option V}{R:Bool->Hp->Prop}(hp:inV (.int p) [.int 2,.int 4,.int 6,.int 7,.int 13]=true)(hr:At H r row)(hl:row.length<64)(hn:n<=1000)(hg:∃ys:List V,SqL K H l ys/\ys.length=n)
  (k:∀H1,Same H H1->R (!isPerm n row) H1):Zx K d [some (.ref h),some (.int p),some (.ref nu),some (.ref r),some (.ref l),u5,u6] H R:=by
 refine⟨_,rfl,d.o_WITH_ROW,_,rfl,.inr (T.withRow _),rfl,rfl,_,rfl,Xs hp ?_⟩
 obtain⟨ys,hy,hyl⟩:=hg
 refine⟨_,rfl,_,rfl,l,ys,rfl,.inl hy,?_⟩
 refine⟨r,row,n,by rw[hyl];rfl,hr,hl,hn,λH1 s1=>?_⟩
 exact⟨_,rfl,k H1 s1⟩
theorem ki{x:Md07.Obj}{i:Int}(h:x.point i=true):∃m:Nat,i=(m:Int)/\m<x.n:=by
 unfold Md07.Obj.point at h
 rw[Bool.and_eq_true,decide_eq_true_iff,decide_eq_true_iff] at h
 exact⟨i.toNat,by omega,by omega⟩
theorem jv(row:Row):Md07Neutral.nats (row.map λ(x:Nat)=>(x:Int))=row:=by
 unfold Md07Neutral.nats
 rw[List.map_map]
 have e1:(Int.toNat ∘ λ(x:Nat)=>(x:Int))=id:=by funext x;simp
 rw[e1,List.map_id]
theorem Jg{o:Int}(h:Md07Neutral.object o=true):Ob o:=by
 unfold Md07Neutral.object at h
 rw[Bool.or_eq_true,beq_iff_eq,beq_iff_eq] at h
 exact h
theorem x9{s:S}{o:Int}(h:Md07Neutral.there s o=true):Ob o/\∃x,of_ s o=some x:=by
 unfold Md07Neutral.there at h
 rw[Bool.and_eq_true] at h
 exact⟨Jg h.1,Option.isSome_iff_exists.mp h.2⟩
theorem zcn(T:Ty K d)(h:qC K d vs H Q E):Wj K d (DQ Q) (start n_answer vs) H:=by
 obtain⟨h,nu,r,w,s,q,e,p,nums,row,rfl,ok,⟨l0,l1,hH⟩,hnu,hr,tk,ic,ask,k⟩:=h
 have first:∀(o:Int)(rest:List Int),Ob o->nums=o::rest->(zg (zY (Zx K d) (zE (zU (zb (tC (.int (-2))) zd))) z7) (zg (zY (Zw K d) (zE (zU (zb (tC (.int (-2))) zd))) z7) (ZB K d))) (DQ Q) [some (.ref h),some (.int p),some (.ref nu),some (.ref r),some (.ref (lo l0 l1 o)),none,none] H->Wj K d (DQ Q) (start n_answer [.ref h,.int p,.ref nu,.ref r]) H:=λo rest ho en k'=>by
  subst en
  exact⟨_,rfl,_,rfl,nu,_,_,_,rfl,rfl,SqL.of hnu,vG (j:=0) rfl rfl,h,_,_,_,rfl,rfl,SqL.of hH.lst,hH.ix ho,k'⟩
 have one:∀{o:Int}{x:Md07.Obj}{Ls:List Lv}{c:Md07.Call}{C:Md07.Obj->Md07.Call->List Int->Row->Prop}(H1:Hp),Ob o->of_ s o=some x->zI d w H (lo l0 l1 o) Ls->Rep x Ls->step s q=(with_ s o (does x c).1,said (does x c).2)->Same H H1->C x c nums row->OSp d C [.ref (lo l0 l1 o),.ref nu,.ref r] H1 Q λ_ _ _=>False:=λ{o x Ls c C} H1 ho hx g rep st s1 hC=>
  ⟨lo l0 l1 o,nu,r,w,x,Ls,c,nums,row,rfl,ok.same s1,zI.lay g s1,rep,s1 _ _ hnu,⟨s1 _ _ hr.at_,hr.tag⟩,hC,λw' H' a Ls' hn kp g' r' ha=>
   k w' H' a (s1.free hn) (((Kp.refl ok).lay s1).trans (kp.mono zez)) (by rw[st];exact⟨l0,l1,(hH.lay ok s1).turn ho kp g' r'⟩) (by rw[st];exact ha)⟩
 have held:∀{C:S->Md07Neutral.Call->List Int->Prop}(H1:Hp),Same H H1->C s q nums->HSp d C [.ref h,.ref nu] H1 Q λ_ _ _=>False:=λ{C} H1 s1 hC=>
  ⟨h,nu,w,s,q,nums,rfl,ok.same s1,⟨l0,l1,hH.lay ok s1⟩,s1 _ _ hnu,hC,λw' H' a hn kp hp ha=>k w' H' a (s1.free hn) (((Kp.refl ok).lay s1).trans kp) hp ha⟩
 have refuse:∀{o:Int}{x:Md07.Obj}{c:Md07.Call}(H1:Hp)(σ:L2.St),Ob o->of_ s o=some x->step s q=(with_ s o (does x c).1,said (does x c).2)->does x c=(x,only (-2))->Same H H1->zU (zb (tC (.int (-2))) zd) σ H1 Q:=λ{o x c} H1 σ ho hx st e s1=>
  vB k ((Kp.refl ok).lay s1) ⟨l0,l1,hH.lay ok s1⟩ (by rw[st,e];show(with_ s o x,[-2])=_;rw[jX ho hx])
 have lenG:∀{o:Int}{x:Md07.Obj}{Ls:List Lv}{H1:Hp},zI d w H (lo l0 l1 o) Ls->Rep x Ls->Same H H1->∃ys:List V,SqL K H1 (lo l0 l1 o) ys/\ys.length=x.n:=λ{o x Ls H1} ⟨as,g⟩ rep s1=>⟨_,SqL.of (s1 _ _ g.lst),by rw[List.length_map,g.len,rep.len]⟩
 cases ic with
 |n1 p' o hp=>
  cases tk with
  |nums=>
   rcases hp with rfl|rfl
   .obtain⟨ho,x,hx⟩:=x9 (s:=s) (o:=o) ask
    obtain⟨Ls,g,rep⟩:=hH.ob ho hx
    have st:step s [[3,o]]=(with_ s o (does x .order).1,said (does x .order).2):=by unfold Md07Neutral.step;simp only[hx];rfl
    refine first o [] ho rfl ?_
    refine wX T rfl rfl (zM (wq T rfl rfl (zM ?_)))
    exact wM T (f:=d.a_answer_order) (sp:=qm K d) rfl rfl (by simp[xq]) (one H ho hx g rep st (Same.refl _) rfl)
   .obtain⟨ho,x,hx⟩:=x9 (s:=s) (o:=o) ask
    obtain⟨Ls,g,rep⟩:=hH.ob ho hx
    have st:step s [[14,o]]=(with_ s o (does x .even).1,said (does x .even).2):=by unfold Md07Neutral.step;simp only[hx];rfl
    refine first o [] ho rfl ?_
    refine wX T rfl rfl (zM (wq T rfl rfl (zM ?_)))
    exact wM T (f:=d.a_answer_even) (sp:=qy K d) rfl rfl (by simp[xq]) (one H ho hx g rep st (Same.refl _) rfl)
 |n2 p' a b hp=>
  cases tk with
  |nums=>
   rcases hp with rfl|rfl|rfl|rfl|rfl
   .have ask':(Md07Neutral.object a && Md07Neutral.whole32 b)=true:=ask
    rw[Bool.and_eq_true] at ask'
    have ho:=Jg ask'.1
    refine first a [b] ho rfl ?_
    refine wX T rfl rfl (zM (wq T rfl rfl (zM ?_)))
    exact kZ T (f:=d.a_answer_new) (sp:=qp K d) rfl (by simp[w8]) (held H (Same.refl _) ⟨a,b,ho,rfl,rfl⟩)
   .have ask':(Md07Neutral.there s a && Md07Neutral.whole32 b)=true:=ask
    rw[Bool.and_eq_true] at ask'
    obtain⟨ho,x,hx⟩:=x9 ask'.1
    obtain⟨Ls,g,rep⟩:=hH.ob ho hx
    have st:step s [[8,a,b]]=(with_ s a (does x (.orbit b)).1,said (does x (.orbit b)).2):=by unfold Md07Neutral.step;simp only[hx];rfl
    refine first a [b] ho rfl ?_
    refine wX T rfl rfl (zM (Zo T rfl hnu (by show 1<=500;decide) (λH1 s1=>lenG g rep s1) λH1 s1=>?_))
    have ea:([b].all λz=>decide (0<=z) && decide (z<(x.n:Int)))=x.point b:=by show(x.point b && true)=_;rw[Bool.and_true]
    rw[ea]
    cases hpt:x.point b with
    |false=>exact yj (refuse H1 [] ho hx st (by show(if x.point b=false then _ else _)=_;rw[if_pos hpt]) s1)
    |true=>
     refine zM ?_
     obtain⟨m,rfl,hm⟩:=ki hpt
     exact wM T (f:=d.a_answer_orbit) (sp:=qo K d) rfl rfl (by simp[xq]) (one H1 ho hx g rep st s1 ⟨a,m,hm,rfl,rfl⟩)
   .have ask':(Md07Neutral.there s a && Md07Neutral.whole32 b)=true:=ask
    rw[Bool.and_eq_true] at ask'
    obtain⟨ho,x,hx⟩:=x9 ask'.1
    obtain⟨Ls,g,rep⟩:=hH.ob ho hx
    have st:step s [[10,a,b]]=(with_ s a (does x (.fix b)).1,said (does x (.fix b)).2):=Ww hx
    refine first a [b] ho rfl ?_
    refine wX T rfl rfl (zM (Zo T rfl hnu (by show 1<=500;decide) (λH1 s1=>lenG g rep s1) λH1 s1=>?_))
    have ea:([b].all λz=>decide (0<=z) && decide (z<(x.n:Int)))=x.point b:=by show(x.point b && true)=_;rw[Bool.and_true]
    rw[ea]
    cases hpt:x.point b with
    |false=>exact yj (refuse H1 [] ho hx st (by show(if x.point b=false then _ else _)=_;rw[if_pos hpt]) s1)
    |true=>
     refine zM ?_
     obtain⟨m,rfl,hm⟩:=ki hpt
     exact kZ T (f:=d.a_answer_fix) (sp:=qv K d) rfl (by simp[w8]) (held H1 s1 ⟨a,m,x,ho,hx,hm,rfl,rfl⟩)
   .have ask':(Md07Neutral.there s a && Md07Neutral.there s b)=true:=ask
    rw[Bool.and_eq_true] at ask'
    obtain⟨ho,x,hx⟩:=x9 ask'.1
    obtain⟨ho',y,hy⟩:=x9 ask'.2
    refine first a [b] ho rfl ?_
    refine wX T rfl rfl (zM (wq T rfl rfl (zM ?_)))
    exact kZ T (f:=d.a_answer_inside) (sp:=qt K d) rfl (by simp[w8]) (held H (Same.refl _) ⟨a,b,x,y,ho,ho',hx,hy,rfl,rfl⟩)
   .have ask':(Md07Neutral.there s a && Md07Neutral.there s b)=true:=ask
    rw[Bool.and_eq_true] at ask'
    obtain⟨ho,x,hx⟩:=x9 ask'.1
    obtain⟨ho',y,hy⟩:=x9 ask'.2
    refine first a [b] ho rfl ?_
    refine wX T rfl rfl (zM (wq T rfl rfl (zM ?_)))
    exact kZ T (f:=d.a_answer_join) (sp:=qr K d) rfl (by simp[w8]) (held H (Same.refl _) ⟨a,b,x,y,ho,ho',hx,hy,rfl,rfl⟩)
 |n3 p' a b c hp=>
  cases tk with
  |nums=>
   rcases hp with rfl|rfl
   .have ask':(Md07Neutral.there s a && (Md07Neutral.natural b 64 && Md07Neutral.natural c 64))=true:=ask
    rw[Bool.and_eq_true,Bool.and_eq_true] at ask'
    obtain⟨ho,x,hx⟩:=x9 ask'.1
    obtain⟨Ls,g,rep⟩:=hH.ob ho hx
    have nb:∀z:Int,Md07Neutral.natural z 64=true->∃m:Nat,z=(m:Int)/\m<2 ^ 64:=λz hz=>by
     unfold Md07Neutral.natural at hz
     rw[Bool.and_eq_true,decide_eq_true_iff,decide_eq_true_iff] at hz
     exact⟨z.toNat,by omega,by omega⟩
    obtain⟨lw,rfl,hlw⟩:=nb b ask'.2.1
    obtain⟨hg,rfl,hhg⟩:=nb c ask'.2.2
    have st:step s [[5,a,(lw:Int),(hg:Int)]]=(with_ s a (does x (.at_ (lw+Md07.W*hg))).1,said (does x (.at_ (lw+Md07.W*hg))).2):=by
     unfold Md07Neutral.step;simp only[hx]
     show(with_ s a (does x (.at_ ((lw:Int).toNat+Md07.W*(hg:Int).toNat))).1,said (does x (.at_ ((lw:Int).toNat+Md07.W*(hg:Int).toNat))).2)=_
     rw[Int.toNat_natCast,Int.toNat_natCast]
    refine first a [(lw:Int),(hg:Int)] ho rfl ?_
    refine wX T rfl rfl (zM (wq T rfl rfl (zM ?_)))
    exact wM T (f:=d.a_answer_at) (sp:=qA K d) rfl rfl (by simp[xq]) (one H ho hx g rep st (Same.refl _) ⟨a,lw,hg,hlw,hhg,rfl,rfl⟩)
   .have ask':(Md07Neutral.there s a && (Md07Neutral.whole32 b && Md07Neutral.whole32 c))=true:=ask
    rw[Bool.and_eq_true] at ask'
    obtain⟨ho,x,hx⟩:=x9 ask'.1
    obtain⟨Ls,g,rep⟩:=hH.ob ho hx
    have st:step s [[9,a,b,c]]=(with_ s a (does x (.ways b c)).1,said (does x (.ways b c)).2):=by unfold Md07Neutral.step;simp only[hx];rfl
    refine first a [b,c] ho rfl ?_
    refine wX T rfl rfl (zM (Zo T rfl hnu (by show 2<=500;decide) (λH1 s1=>lenG g rep s1) λH1 s1=>?_))
    have ea:([b,c].all λz=>decide (0<=z) && decide (z<(x.n:Int)))=(x.point b && x.point c):=by show(x.point b && (x.point c && true))=_;rw[Bool.and_true]
    rw[ea]
    cases hpt:(x.point b && x.point c) with
    |false=>exact yj (refuse H1 [] ho hx st (by show(if (x.point b && x.point c)=false then _ else _)=_;rw[if_pos hpt]) s1)
    |true=>
     refine zM ?_
     rw[Bool.and_eq_true] at hpt
     obtain⟨m,rfl,hm⟩:=ki hpt.1
     obtain⟨m2,rfl,hm2⟩:=ki hpt.2
     exact wM T (f:=d.a_answer_ways) (sp:=qj K d) rfl rfl (by simp[xq]) (one H1 ho hx g rep st s1 ⟨a,m,m2,hm,hm2,rfl,rfl⟩)
 |row p' o r' hp=>
  cases tk with
  |row=>
   have ask':(Md07Neutral.there s o && Md07Neutral.row s o (row.map λ(x:Nat)=>(x:Int)))=true:=by
    rcases hp with rfl|rfl|rfl|rfl|rfl<;>exact ask
   rw[Bool.and_eq_true] at ask'
   obtain⟨ho,x,hx⟩:=x9 ask'.1
   obtain⟨Ls,g,rep⟩:=hH.ob ho hx
   have hn:=rep.tells.good.hi
   have hlr:row.length=x.n:=by
    have h2:=ask'.2
    unfold Md07Neutral.row at h2
    rw[hx] at h2
    have h3:(((row.map λ(x:Nat)=>(x:Int)).all λ(z:Int)=>Md07Neutral.natural z 8) && (row.map λ(x:Nat)=>(x:Int)).length == x.n)=true:=h2
    rw[Bool.and_eq_true,beq_iff_eq,List.length_map] at h3
    exact h3.2
   refine first o [] ho rfl ?_
   rcases hp with rfl|rfl|rfl|rfl|rfl
   .have st:step s [[2,o],row.map λ(x:Nat)=>(x:Int)]=(with_ s o (does x (.add row)).1,said (does x (.add row)).2):=by
     have e:Md07Neutral.callOf [[2,o],row.map λ(x:Nat)=>(x:Int)]=some (.add row):=by
      show some (Md07.Call.add (Md07Neutral.nats (row.map λ(x:Nat)=>(x:Int))))=_
      rw[jv]
     unfold Md07Neutral.step;simp only[hx,e]
    refine uX T rfl hr.at_ (by omega) (by omega) (lenG g rep (Same.refl _)) λH1 s1=>?_
    cases hpp:isPerm x.n row with
    |false=>exact yj (refuse H1 [] ho hx st (by show(if isPerm x.n row=false then _ else _)=_;rw[if_pos hpp]) s1)
    |true=>
     exact zM (wq T rfl rfl (zM (wM T (f:=d.a_answer_add) (sp:=qB K d) rfl rfl (by simp[xq]) (one H1 ho hx g rep st s1 ⟨xY.mp hpp,rfl⟩))))
   .have st:step s [[4,o],row.map λ(x:Nat)=>(x:Int)]=(with_ s o (does x (.has row)).1,said (does x (.has row)).2):=by
     have e:Md07Neutral.callOf [[4,o],row.map λ(x:Nat)=>(x:Int)]=some (.has row):=by
      show some (Md07.Call.has (Md07Neutral.nats (row.map λ(x:Nat)=>(x:Int))))=_
      rw[jv]
     unfold Md07Neutral.step;simp only[hx,e]
    refine uX T rfl hr.at_ (by omega) (by omega) (lenG g rep (Same.refl _)) λH1 s1=>?_
    cases hpp:isPerm x.n row with
    |false=>exact yj (refuse H1 [] ho hx st (by show(if isPerm x.n row=false then _ else _)=_;rw[if_pos hpp]) s1)
    |true=>
     exact zM (wq T rfl rfl (zM (wM T (f:=d.a_answer_has) (sp:=qu K d) rfl rfl (by simp[xq]) (one H1 ho hx g rep st s1 ⟨xY.mp hpp,rfl⟩))))
   .have st:step s [[6,o],row.map λ(x:Nat)=>(x:Int)]=(with_ s o (does x (.rank row)).1,said (does x (.rank row)).2):=by
     have e:Md07Neutral.callOf [[6,o],row.map λ(x:Nat)=>(x:Int)]=some (.rank row):=by
      show some (Md07.Call.rank (Md07Neutral.nats (row.map λ(x:Nat)=>(x:Int))))=_
      rw[jv]
     unfold Md07Neutral.step;simp only[hx,e]
    refine uX T rfl hr.at_ (by omega) (by omega) (lenG g rep (Same.refl _)) λH1 s1=>?_
    cases hpp:isPerm x.n row with
    |false=>exact yj (refuse H1 [] ho hx st (by show(if isPerm x.n row=false then _ else _)=_;rw[if_pos hpp]) s1)
    |true=>
     exact zM (wq T rfl rfl (zM (wM T (f:=d.a_answer_rank) (sp:=qk K d) rfl rfl (by simp[xq]) (one H1 ho hx g rep st s1 ⟨xY.mp hpp,rfl⟩))))
   .have st:step s [[7,o],row.map λ(x:Nat)=>(x:Int)]=(with_ s o (does x (.first row)).1,said (does x (.first row)).2):=by
     have e:Md07Neutral.callOf [[7,o],row.map λ(x:Nat)=>(x:Int)]=some (.first row):=by
      show some (Md07.Call.first (Md07Neutral.nats (row.map λ(x:Nat)=>(x:Int))))=_
      rw[jv]
     unfold Md07Neutral.step;simp only[hx,e]
    refine uX T rfl hr.at_ (by omega) (by omega) (lenG g rep (Same.refl _)) λH1 s1=>?_
    cases hpp:isPerm x.n row with
    |false=>exact yj (refuse H1 [] ho hx st (by show(if isPerm x.n row=false then _ else _)=_;rw[if_pos hpp]) s1)
    |true=>
     exact zM (wq T rfl rfl (zM (wM T (f:=d.a_answer_first) (sp:=qw K d) rfl rfl (by simp[xq]) (one H1 ho hx g rep st s1 ⟨xY.mp hpp,rfl⟩))))
   .have st:step s [[13,o],row.map λ(x:Nat)=>(x:Int)]=(with_ s o (does x (.commutes row)).1,said (does x (.commutes row)).2):=by
     have e:Md07Neutral.callOf [[13,o],row.map λ(x:Nat)=>(x:Int)]=some (.commutes row):=by
      show some (Md07.Call.commutes (Md07Neutral.nats (row.map λ(x:Nat)=>(x:Int))))=_
      rw[jv]
     unfold Md07Neutral.step;simp only[hx,e]
    refine uX T rfl hr.at_ (by omega) (by omega) (lenG g rep (Same.refl _)) λH1 s1=>?_
    cases hpp:isPerm x.n row with
    |false=>exact yj (refuse H1 [] ho hx st (by show(if isPerm x.n row=false then _ else _)=_;rw[if_pos hpp]) s1)
    |true=>
     exact zM (wq T rfl rfl (zM (wM T (f:=d.a_answer_commutes) (sp:=qz K d) rfl rfl (by simp[xq]) (one H1 ho hx g rep st s1 ⟨xY.mp hpp,rfl⟩))))
end
end Gd
end
section
set_option Elab.async false
set_option autoImplicit false
set_option linter.all false
set_option maxRecDepth 100000
set_option maxHeartbeats 2000000
namespace Gd
open PySem PyProof.Rows L2 GP
open Md07 (Row then_ none_ at_ isPerm inversions Made made least does two only)
open Md07Neutral (S of_ with_ step said asked1)
section
variable{K:PySem.W.Frag}{d:Ad}{vs:List V}{H:Hp}{Q:VK}{E:XK}
theorem Qs{xs:List V}{a b:Nat}(h:a<=b)(hb:b<=xs.length):x0 xs (some (a:Int)) (some (b:Int))=(xs.drop a).take (b-a):=by
 unfold x0
 rw[HT.sIx_nat,HT.sIx_nat,Nat.min_eq_left hb,Nat.min_eq_left (show a<=xs.length by omega)]
theorem VS{l e t:List Int}{pos i:Nat}(h:l.drop pos=e++t)(hi:i<e.length):l[pos+i]? = e[i]?:=by
 rw[<- List.getElem?_drop,h,List.getElem?_append_left hi]
theorem Wz{l e t:List Int}{pos i j:Nat}(h:l.drop pos=e++t)(hij:i<=j)(hj:j<=e.length):(l.drop (pos+i)).take (j-i)=(e.drop i).take (j-i):=by
 rw[<- List.drop_drop,h,List.drop_append_of_le_length (by omega),List.take_append_of_le_length (by rw[List.length_drop];omega)]
theorem zeP{l e t:List Int}{pos:Nat}(h:l.drop pos=e++t):l.drop (pos+e.length)=t:=by
 rw[<- List.drop_drop,h,List.drop_left]
theorem zd1{l e t:List Int}{pos:Nat}(h:l.drop pos=e++t)(he:e≠[]):pos+e.length<=l.length:=by
 have h1:=congrArg List.length h
 rw[List.length_drop,List.length_append] at h1
 have h2:0<e.length:=List.length_pos_iff.mpr he
 omega
theorem JW{l:List Int}{a n:Nat}:((inz l).drop a).take n=inz ((l.drop a).take n):=by rw[<- List.map_drop,<- List.map_take]
theorem zap(s:S)(q:yW)(cs:List yW):PyFlat.told (PyFlat.played step s (q::cs))=(((step s q).2.length:Int)::(step s q).2)++PyFlat.told (PyFlat.played step (step s q).1 cs):=by
 show PyFlat.told ((step s q).2::PyFlat.played step (step s q).1 cs)=_
 rw[zaq]
abbrev ZE(K:PySem.W.Frag)(d:Ad):TS :=
 (zg (zn (zy (qC K d) [] E0 (zb (za 1) (zb (za 4) (zb (za 6) (zb (za 7) zd))))) (zl 8))
 (zg (yr (tBM K "list" uo (za 2) (zb (tCB (zZ K) (zb (za 8) zd)) zd)))
 (zg (yr (tBM K "list" YI (za 2) (zb (za 8) zd)))
 (zn (za 5) (zl 3)))))
theorem zb8(T:Ty K d)(h:ZS K d vs H Q E):zaQ K d (DQ Q) (start n_answers vs) H:=by
 obtain⟨c,l,rfl,hc,_,hl,ask,k⟩:=h
 obtain⟨cs,are,hcs,_,goes,eans⟩:=zf9 ask
 refine⟨Nat.zero_le _,λe0 he0=>⟨Nat.zero_le _,λe1 he1=>⟨by show 2<=sizeLine;exact yP (by omega),λh hh=>?_⟩⟩⟩
 refine⟨Nat.zero_le _,λfo hfo=>?_⟩
 have s0:Same H (upd H e0 (.lst [])):=same_upd he0
 have s1:=s0.trans (same_upd (o:=.lst []) he1)
 have s2:=s1.trans (same_upd (o:=.lst [.ref e0,.ref e1]) hh)
 have s3:=s2.trans (same_upd (o:=.lst []) hfo)
 have hh0:H h=none:=s1.free hh
 have hfo0:H fo=none:=s2.free hfo
 have n01:e0≠e1:=zw zj he1
 have t1h:upd (upd H e0 (.lst [])) e1 (.lst []) e0=some (.lst []):=by rw[zh n01];exact zj
 have nh0:e0≠h:=zw t1h hh
 have nh1:e1≠h:=zw zj hh
 have hh3:upd (upd (upd (upd H e0 (.lst [])) e1 (.lst [])) h (.lst [.ref e0,.ref e1])) fo (.lst []) h=some (.lst [.ref e0,.ref e1]):=by
  rw[zh (zw zj hfo),zj]
 let w0:Own:=λ_=>none
 have ok0:zS w0 H:=λb t e=>by cases e
 have k0:Kp P0 w0 H (own w0 h .held) (upd (upd (upd (upd H e0 (.lst [])) e1 (.lst [])) h (.lst [.ref e0,.ref e1])) fo (.lst [])):=((Kp.refl ok0).lay s3).name hh0 hh3 (λg z=>by cases z)
 have held0:xM d (own w0 h .held) (upd (upd (upd (upd H e0 (.lst [])) e1 (.lst [])) h (.lst [.ref e0,.ref e1])) fo (.lst [])) h Md07Neutral.start :=
  ⟨e0,e1,hh3,y4,n01,yM (yM (yM ⟨_,zj⟩)),yM (yM ⟨_,zj⟩),λx hx=>(by cases hx),λx hx=>(by cases hx)⟩
 have wfo:own w0 h .held fo=none:=by rw[wW (zw (H:=upd (upd (upd H e0 (.lst [])) e1 (.lst [])) h (.lst [.ref e0,.ref e1])) zj hfo).symm]
 have fo3:upd (upd (upd (upd H e0 (.lst [])) e1 (.lst [])) h (.lst [.ref e0,.ref e1])) fo (.lst []) fo=some (.lst (inz [])):=zj
 revert k0 held0 wfo fo3
 generalize own w0 h .held=w1
 generalize upd (upd (upd (upd H e0 (.lst [])) e1 (.lst [])) h (.lst [.ref e0,.ref e1])) fo (.lst [])=H1
 intro k0 held0 wfo fo3
 refine⟨λm σ H'=>∃(u4 u5 u6 u7 u8 u9:Option V)(pos:Nat)(w':Own)(s:S)(cs':List yW)(fl:List Int)(kn:Nat),σ=[some (.ref c),some (.ref h),some (.ref fo),some (.int (pos:Int)),u4,u5,u6,u7,u8,u9]/\m=cs'.length/\Kp P0 w0 H w' H'/\xM d w' H' h s/\w' fo=none/\H' fo=some (.lst (inz fl))/\wO cs' (l.drop pos)/\pos<=l.length/\Md07Neutral.goes kn s cs'=true/\fl.length+cs'.length<=kn+300/\PyMd07.answers l=fl++PyFlat.told (PyFlat.played step s cs'),
  ⟨_,none,none,none,none,none,none,0,w1,Md07Neutral.start,cs,[],0,rfl,rfl,k0,held0,wfo,fo3,by rw[List.drop_zero];exact are,Nat.zero_le _,goes,by simpa using hcs,by rw[List.nil_append];exact eans⟩,?_⟩
 rintro m σ H' ⟨u4,u5,u6,u7,u8,u9,pos,w',s,cs',fl,kn,rfl,hm,kp,hH,wf',hf',ac,hpos,go,hfl,eq⟩
 have hc':SqL K H' c (inz l):=kp.same0.seq hc
 refine⟨_,rfl,_,rfl,c,_,rfl,.inl hc',_,_,rfl,rfl,_,rfl,?_⟩
 rw[List.length_map]
 refine vW (λq=>?_) (λq=>?_)
 .cases hcs':cs' with
  |nil=>
   exfalso
   rw[hcs'] at ac
   generalize hd:l.drop pos=dl at ac
   cases ac
   have:=congrArg List.length hd
   rw[List.length_drop] at this
   simp at this
   omega
  |cons qc cs2=>
   subst hcs'
   generalize hd:l.drop pos=dl at ac
   cases ac with
   |@cons _ _ e t ic ac2=>
   have hene:e≠[]:=by cases ic<;>simp
   have hle:=zd1 hd hene
   obtain⟨hask,go2⟩:=J8 go
   have small:=XB go2
   refine⟨fun σ' H'=>∃m',m'<m/\∃(u4 u5 u6 u7 u8 u9:Option V)(pos:Nat)(w':Own)(s:S)(cs':List yW)(fl:List Int)(kn:Nat),σ'=[some (.ref c),some (.ref h),some (.ref fo),some (.int (pos:Int)),u4,u5,u6,u7,u8,u9]/\m'=cs'.length/\Kp P0 w0 H w' H'/\xM d w' H' h s/\w' fo=none/\H' fo=some (.lst (inz fl))/\wO cs' (l.drop pos)/\pos<=l.length/\Md07Neutral.goes kn s cs'=true/\fl.length+cs'.length<=kn+300/\PyMd07.answers l=fl++PyFlat.told (PyFlat.played step s cs'),λ_ _ z=>z,?_⟩
   have body2:∀(p:Int)(nums:List Int)(row:Row)(H2:Hp)(w2:Own)(nu r:Addr)(u9:Option V),Same H' H2->Kp P0 w' H' w2 H2->H2 nu=some (.lst (inz nums))->zQ w2 H2 r row->Taken qc p nums row->ZE K d
     { nx:=fun σ' H'=>∃m',m'<m/\∃(u4 u5 u6 u7 u8 u9:Option V)(pos:Nat)(w':Own)(s:S)(cs':List yW)(fl:List Int)(kn:Nat),σ'=[some (.ref c),some (.ref h),some (.ref fo),some (.int (pos:Int)),u4,u5,u6,u7,u8,u9]/\m'=cs'.length/\Kp P0 w0 H w' H'/\xM d w' H' h s/\w' fo=none/\H' fo=some (.lst (inz fl))/\wO cs' (l.drop pos)/\pos<=l.length/\Md07Neutral.goes kn s cs'=true/\fl.length+cs'.length<=kn+300/\PyMd07.answers l=fl++PyFlat.told (PyFlat.played step s cs'),rt:=Q,bk:=fun σ H'=>zE (za 2) (DQ Q) σ H',ct:=fun σ' H'=>∃m',m'<m/\∃(u4 u5 u6 u7 u8 u9:Option V)(pos:Nat)(w':Own)(s:S)(cs':List yW)(fl:List Int)(kn:Nat),σ'=[some (.ref c),some (.ref h),some (.ref fo),some (.int (pos:Int)),u4,u5,u6,u7,u8,u9]/\m'=cs'.length/\Kp P0 w0 H w' H'/\xM d w' H' h s/\w' fo=none/\H' fo=some (.lst (inz fl))/\wO cs' (l.drop pos)/\pos<=l.length/\Md07Neutral.goes kn s cs'=true/\fl.length+cs'.length<=kn+300/\PyMd07.answers l=fl++PyFlat.told (PyFlat.played step s cs') }
     [some (.ref c),some (.ref h),some (.ref fo),some (.int (pos:Int)),some (.int p),some (.int ((pos+e.length:Nat):Int)),some (.ref nu),some (.ref r),u8,u9] H2:=λp nums row H2 w2 nu r u9 sm k2 hnu hr tk=>by
    have hf2:=sm _ _ hf'
    have wf2:w2 fo=none:=by rw[k2.ow _ _ hf'];exact wf'
    obtain⟨l0,l1,hHa⟩:=hH
    have hH2:xM d w2 H2 h s:=⟨l0,l1,hHa.keep k2 (λ_ z=>z)⟩
    refine⟨_,rfl,_,rfl,_,rfl,_,rfl,?_⟩
    refine⟨h,nu,r,w2,s,qc,e,p,nums,row,rfl,k2.ok,hH2,hnu,hr,tk,ic,hask,λw3 H3 a ha k3 hH3 ha3=>?_⟩
    have hf3:H3 fo=some (.lst (inz fl)):=k3.hp _ _ hf2 λt z=>by rw[wf2] at z;cases z
    have wf3:w3 fo=none:=by rw[k3.ow _ _ hf2];exact wf2
    have naf:a≠fo:=(zw hf2 ha).symm
    have k03:Kp P0 w0 H w3 H3:=(kp.trans k2).hide k3 (λc t z=>by cases z)
    have alen:(step s qc).2.length<1000000:=by
     have:=XB go
     omega
    have fle:fl.length+cs2.length+1<=kn+300:=by
     have h9:=hfl
     rw[List.length_cons] at h9;omega
    have knl:=XB go
    refine⟨_,rfl,.inl ⟨rfl,_,SqL.of hf3⟩,_,rfl,a,_,rfl,.inl (SqL.of ha3),fo,_,_,rfl,rfl,hf3,by rw[List.length_map,sizeLine_eq];omega,?_⟩
    rw[List.length_map]
    have hf4:upd H3 fo (.lst (inz fl++[V.int (((step s qc).2.length:Nat):Int)])) fo=some (.lst (inz fl++[V.int (((step s qc).2.length:Nat):Int)])):=zj
    have ha4:upd H3 fo (.lst (inz fl++[V.int (((step s qc).2.length:Nat):Int)])) a=some (.lst (inz (step s qc).2)):=by rw[zh naf];exact ha3
    refine⟨_,rfl,.inl ⟨rfl,_,SqL.of hf4⟩,_,rfl,fo,a,_,_,rfl,rfl,hf4,ha4,by rw[List.length_append,List.length_map,List.length_map,List.length_singleton,sizeLine_eq];omega,?_⟩
    rw[uZ]
    have ef:inz fl++[V.int (((step s qc).2.length:Nat):Int)]++inz (step s qc).2=inz (fl++(((step s qc).2.length:Int)::(step s qc).2)):=by
     unfold inz;rw[List.map_append,List.append_assoc];rfl
    rw[ef]
    refine⟨_,rfl,cs2.length,by rw[hm,List.length_cons];omega,_,_,_,_,_,_,pos+e.length,w3,(step s qc).1,cs2,fl++(((step s qc).2.length:Int)::(step s qc).2),kn+(step s qc).2.length,rfl,rfl,k03.writeNew hfo0,?_,wf3,zj,?_,hle,go2,?_,?_⟩
    .obtain⟨m0,m1,hHb⟩:=hH3
     have nfh:h≠fo:=λz=>by rw[<- z,hHb.tag] at wf3;cases wf3
     have kg:∀{l:Addr}{Ls:List Lv},zI d w3 H3 l Ls->zI d w3 (upd H3 fo (.lst (inz (fl++(((step s qc).2.length:Int)::(step s qc).2))))) l Ls:=λ{l Ls} ⟨as,g⟩=>
      ⟨as,by rw[zh (λz=>by rw[<- z,g.tag] at wf3;cases wf3)];exact g.lst,g.tag,g.len,λi a L e1 e2=>let ⟨A,hA⟩:=g.at_ i a L e1 e2;⟨A,hA.updO λt z=>by rw[wf3] at z;cases z⟩⟩
     refine⟨m0,m1,by rw[zh nfh];exact hHb.lst,hHb.tag,hHb.ne,yM hHb.t0,yM hHb.t1,λx hx=>?_,λx hx=>?_⟩
     .obtain⟨Ls,g,r⟩:=hHb.a0 x hx;exact⟨Ls,kg g,r⟩
     .obtain⟨Ls,g,r⟩:=hHb.a1 x hx;exact⟨Ls,kg g,r⟩
    .rw[zeP hd];exact ac2
    .rw[List.length_append,List.length_cons];omega
    .rw[eq,zap,List.append_assoc]
   have pre:∀(p:Int)(nums rest:List Int),e=p::(nums++rest)->zX ([(.inl 1,.int 2),(.inl 2,.int 1),(.inl 3,.int 1),(.inl 4,.int 1),(.inl 5,.int 3),(.inl 6,.int 1),(.inl 7,.int 1),(.inl 8,.int 2),(.inl 9,.int 3),(.inl 10,.int 2),(.inl 11,.int 2),(.inl 12,.int 2),(.inl 13,.int 1),(.inl 14,.int 1)]:List (Key×V)) (.inl p)=some (.int ((nums.length:Nat):Int)) ->
     ∀D:Ends,(∀(nu r:Addr)(H2:Hp),Same H' H2->H' nu=none->H' r=none->nu≠r->H2 nu=some (.lst (inz nums))->At H2 r [] ->
      (zg (zY (ya (tOp (rIn K false) (za 4) (tC (.ref d.o_WITH_ROW))))
       (zg (zn (tOp (rI0 λi j=>V.int (i+j)) (za 5) (tC (.int 1))) (zl 9))
       (zg (zn (tOp (rI0 λi j=>V.int (i+j)) (za 9) (tOp (zu K) (za 0) (tOp (rI0 λi j=>V.int (i-j)) (za 9) (tC (.int 1))))) (zl 5))
       (zn (tSl (we K) (za 0) (xf (za 9)) (xf (za 5))) (zl 7))))
       z7) (ZE K d)) D [some (.ref c),some (.ref h),some (.ref fo),some (.int (pos:Int)),some (.int p),some (.int ((pos+1+nums.length:Nat):Int)),some (.ref nu),some (.ref r),u8,u9] H2) ->
     (zg (zn (tOp (zu K) (za 0) (za 3)) (zl 4))
      (zg (zn (tOp (rI0 λi j=>V.int (i+j)) (tOp (rI0 λi j=>V.int (i+j)) (za 3) (tC (.int 1))) (vL K (tC (.ref d.o_NUMBERS_OF)) (za 4))) (zl 5))
      (zg (zn (tSl (we K) (za 0) (xf (tOp (rI0 λi j=>V.int (i+j)) (za 3) (tC (.int 1)))) (xf (za 5))) (zl 6))
      (zg (zn (zU zd) (zl 7))
      (zg (zY (ya (tOp (rIn K false) (za 4) (tC (.ref d.o_WITH_ROW))))
       (zg (zn (tOp (rI0 λi j=>V.int (i+j)) (za 5) (tC (.int 1))) (zl 9))
       (zg (zn (tOp (rI0 λi j=>V.int (i+j)) (za 9) (tOp (zu K) (za 0) (tOp (rI0 λi j=>V.int (i-j)) (za 9) (tC (.int 1))))) (zl 5))
       (zn (tSl (we K) (za 0) (xf (za 9)) (xf (za 5))) (zl 7))))
       z7) (ZE K d)))))) D [some (.ref c),some (.ref h),some (.ref fo),some (.int (pos:Int)),u4,u5,u6,u7,u8,u9] H':=λp nums rest ee hN D k'=>by
    have el:e.length=1+nums.length+rest.length:=by rw[ee,List.length_cons,List.length_append];omega
    have e0:l[pos]? = some p:=by
     have:=VS (i:=0) hd (by omega)
     rw[Nat.add_zero] at this
     rw[this,ee];rfl
    refine⟨_,rfl,_,rfl,c,_,_,_,rfl,rfl,hc',vG (j:=pos) (v:=.int p) rfl (by rw[List.getElem?_map,e0];rfl),?_⟩
    refine⟨_,rfl,_,_,rfl,rfl,_,rfl,_,_,.inl p,_,rfl,T.numbersOf,rfl,hN,_,_,rfl,rfl,?_⟩
    have e5:(pos:Int)+1+((nums.length:Nat):Int)=((pos+1+nums.length:Nat):Int):=by omega
    show zg _ _ _ [some (.ref c),some (.ref h),some (.ref fo),some (.int (pos:Int)),some (.int p),some (.int ((pos:Int)+1+((nums.length:Nat):Int))),u6,u7,u8,u9] H'
    rw[e5]
    refine⟨_,rfl,_,rfl,_,_,rfl,rfl,_,rfl,_,rfl,_,rfl,c,_,rfl,hc',λnu hnu=>?_⟩
    have ecut:x0 (inz l) (some ((pos:Int)+1)) (some ((pos+1+nums.length:Nat):Int))=inz nums:=by
     have e6:(pos:Int)+1=((pos+1:Nat):Int):=by omega
     rw[e6,Qs (by omega) (by rw[List.length_map];omega),JW]
     have e7:=Wz (i:=1) (j:=1+nums.length) hd (by omega) (by omega)
     rw[show pos+1+nums.length-(pos+1)=1+nums.length-1 by omega,e7,ee]
     show inz ((nums++rest).take (1+nums.length-1))=inz nums
     rw[show 1+nums.length-1=nums.length by omega,List.take_left]
    rw[ecut]
    refine⟨Nat.zero_le _,λr hr=>?_⟩
    have nr:nu≠r:=zw zj hr
    refine k' nu r _ ((same_upd hnu).trans (same_upd hr)) hnu (upd_none hr).1 nr ?_ zj
    rw[zh nr,zj]
   have plain:∀(p:Int)(nums:List Int),e=p::nums->qc=[p::nums]->zX ([(.inl 1,.int 2),(.inl 2,.int 1),(.inl 3,.int 1),(.inl 4,.int 1),(.inl 5,.int 3),(.inl 6,.int 1),(.inl 7,.int 1),(.inl 8,.int 2),(.inl 9,.int 3),(.inl 10,.int 2),(.inl 11,.int 2),(.inl 12,.int 2),(.inl 13,.int 1),(.inl 14,.int 1)]:List (Key×V)) (.inl p)=some (.int ((nums.length:Nat):Int))->inV (.int p) [.int 2,.int 4,.int 6,.int 7,.int 13]=false->_:=λp nums ee eq' hN hW=>pre p nums [] (by rw[List.append_nil];exact ee) hN _ λnu r H2 sm hnu0 hr0 nr hnu hr=>by
    refine⟨_,rfl,d.o_WITH_ROW,_,rfl,.inr (T.withRow _),rfl,rfl,_,rfl,Xu hW ?_⟩
    have k2:Kp P0 w' H' (own w' r .row) H2:=((Kp.refl kp.ok).lay sm).name hr0 hr (λg z=>by cases z)
    have b2:=body2 p nums [] H2 (own w' r .row) nu r u9 sm k2 hnu ⟨hr,y4⟩ (by rw[eq'];exact .nums p nums)
    have el:pos+1+nums.length=pos+e.length:=by rw[ee,List.length_cons];omega
    rw[el]
    exact b2
   cases ic with
   |n1 p o hp=>rcases hp with rfl|rfl<;>exact plain _ [o] rfl rfl rfl rfl
   |n2 p a b hp=>rcases hp with rfl|rfl|rfl|rfl|rfl<;>exact plain _ [a,b] rfl rfl rfl rfl
   |n3 p a b x hp=>rcases hp with rfl|rfl<;>exact plain _ [a,b,x] rfl rfl rfl rfl
   |row p o rr hp=>
    have hN:zX ([(.inl 1,.int 2),(.inl 2,.int 1),(.inl 3,.int 1),(.inl 4,.int 1),(.inl 5,.int 3),(.inl 6,.int 1),(.inl 7,.int 1),(.inl 8,.int 2),(.inl 9,.int 3),(.inl 10,.int 2),(.inl 11,.int 2),(.inl 12,.int 2),(.inl 13,.int 1),(.inl 14,.int 1)]:List (Key×V)) (.inl p)=some (.int ((([o]:List Int).length:Nat):Int)):=by
     rcases hp with rfl|rfl|rfl|rfl|rfl<;>rfl
    have hW:inV (.int p) [.int 2,.int 4,.int 6,.int 7,.int 13]=true:=by
     rcases hp with rfl|rfl|rfl|rfl|rfl<;>rfl
    have nn:∀z,z∈rr->0<=z:=by
     have ask':(Md07Neutral.there s o && Md07Neutral.row s o rr)=true:=by
      rcases hp with rfl|rfl|rfl|rfl|rfl<;>exact hask
     rw[Bool.and_eq_true] at ask'
     have h2:=ask'.2
     unfold Md07Neutral.row at h2
     split at h2
     .rw[Bool.and_eq_true,List.all_eq_true] at h2
      intro z hz
      have:=h2.1 z hz
      unfold Md07Neutral.natural at this
      rw[Bool.and_eq_true,decide_eq_true_iff] at this
      exact this.1
     .cases h2
    obtain⟨row,erow⟩:∃row:Row,rr=row.map λ(x:Nat)=>(x:Int):=by
     refine⟨rr.map Int.toNat,?_⟩
     rw[List.map_map]
     conv=>lhs;rw[<- List.map_id rr]
     refine List.map_congr_left λz hz=>?_
     have:=nn z hz
     show z=((z.toNat:Nat):Int)
     omega
    have el:(p::o::(rr.length:Int)::rr).length=3+rr.length:=by simp only[List.length_cons];omega
    refine pre p [o] ((rr.length:Int)::rr) rfl hN _ λnu r H2 sm hnu0 hr0 nr hnu hr=>?_
    refine⟨_,rfl,d.o_WITH_ROW,_,rfl,.inr (T.withRow _),rfl,rfl,_,rfl,Xs hW ?_⟩
    have hc2:SqL K H2 c (inz l):=Same.seq sm hc'
    have e9:((pos+1+([o]:List Int).length:Nat):Int)+1=((pos+3:Nat):Int):=by show((pos+1+1:Nat):Int)+1=_;omega
    refine⟨_,rfl,_,_,rfl,rfl,?_⟩
    show zg _ _ _ [some (.ref c),some (.ref h),some (.ref fo),some (.int (pos:Int)),some (.int p),some (.int ((pos+1+([o]:List Int).length:Nat):Int)),some (.ref nu),some (.ref r),u8,some (.int (((pos+1+([o]:List Int).length:Nat):Int)+1))] H2
    rw[e9]
    have ell:l[pos+2]? = some (rr.length:Int):=by
     rw[VS (i:=2) hd (by omega)];rfl
    have e10:((pos+3:Nat):Int)-1=((pos+2:Nat):Int):=by omega
    refine⟨_,rfl,_,rfl,_,rfl,_,_,rfl,rfl,c,_,_,_,rfl,rfl,hc2,vG (j:=pos+2) (v:=.int (rr.length:Int)) e10 (by rw[List.getElem?_map,ell];rfl),_,_,rfl,rfl,?_⟩
    have e11:((pos+3:Nat):Int)+((rr.length:Nat):Int)=((pos+(p::o::(rr.length:Int)::rr).length:Nat):Int):=by rw[el];omega
    refine⟨_,rfl,_,rfl,_,rfl,_,rfl,_,rfl,c,_,rfl,hc2,λr2 hr2=>?_⟩
    have ecut:x0 (inz l) (some ((pos+3:Nat):Int)) (some (((pos+3:Nat):Int)+((rr.length:Nat):Int)))=inz rr:=by
     rw[e11,Qs (by omega) (by rw[List.length_map];exact hle),JW]
     have e7:=Wz (i:=3) (j:=3+rr.length) hd (by omega) (by omega)
     rw[el,show pos+(3+rr.length)-(pos+3)=3+rr.length-3 by omega,e7]
     show inz (rr.take (3+rr.length-3))=inz rr
     rw[show 3+rr.length-3=rr.length by omega,List.take_length]
    rw[ecut]
    have sm2:Same H' (upd H2 r2 (.lst (inz rr))):=sm.trans (same_upd hr2)
    have hr20:H' r2=none:=sm.free hr2
    have ar2:At (upd H2 r2 (.lst (inz rr))) r2 row:=by show upd _ _ _ _=_;rw[zj,wu,<- erow]
    have k2:Kp P0 w' H' (own w' r2 .row) (upd H2 r2 (.lst (inz rr))):=((Kp.refl kp.ok).lay sm2).name hr20 ar2 (λg z=>by cases z)
    have b2:=body2 p [o] row _ (own w' r2 .row) nu r2 (some (.int ((pos+3:Nat):Int))) sm2 k2 (by rw[zh (zw hnu hr2)];exact hnu) ⟨ar2,y4⟩ (by rw[erow];exact .row p o row)
    rw[<- e11] at b2
    exact b2
 .have hnil:cs'=[]:=by
   have e0:l.drop pos=[]:=List.drop_of_length_le (by omega)
   rw[e0] at ac
   generalize hd:([]:List Int)=dl at ac
   cases ac with
   |nil=>rfl
   |@cons c0 cs0 e t ic ac2=>
    exfalso
    have hene:e≠[]:=by cases ic<;>simp
    have:=(List.append_eq_nil_iff.mp hd.symm).1
    exact hene this
  subst hnil
  have e1:PyMd07.answers l=fl:=by rw[eq];show fl++[]=fl;rw[List.append_nil]
  rw[<- e1] at hf'
  exact⟨_,rfl,k H' fo hf'⟩
end
end Gd
end
section
set_option Elab.async false
set_option autoImplicit false
set_option linter.all false
set_option maxRecDepth 100000
set_option maxHeartbeats 2000000
namespace Gd
open PySem PyProof.Rows L2 GP
theorem uQ:bootBuiltins "list"=some (.type "list"):=by decide +kernel
theorem zfp:bootBuiltins "dict"=some (.type "dict"):=by decide +kernel
theorem QG:bootBuiltins "range"=some (.type "range"):=by decide +kernel
theorem z9:bootBuiltins "len"=some (.builtin "len"):=by decide +kernel
theorem QF:bootBuiltins "sorted"=some (.builtin "sorted"):=by decide +kernel
theorem zfo:bootBuiltins "min"=some (.builtin "min"):=by decide +kernel
theorem Zg:bootBuiltins "all"=some (.builtin "all"):=by decide +kernel
theorem xA{N:List Str}{sc scope:Scope}(N':List Str)(sc':Scope)(own:List (Str×Nat))(h:XX N' sc' scope own=true)(e1:N=N':=by rfl)(e2:sc=sc':=by rfl):jW N sc scope own:=by
 subst e1 e2
 exact zfr h
end Gd
end
section
set_option Elab.async false
set_option autoImplicit false
set_option linter.all false
set_option maxRecDepth 100000
set_option maxHeartbeats 2000000
namespace Gd
open PySem PyProof.Rows L2 GP
variable{P:Program}{w:World}{K:PySem.W.Frag}{mg:Str->Option Value}{base:Heap}{d:Ad}
theorem jt(T:Txt K mg d)(U:Ty K d):zB P w K mg base CX0 1 d.a_none_row d.f_none_row ["points"] (vO K d) :=
 T.F_none_row.ok WK (λvs H Q E h=>by repeat (obtain⟨e,h⟩:=h;try exact congrArg List.length e)) λcdv A outer s H vs Q E hr h=>by
 have hu:=zO hr
 have hu64:=hr.units
 have nd:=WK.nd
 exact⟨_,
 (zo (zL (wV (QE rfl) rfl T.n_list uQ (zc (wV QD rfl T.n_range QG (zc (pv 0) ze)) ze)))),zbQ h⟩
theorem zcW(T:Txt K mg d)(U:Ty K d):zB P w K mg base CX0 1 d.a_is_permutation d.f_is_permutation ["row","points"] (qd K d) :=
 T.F_is_permutation.ok WS (λvs H Q E h=>by repeat (obtain⟨e,h⟩:=h;try exact congrArg List.length e)) λcdv A outer s H vs Q E hr h=>by
 have hu:=zO hr
 have hu64:=hr.units
 have nd:=WS.nd
 exact⟨_,
 (zo (zL (uv (Y1 hu64) (zV Qt rfl T.n_sorted QF (zc (pv 0) ze)) (wV (QE rfl) rfl T.n_list uQ (zc (wV QD rfl T.n_range QG (zc (pv 1) ze)) ze)) (nomark _)))),zbY h⟩
theorem xF(T:Txt K mg d)(U:Ty K d):zB P w K mg base CX0 1 d.a_then d.f_then ["p","q"] (yR K d) :=
 T.F_then.ok WG (λvs H Q E h=>by repeat (obtain⟨e,h⟩:=h;try exact congrArg List.length e)) λcdv A outer s H vs Q E hr h=>by
 have hu:=zO hr
 have hu64:=hr.units
 have nd:=WG.nd
 exact⟨_,
 (zo (zL (xw rfl nd (yZ (pv 0)) (xA n_then (zA qL) [("x",2)] (by decide +kernel)) (λ_ _ _ _ _=>(ym (i:=2) nd rfl (Or.inl rfl))) (λ_ _ _ _ _=>xT) (λ_ _ _ _ _=>(zF zG (pv 1) (pv 2) (λ_ _=>rfl)))))),zbM h⟩
theorem V5(T:Txt K mg d)(U:Ty K d):zB P w K mg base CX0 1 d.a_inverse d.f_inverse ["row"] (qg K d) :=
 T.F_inverse.ok WW (λvs H Q E h=>by repeat (obtain⟨e,h⟩:=h;try exact congrArg List.length e)) λcdv A outer s H vs Q E hr h=>by
 have hu:=zO hr
 have hu64:=hr.units
 have nd:=WW.nd
 exact⟨_,
 (zk (zz (i:=1) nd rfl (Or.inl rfl) (z8 YY (yh (zc zq ze)) (zV yn rfl T.n_len z9 (zc (pv 0) ze))))
 (zk (xg PassesOwn.never rfl (VI rfl T.n_enumerate (zc (pv 0) ze)) (VL rfl (kq (ym (i:=2) nd rfl (Or.inl rfl)) (kq (ym (i:=3) nd rfl (Or.inl rfl)) VJ)))
  (zo (wS (pv 2) (wT (pv 1) (pv 3) wG))))
 (zo (zL (pv 1))))),zb2 h⟩
theorem V4(T:Txt K mg d)(U:Ty K d):zB P w K mg base CX0 1 d.a_is_even d.f_is_even ["row"] (qf K d) :=
 T.F_is_even.ok WV (λvs H Q E h=>by repeat (obtain⟨e,h⟩:=h;try exact congrArg List.length e)) λcdv A outer s H vs Q E hr h=>by
 have hu:=zO hr
 have hu64:=hr.units
 have nd:=WV.nd
 exact⟨_,
 (zk (zz (i:=1) nd rfl (Or.inl rfl) zq)
 (zk (zz (i:=2) nd rfl (Or.inl rfl) (z8 YY (yh (zc jq ze)) (zV yn rfl T.n_len z9 (zc (pv 0) ze))))
 (zk (xg PassesOwn.never rfl (ko rfl T.n_range (zc (zV yn rfl T.n_len z9 (zc (pv 0) ze)) ze)) (ym (i:=3) nd rfl (Or.inl rfl))
  (zo (yq (vR (wg (zF zG (pv 2) (pv 3) (λ_ _=>rfl))))
   (zk (wj (i:=1) nd rfl (Or.inl rfl) zq uK)
   (zk (zz (i:=4) nd rfl (Or.inl rfl) (pv 3))
   (zo (vS PassesOwn.never (vR (wg (zF zG (pv 2) (pv 4) (λ_ _=>rfl))))
    (zk (wS jq (wT (pv 2) (pv 4) wG))
    (zo (zz (i:=4) nd rfl (Or.inl rfl) (zF zG (pv 0) (pv 4) (λ_ _=>rfl)))))))))
   yx)))
 (zo (zL (uv vT (z8 VW (z8 kt (zV yn rfl T.n_len z9 (zc (pv 0) ze)) (pv 1)) zq) zq (nomark _))))))),zb1 h⟩
end Gd
end
section
set_option Elab.async false
set_option autoImplicit false
set_option linter.all false
set_option maxRecDepth 100000
set_option maxHeartbeats 2000000
namespace Gd
open PySem PyProof.Rows L2 GP
variable{P:Program}{w:World}{K:PySem.W.Frag}{mg:Str->Option Value}{base:Heap}{d:Ad}
theorem zdk(T:Txt K mg d)(U:Ty K d):zB P w K mg base CX0 1 d.a_Level_init d.f_Level_init ["self","point","none"] (ZW K d) :=
 T.F_Level_init.ok Vu (λvs H Q E h=>by repeat (obtain⟨e,h⟩:=h;try exact congrArg List.length e)) λcdv A outer s H vs Q E hr h=>by
 have hu:=zO hr
 have hu64:=hr.units
 have nd:=Vu.nd
 exact⟨_,
 (zk (xi (pv 0) (pv 1) rfl)
 (zk (xi (pv 0) (yh (zc (pv 1) ze)) rfl)
 (zk (xi (pv 0) (YU (YM (pv 1) (pv 2) YL) rfl rfl (by intro h;cases h) (by decide)) rfl)
 (zk (xi (pv 0) (YU (YM (pv 1) (pv 2) YL) rfl rfl (by intro h;cases h) (by decide)) rfl)
 (zk (xi (pv 0) (yh ze) rfl)
 (zk (xi (pv 0) (yh ze) rfl)
 (zk (xi (pv 0) (wV Ze rfl T.n_list uQ (zc (pv 2) ze)) rfl)
 (zo (xi (pv 0) jq rfl))))))))),zcz U.toTx h⟩
theorem Jb(T:Txt K mg d)(U:Ty K d):zB P w K mg base CX0 1 d.a_Level_skip_untried d.f_Level_skip_untried ["self"] (qG K d) :=
 T.F_Level_skip_untried.ok Vo (λvs H Q E h=>by repeat (obtain⟨e,h⟩:=h;try exact congrArg List.length e)) λcdv A outer s H vs Q E hr h=>by
 have hu:=zO hr
 have hu64:=hr.units
 have nd:=Vo.nd
 exact⟨_,
 (zo (xi (pv 0) (z8 YY (yh (zc (zV yn rfl T.n_len z9 (zc (zH (pv 0) rfl) ze)) ze)) (zV yn rfl T.n_len z9 (zc (zH (pv 0) rfl) ze))) rfl)),zct U.toTx h⟩
theorem Jd(T:Txt K mg d)(U:Ty K d):zB P w K mg base CX0 2 d.a_Level_keep d.f_Level_keep ["self","row"] (qH K d) :=
 T.F_Level_keep.ok Vs (λvs H Q E h=>by repeat (obtain⟨e,h⟩:=h;try exact congrArg List.length e)) λcdv A outer s H vs Q E hr h=>by
 have hu:=zO hr
 have hu64:=hr.units
 have nd:=Vs.nd
 exact⟨_,
 (zk (zz (i:=2) nd rfl (Or.inl rfl) (zF zG (pv 1) (zH (pv 0) rfl) (λ_ _=>rfl)))
 (zk (yG (wm PySem.F.plainAttrs_list PySem.F.slot_list_append PySem.F.type_list_append kG (zH (pv 0) rfl) (zc (pv 2) ze)))
 (zk (jm hu (zH (pv 0) rfl) (pv 2) (pv 1) rfl)
 (zo (jm hu (zH (pv 0) rfl) (pv 2) (zC (V5 T U) (hr.mono (by decide)) rfl T.m_inverse T.F_inverse.kp (QR T) .nil pass0 (zc (pv 1) ze)) rfl))))),zcx U.toTx h⟩
theorem zdj(T:Txt K mg d)(U:Ty K d):zB P w K mg base CX0 1 d.a_Level_join_kin d.f_Level_join_kin ["self","row"] (qI K d) :=
 T.F_Level_join_kin.ok Vt (λvs H Q E h=>by repeat (obtain⟨e,h⟩:=h;try exact congrArg List.length e)) λcdv A outer s H vs Q E hr h=>by
 have hu:=zO hr
 have hu64:=hr.units
 have nd:=Vt.nd
 exact⟨_,
 (zo (xg PassesOwn.never rfl (VI rfl T.n_enumerate (zc (pv 1) ze)) (VL rfl (kq (ym (i:=2) nd rfl (Or.inl rfl)) (kq (ym (i:=3) nd rfl (Or.inl rfl)) VJ)))
  (zk (zz (i:=4) nd rfl (Or.inr rfl) (zF zG (zH (pv 0) rfl) (pv 2) (λ_ _=>rfl)))
  (zk (zz (i:=5) nd rfl (Or.inr rfl) (zF zG (zH (pv 0) rfl) (pv 3) (λ_ _=>rfl)))
  (zo (yq (yu uw (pv 4) (pv 5) (nomark _))
   (zo (xi (pv 0) (xw rfl nd (yZ (zH (pv 0) rfl)) (xA n_Level_join_kin (zA qW) [("k",6)] (by decide +kernel)) (λ_ _ _ _ _=>(ym (i:=6) nd rfl (Or.inl rfl))) (λ_ _ _ _ _=>xT) (λ_ _ _ _ _=>(kr (yu vT (pv 6) (pv 5) (nomark _)) (pv 4) (pv 6)))) rfl))
   yx)))))),zcy U.toTx h⟩
theorem Jc(T:Txt K mg d)(U:Ty K d):zB P w K mg base CX0 2 d.a_Level_note_maker d.f_Level_note_maker ["self","row"] (jh K d) :=
 T.F_Level_note_maker.ok Vq (λvs H Q E h=>by repeat (obtain⟨e,h⟩:=h;try exact congrArg List.length e)) λcdv A outer s H vs Q E hr h=>by
 have hu:=zO hr
 have hu64:=hr.units
 have nd:=Vq.nd
 exact⟨_,
 (zk (yG (wm PySem.F.plainAttrs_list PySem.F.slot_list_append PySem.F.type_list_append kG (zH (pv 0) rfl) (zc (pv 1) ze)))
 (zk (yG (wm PySem.F.plainAttrs_list PySem.F.slot_list_append PySem.F.type_list_append kG (zH (pv 0) rfl) (zc zq ze)))
 (zk (xi (pv 0) (YV (zH (pv 0) rfl) (YR (zC (V4 T U) (hr.mono (by decide)) rfl T.m_is_even T.F_is_even.kp (QQ T) .nil pass0 (zc (pv 1) ze)))) rfl)
 (zo (yG (wk (pv 0) T.c_Level T.me_Level_join_kin (zdj T U) (hr.mono (by decide)) (zfV T) .nil pass0 (zc (pv 1) ze))))))),zcv U.toTx h⟩
theorem zdl(T:Txt K mg d)(U:Ty K d):zB P w K mg base CX0 3 d.a_Level_fill d.f_Level_fill ["self","kept","below"] (ZX K d) :=
 T.F_Level_fill.ok Vw (λvs H Q E h=>by repeat (obtain⟨e,h⟩:=h;try exact congrArg List.length e)) λcdv A outer s H vs Q E hr h=>by
 have hu:=zO hr
 have hu64:=hr.units
 have nd:=Vw.nd
 exact⟨_,
 (zk (xi (pv 0) (wV Ze rfl T.n_list uQ (zc (zH (pv 2) rfl) ze)) rfl)
 (zk (xi (pv 0) (wV Ze rfl T.n_list uQ (zc (zH (pv 2) rfl) ze)) rfl)
 (zk (xi (pv 0) (zH (pv 2) rfl) rfl)
 (zk (kj (xg PassesOwn.never rfl (jp (pv 1)) (ym (i:=3) nd rfl (Or.inl rfl))
  (zk (yq (yu uw (pv 3) (zH (pv 0) rfl) (nomark _))
   (zo (yG (wk (pv 0) T.c_Level T.me_Level_keep (Jd T U) (hr.mono (by decide)) (QZ T) .nil pass0 (zc (y3 hu (pv 1) (pv 3) (λ_ _=>rfl)) ze))))
   yx)
  (zo (yq (yu uw (zF zG (zH (pv 0) rfl) (pv 3) (λ_ _=>rfl)) (zF zG (zH (pv 0) rfl) (zH (pv 0) rfl) (λ_ _=>rfl)) (nomark _))
   (zo (yG (wk (pv 0) T.c_Level T.me_Level_note_maker (Jc T U) (hr.mono (by decide)) (QY T) .nil pass0 (zc (y3 hu (pv 1) (pv 3) (λ_ _=>rfl)) ze))))
   yx)))))
 (zo (yG (uu (pv 0) T.c_Level T.me_Level_skip_untried (Jb T U) (hr.mono (by decide)) (QX T) .nil pass0))))))),zcA U.toTx h⟩
theorem zdh(T:Txt K mg d)(U:Ty K d):zB P w K mg base CX0 3 d.a_Level_reach d.f_Level_reach ["self"] (ZU K d) :=
 T.F_Level_reach.ok Vp (λvs H Q E h=>by repeat (obtain⟨e,h⟩:=h;try exact congrArg List.length e)) λcdv A outer s H vs Q E hr h=>by
 have hu:=zO hr
 have hu64:=hr.units
 have nd:=Vp.nd
 exact⟨_,
 (zk (zz (i:=1) nd rfl (Or.inl rfl) zq)
 (zo (vS PassesOwn.never (yu vn (pv 1) (zV yn rfl T.n_len z9 (zc (zH (pv 0) rfl) ze)) (nomark _))
  (zk (zz (i:=2) nd rfl (Or.inl rfl) (zF zG (zH (pv 0) rfl) (pv 1) (λ_ _=>rfl)))
  (zk (xg PassesOwn.never rfl (yZ (zH (pv 0) rfl)) (ym (i:=3) nd rfl (Or.inl rfl))
   (zo (yq (vh (YW hu (zF zG (pv 3) (pv 2) (λ_ _=>rfl)) (zH (pv 0) rfl)))
    (zo (yG (wk (pv 0) T.c_Level T.me_Level_keep (Jd T U) (hr.mono (by decide)) (QZ T) .nil pass0 (zc (zC (xF T U) (hr.mono (by decide)) rfl T.m_then T.F_then.kp (xK T) .nil pass0 (zc (y3 hu (zH (pv 0) rfl) (pv 2) (λ_ _=>rfl)) (zc (pv 3) ze))) ze))))
    yx)))
  (zo (wj (i:=1) nd rfl (Or.inl rfl) zq uK))))))),zcu U.toTx h⟩
theorem Ja(T:Txt K mg d)(U:Ty K d):zB P w K mg base CX0 4 d.a_Level_take_maker d.f_Level_take_maker ["self","row"] (qF K d) :=
 T.F_Level_take_maker.ok Vn (λvs H Q E h=>by repeat (obtain⟨e,h⟩:=h;try exact congrArg List.length e)) λcdv A outer s H vs Q E hr h=>by
 have hu:=zO hr
 have hu64:=hr.units
 have nd:=Vn.nd
 exact⟨_,
 (zk (yG (wk (pv 0) T.c_Level T.me_Level_note_maker (Jc T U) (hr.mono (by decide)) (QY T) .nil pass0 (zc (pv 1) ze)))
 (zo (yG (uu (pv 0) T.c_Level T.me_Level_reach (zdh T U) (hr.mono (by decide)) (zfT T) .nil pass0)))),zcs U.toTx h⟩
theorem V9(T:Txt K mg d)(U:Ty K d):zB P w K mg base CX0 2 d.a_Level_untried d.f_Level_untried ["self"] (vg K d) :=
 T.F_Level_untried.ok Vm (λvs H Q E h=>by repeat (obtain⟨e,h⟩:=h;try exact congrArg List.length e)) λcdv A outer s H vs Q E hr h=>by
 have hu:=zO hr
 have hu64:=hr.units
 have nd:=Vm.nd
 exact⟨_,
 (zk (zz (i:=1) nd rfl (Or.inl rfl) zq)
 (zk (vS PassesOwn.never (PW.pt (ke (yu vn (pv 1) (zV yn rfl T.n_len z9 (zc (zH (pv 0) rfl) ze)) (nomark _)) (kc (yu vT (zF zG (zH (pv 0) rfl) (pv 1) (λ_ _=>rfl)) (zV yn rfl T.n_len z9 (zc (zH (pv 0) rfl) ze)) (nomark _)))))
  (zo (wj (i:=1) nd rfl (Or.inl rfl) zq uK)))
 (zk (yq (yu vT (pv 1) (zV yn rfl T.n_len z9 (zc (zH (pv 0) rfl) ze)) (nomark _))
  (zo (zL VO))
  yx)
 (zk (zz (i:=2) nd rfl (Or.inl rfl) (zF zG (zH (pv 0) rfl) (zF zG (zH (pv 0) rfl) (pv 1) (λ_ _=>rfl)) (λ_ _=>rfl)))
 (zk (zcE (zH (pv 0) rfl) (pv 1) zeD zq uK wG)
 (zo (zL (zC (xF T U) (hr.mono (by decide)) rfl T.m_then T.F_then.kp (xK T) .nil pass0 (zc (y3 hu (zH (pv 0) rfl) (pv 2) (λ_ _=>rfl)) (zc (zF zG (zH (pv 0) rfl) (pv 1) (λ_ _=>rfl)) ze)))))))))),zcr U.toTx h⟩
theorem zdi(T:Txt K mg d)(U:Ty K d):zB P w K mg base CX0 1 d.a_Level_most_members d.f_Level_most_members ["self"] (ZV K d) :=
 T.F_Level_most_members.ok Vr (λvs H Q E h=>by repeat (obtain⟨e,h⟩:=h;try exact congrArg List.length e)) λcdv A outer s H vs Q E hr h=>by
 have hu:=zO hr
 have hu64:=hr.units
 have nd:=Vr.nd
 exact⟨_,
 (zk (zz (i:=1) nd rfl (Or.inl rfl) zq)
 (zk (zz (i:=2) nd rfl (Or.inl rfl) VP)
 (zk (xg PassesOwn.never rfl (yZ (zH (pv 0) rfl)) (ym (i:=3) nd rfl (Or.inl rfl))
  (zk (jm hu (pv 2) (pv 3) (z8 xE (zcH hu (pv 2) (pv 3) zq ⟨rfl,rfl,rfl,rfl⟩) zq) rfl)
  (zo (wj (i:=1) nd rfl (Or.inl rfl) (y3 hu (pv 2) (pv 3) (λ_ _=>rfl)) JU))))
 (zo (zL (kr (PW.pt (ke (wg (zH (pv 0) rfl)) (kc (yu VX (pv 1) zq (nomark _))))) (z8 js (pv 1) zq) (pv 1))))))),zcw U.toTx h⟩
end Gd
end
section
set_option Elab.async false
set_option autoImplicit false
set_option linter.all false
set_option maxRecDepth 100000
set_option maxHeartbeats 2000000
namespace Gd
open PySem PyProof.Rows L2 GP
variable{P:Program}{w:World}{K:PySem.W.Frag}{mg:Str->Option Value}{base:Heap}{d:Ad}
theorem V0(T:Txt K mg d)(U:Ty K d):zB P w K mg base CX0 3 d.a_new_levels d.f_new_levels ["points"] (qa K d) :=
 T.F_new_levels.ok WL (λvs H Q E h=>by repeat (obtain⟨e,h⟩:=h;try exact congrArg List.length e)) λcdv A outer s H vs Q E hr h=>by
 have hu:=zO hr
 have hu64:=hr.units
 have nd:=WL.nd
 exact⟨_,
 (zk (zz (i:=1) nd rfl (Or.inr rfl) (zC (jt T U) (hr.mono (by decide)) rfl T.m_none_row T.F_none_row.kp (jQ T) .nil pass0 (zc (pv 0) ze)))
 (zo (zL (xw rfl nd (ko rfl T.n_range (zc (pv 0) ze)) (xA n_new_levels (zA qO) [("i",2)] (by decide +kernel)) (λ_ _ _ _ _=>(ym (i:=2) nd rfl (Or.inl rfl))) (λ_ _ _ _ _=>xT) (λ_ _ _ _ _=>(YS T.k_Level (zdk T U) (hr.mono (by decide)) rfl T.m_Level (zfW T) .nil pass0 (zc (pv 2) (zc (pv 1) ze)))))))),zbR U.toTx h⟩
theorem V1(T:Txt K mg d)(U:Ty K d):zB P w K mg base CX0 4 d.a_levels_of d.f_levels_of ["outs"] (qb K d) :=
 T.F_levels_of.ok WO (λvs H Q E h=>by repeat (obtain⟨e,h⟩:=h;try exact congrArg List.length e)) λcdv A outer s H vs Q E hr h=>by
 have hu:=zO hr
 have hu64:=hr.units
 have nd:=WO.nd
 exact⟨_,
 (zk (zz (i:=1) nd rfl (Or.inl rfl) (zC (V0 T U) (hr.mono (by decide)) rfl T.m_new_levels T.F_new_levels.kp (QM T) .nil pass0 (zc (zV yn rfl T.n_len z9 (zc (pv 0) ze)) ze)))
 (zk (xg PassesOwn.never rfl (zcF rfl T.n_range (zc (z8 kt (zV yn rfl T.n_len z9 (zc (pv 0) ze)) zq) (zc (VN Wh zq) (zc (VN Wh zq) ze)))) (ym (i:=2) nd rfl (Or.inl rfl))
  (zo (yG (wk (zF zG (pv 1) (pv 2) (λ_ _=>rfl)) T.c_Level T.me_Level_fill (zdl T U) (hr.mono (by decide)) (zfX T) .nil pass0 (zc (zF zG (pv 0) (pv 2) (λ_ _=>rfl)) (zc (zF zG (pv 1) (z8 xE (pv 2) zq) (λ_ _=>rfl)) ze))))))
 (zo (zL (pv 1))))),zbU U.toTx h⟩
theorem vo(T:Txt K mg d)(U:Ty K d):zB P w K mg base CX0 1 d.a_count_members d.f_count_members ["levels","start"] (wF K d) :=
 T.F_count_members.ok W1 (λvs H Q E h=>by repeat (obtain⟨e,h⟩:=h;try exact congrArg List.length e)) λcdv A outer s H vs Q E hr h=>by
 have hu:=zO hr
 have hu64:=hr.units
 have nd:=W1.nd
 exact⟨_,
 (zk (zz (i:=2) nd rfl (Or.inl rfl) zq)
 (zk (xg PassesOwn.never rfl (yZ (ur uk (pv 0) (vi (pv 1)) km)) (ym (i:=3) nd rfl (Or.inl rfl))
  (zo (wj (i:=2) nd rfl (Or.inl rfl) (zV yn rfl T.n_len z9 (zc (zH (pv 3) rfl) ze)) JU)))
 (zo (zL (pv 2))))),zb6 U.toTx h⟩
theorem uz(T:Txt K mg d)(U:Ty K d):zB P w K mg base CX0 2 d.a_is_member d.f_is_member ["levels","start","row"] (wE K d) :=
 T.F_is_member.ok WT (λvs H Q E h=>by repeat (obtain⟨e,h⟩:=h;try exact congrArg List.length e)) λcdv A outer s H vs Q E hr h=>by
 have hu:=zO hr
 have hu64:=hr.units
 have nd:=WT.nd
 exact⟨_,
 (zk (xg PassesOwn.never rfl (yZ (ur uk (pv 0) (vi (pv 1)) km)) (ym (i:=3) nd rfl (Or.inl rfl))
  (zk (zz (i:=4) nd rfl (Or.inl rfl) (zF zG (pv 2) (zH (pv 3) rfl) (λ_ _=>rfl)))
  (zo (yq (yu uw (pv 4) (zH (pv 3) rfl) (nomark _))
   (zk (yq (vh (YW hu (pv 4) (zH (pv 3) rfl)))
    (zo (zL jq))
    yx)
   (zo (zz (i:=2) nd rfl (Or.inl rfl) (zC (xF T U) (hr.mono (by decide)) rfl T.m_then T.F_then.kp (xK T) .nil pass0 (zc (pv 2) (zc (y3 hu (zH (pv 3) rfl) (pv 4) (λ_ _=>rfl)) ze))))))
   yx))))
 (zo (zL jq))),zbZ U.toTx h⟩
theorem kC(T:Txt K mg d)(U:Ty K d):zB P w K mg base CX0 1 d.a_makers_of d.f_makers_of ["levels"] (uj K d) :=
 T.F_makers_of.ok WN (λvs H Q E h=>by repeat (obtain⟨e,h⟩:=h;try exact congrArg List.length e)) λcdv A outer s H vs Q E hr h=>by
 have hu:=zO hr
 have hu64:=hr.units
 have nd:=WN.nd
 exact⟨_,
 (zo (zL (wV Ze rfl T.n_list uQ (zc (zH (zF zG (pv 0) zq (λ_ _=>rfl)) rfl) ze)))),zbT U.toTx h⟩
theorem Y5(T:Txt K mg d)(U:Ty K d):zB P w K mg base CX0 1 d.a_orbit_of d.f_orbit_of ["levels","point"] (jg K d) :=
 T.F_orbit_of.ok WJ (λvs H Q E h=>by repeat (obtain⟨e,h⟩:=h;try exact congrArg List.length e)) λcdv A outer s H vs Q E hr h=>by
 have hu:=zO hr
 have hu64:=hr.units
 have nd:=WJ.nd
 exact⟨_,
 (zk (zz (i:=2) nd rfl (Or.inr rfl) (zH (zF zG (pv 0) zq (λ_ _=>rfl)) rfl))
 (zo (zL (xw rfl nd (ko rfl T.n_range (zc (zV yn rfl T.n_len z9 (zc (pv 0) ze)) ze)) (xA n_orbit_of (zA qN) [("x",3)] (by decide +kernel)) (λ_ _ _ _ _=>(ym (i:=3) nd rfl (Or.inl rfl))) (λ_ _ _ _ _=>(VE (yu vT (zF zG (pv 2) (pv 3) (λ_ _=>rfl)) (zF zG (pv 2) (pv 1) (λ_ _=>rfl)) (nomark _)))) (λ_ _ _ _ _=>(pv 3)))))),zbP U.toTx h⟩
theorem zcX(T:Txt K mg d)(U:Ty K d):zB P w K mg base CX0 3 d.a_first_stranger d.f_first_stranger ["levels","i"] (ZQ K d) :=
 T.F_first_stranger.ok WX (λvs H Q E h=>by repeat (obtain⟨e,h⟩:=h;try exact congrArg List.length e)) λcdv A outer s H vs Q E hr h=>by
 have hu:=zO hr
 have hu64:=hr.units
 have nd:=WX.nd
 exact⟨_,
 (zk (zz (i:=2) nd rfl (Or.inl rfl) (zF zG (pv 0) (pv 1) (λ_ _=>rfl)))
 (zk (yq (yu vT (zC (vo T U) (hr.mono (by decide)) rfl T.m_count_members T.F_count_members.kp (vF T) .nil pass0 (zc (pv 0) (zc (pv 1) ze))) (uu (pv 2) T.c_Level T.me_Level_most_members (zdi T U) (hr.mono (by decide)) (zfU T) .nil pass0) (nomark _))
  (zo (yG (uu (pv 2) T.c_Level T.me_Level_skip_untried (Jb T U) (hr.mono (by decide)) (QX T) .nil pass0)))
  yx)
 (zk (zz (i:=3) nd rfl (Or.inl rfl) (uu (pv 2) T.c_Level T.me_Level_untried (V9 T U) (hr.mono (by decide)) (QV T) .nil pass0))
 (zk (vS PassesOwn.never (vh (zcI (pv 3)))
  (zk (zz (i:=4) nd rfl (Or.inl rfl) (zC (xF T U) (hr.mono (by decide)) rfl T.m_then T.F_then.kp (xK T) .nil pass0 (zc (pv 3) (zc (y3 hu (zH (pv 2) rfl) (zF zG (pv 3) (zH (pv 2) rfl) (λ_ _=>rfl)) (λ_ _=>rfl)) ze))))
  (zk (yq (vR (wg (zC (uz T U) (hr.mono (by decide)) rfl T.m_is_member T.F_is_member.kp (uS T) .nil pass0 (zc (pv 0) (zc (z8 xE (pv 1) zq) (zc (pv 4) ze))))))
   (zo (zL (pv 4)))
   yx)
  (zo (zz (i:=3) nd rfl (Or.inl rfl) (uu (pv 2) T.c_Level T.me_Level_untried (V9 T U) (hr.mono (by decide)) (QV T) .nil pass0))))))
 (zo (zL VO)))))),zb3 U.toTx h⟩
theorem V6(T:Txt K mg d)(U:Ty K d):zB P w K mg base CX0 5 d.a_extend d.f_extend ["levels","row"] (qh K d) :=
 T.F_extend.ok WZ (λvs H Q E h=>by repeat (obtain⟨e,h⟩:=h;try exact congrArg List.length e)) λcdv A outer s H vs Q E hr h=>by
 have hu:=zO hr
 have hu64:=hr.units
 have nd:=WZ.nd
 exact⟨_,
 (zk (yG (wk (zF zG (pv 0) zq (λ_ _=>rfl)) T.c_Level T.me_Level_take_maker (Ja T U) (hr.mono (by decide)) (QW T) .nil pass0 (zc (pv 1) ze)))
 (zk (zz (i:=2) nd rfl (Or.inl rfl) zq)
 (zo (vS PassesOwn.never (yu Y0 (pv 2) zq (nomark _))
  (zk (zz (i:=3) nd rfl (Or.inl rfl) (zC (zcX T U) (hr.mono (by decide)) rfl T.m_first_stranger T.F_first_stranger.kp (zfA T) .nil pass0 (zc (pv 0) (zc (pv 2) ze))))
  (zo (yq (vh (zcK (pv 3)))
   (zo (wj (i:=2) nd rfl (Or.inl rfl) zq zeo))
   (zk (wj (i:=2) nd rfl (Or.inl rfl) zq uK)
   (zo (yG (wk (zF zG (pv 0) (pv 2) (λ_ _=>rfl)) T.c_Level T.me_Level_take_maker (Ja T U) (hr.mono (by decide)) (QW T) .nil pass0 (zc (pv 3) ze)))))))))))),zb5 U.toTx h⟩
end Gd
end
section
set_option Elab.async false
set_option autoImplicit false
set_option linter.all false
set_option maxRecDepth 100000
set_option maxHeartbeats 2000000
namespace Gd
open PySem PyProof.Rows L2 GP
variable{P:Program}{w:World}{K:PySem.W.Frag}{mg:Str->Option Value}{base:Heap}{d:Ad}
theorem V8(T:Txt K mg d)(U:Ty K d):zB P w K mg base CX0 1 d.a_MovableChain_init d.f_MovableChain_init ["self","levels"] (qE K d) :=
 T.F_MovableChain_init.ok Vl (λvs H Q E h=>by repeat (obtain⟨e,h⟩:=h;try exact congrArg List.length e)) λcdv A outer s H vs Q E hr h=>by
 have hu:=zO hr
 have hu64:=hr.units
 have nd:=Vl.nd
 exact⟨_,
 (zk (xi (pv 0) (xw rfl nd (yZ (pv 1)) (xA n_MovableChain_init (zA jj) [("level",2)] (by decide +kernel)) (λ_ _ _ _ _=>(ym (i:=2) nd rfl (Or.inl rfl))) (λ_ _ _ _ _=>xT) (λ_ _ _ _ _=>(zH (pv 2) rfl))) rfl)
 (zo (xi (pv 0) (xw rfl nd (yZ (pv 1)) (xA n_MovableChain_init (zA jj) [("level",2)] (by decide +kernel)) (λ_ _ _ _ _=>(ym (i:=2) nd rfl (Or.inl rfl))) (λ_ _ _ _ _=>xT) (λ_ _ _ _ _=>(zH (pv 2) rfl))) rfl))),zcq U.toTx h⟩
theorem zcU(T:Txt K mg d)(U:Ty K d):zB P w K mg base CX0 2 d.a_leaving_lower d.f_leaving_lower ["high","low","lower_point"] (ZP K d) :=
 T.F_leaving_lower.ok WQ (λvs H Q E h=>by repeat (obtain⟨e,h⟩:=h;try exact congrArg List.length e)) λcdv A outer s H vs Q E hr h=>by
 have hu:=zO hr
 have hu64:=hr.units
 have nd:=WQ.nd
 exact⟨_,
 (zk (zz (i:=3) nd rfl (Or.inl rfl) VP)
 (zk (kj (xg PassesOwn.never rfl (jp (pv 0)) (ym (i:=4) nd rfl (Or.inl rfl))
  (zk (zz (i:=5) nd rfl (Or.inl rfl) (wm PySem.F.plainAttrs_list PySem.F.slot_list_index PySem.F.type_list_index jw (y3 hu (pv 0) (pv 4) (λ_ _=>rfl)) (zc (pv 2) ze)))
  (zo (yq (vh (VR hu (pv 5) (pv 1)))
   (zo (jm hu (pv 3) (pv 4) (zC (xF T U) (hr.mono (by decide)) rfl T.m_then T.F_then.kp (xK T) .nil pass0 (zc (y3 hu (pv 1) (pv 5) (λ_ _=>rfl)) (zc (y3 hu (pv 0) (pv 4) (λ_ _=>rfl)) ze))) rfl))
   yx)))))
 (zo (zL (pv 3))))),zbW h⟩
theorem zcQ(T:Txt K mg d)(U:Ty K d):zB P w K mg base CX0 2 d.a_taking_lower d.f_taking_lower ["high","low","places"] (ZL K d) :=
 T.F_taking_lower.ok WH (λvs H Q E h=>by repeat (obtain⟨e,h⟩:=h;try exact congrArg List.length e)) λcdv A outer s H vs Q E hr h=>by
 have hu:=zO hr
 have hu64:=hr.units
 have nd:=WH.nd
 exact⟨_,
 (zk (zz (i:=3) nd rfl (Or.inl rfl) (wV zfn rfl T.n_dict zfp (zc (pv 1) ze)))
 (zk (kj (xg PassesOwn.never rfl (jp (pv 0)) (ym (i:=4) nd rfl (Or.inl rfl))
  (zo (yq (yu vn (zV Zf rfl T.n_len z9 (zc (pv 3) ze)) (pv 2) (nomark _))
   (zo (kj (xg PassesOwn.never rfl (jp (pv 1)) (ym (i:=5) nd rfl (Or.inl rfl))
    (zo (yq (vh (YW hu (zF zG (y3 hu (pv 0) (pv 4) (λ_ _=>rfl)) (pv 5) (λ_ _=>rfl)) (pv 3)))
     (zo (jm hu (pv 3) (zF zG (y3 hu (pv 0) (pv 4) (λ_ _=>rfl)) (pv 5) (λ_ _=>rfl)) (zC (xF T U) (hr.mono (by decide)) rfl T.m_then T.F_then.kp (xK T) .nil pass0 (zc (y3 hu (pv 1) (pv 5) (λ_ _=>rfl)) (zc (y3 hu (pv 0) (pv 4) (λ_ _=>rfl)) ze))) rfl))
     yx)))))
   yx))))
 (zo (zL (pv 3))))),zbN h⟩
theorem zdg(T:Txt K mg d)(U:Ty K d):zB P w K mg base CX0 3 d.a_MovableChain_swap d.f_MovableChain_swap ["self","k"] (ZT K d) :=
 T.F_MovableChain_swap.ok Vj (λvs H Q E h=>by repeat (obtain⟨e,h⟩:=h;try exact congrArg List.length e)) λcdv A outer s H vs Q E hr h=>by
 have hu:=zO hr
 have hu64:=hr.units
 have nd:=Vj.nd
 exact⟨_,
 (zk (zz (i:=2) nd rfl (Or.inl rfl) (zF zG (zH (pv 0) rfl) (pv 1) (λ_ _=>rfl)))
 (zk (zz (i:=3) nd rfl (Or.inl rfl) (zF zG (zH (pv 0) rfl) (z8 xE (pv 1) zq) (λ_ _=>rfl)))
 (zk (zz (i:=4) nd rfl (Or.inl rfl) (zF zG (zH (pv 0) rfl) (pv 1) (λ_ _=>rfl)))
 (zk (zz (i:=5) nd rfl (Or.inl rfl) (zF zG (zH (pv 0) rfl) (z8 xE (pv 1) zq) (λ_ _=>rfl)))
 (zk (zz (i:=6) nd rfl (Or.inl rfl) (zC (zcU T U) (hr.mono (by decide)) rfl T.m_leaving_lower T.F_leaving_lower.kp (zfy T) .nil pass0 (zc (pv 4) (zc (pv 5) (zc (pv 3) ze)))))
 (zk (wS (zC (zcQ T U) (hr.mono (by decide)) rfl T.m_taking_lower T.F_taking_lower.kp (zfu T) .nil pass0 (zc (pv 4) (zc (pv 5) (zc (z8 js (z8 YZ (zV Zf rfl T.n_len z9 (zc (pv 4) ze)) (zV Zf rfl T.n_len z9 (zc (pv 5) ze))) (zV Zf rfl T.n_len z9 (zc (pv 6) ze))) ze)))) (wT (zH (pv 0) rfl) (pv 1) wG))
 (zk (wS (pv 6) (wT (zH (pv 0) rfl) (z8 xE (pv 1) zq) wG))
 (zk (wS (pv 3) (wT (zH (pv 0) rfl) (pv 1) wG))
 (zo (wS (pv 2) (wT (zH (pv 0) rfl) (z8 xE (pv 1) zq) wG))))))))))),zco U.toTx h⟩
theorem V7(T:Txt K mg d)(U:Ty K d):zB P w K mg base CX0 4 d.a_MovableChain_move_up d.f_MovableChain_move_up ["self","point","k"] (qD K d) :=
 T.F_MovableChain_move_up.ok Vk (λvs H Q E h=>by repeat (obtain⟨e,h⟩:=h;try exact congrArg List.length e)) λcdv A outer s H vs Q E hr h=>by
 have hu:=zO hr
 have hu64:=hr.units
 have nd:=Vk.nd
 exact⟨_,
 (zo (vS PassesOwn.never (yu uw (zF zG (zH (pv 0) rfl) (pv 2) (λ_ _=>rfl)) (pv 1) (nomark _))
  (zo (yG (wk (pv 0) T.c_MovableChain T.me_MovableChain_swap (zdg T U) (hr.mono (by decide)) (zfS T) .nil pass0 (zc (z8 kt (wm PySem.F.plainAttrs_list PySem.F.slot_list_index PySem.F.type_list_index jw (zH (pv 0) rfl) (zc (pv 1) ze)) zq) ze)))))),zcp U.toTx h⟩
theorem zcT(T:Txt K mg d)(U:Ty K d):zB P w K mg base CX0 5 d.a_levels_leaving d.f_levels_leaving ["levels","point"] (ZO K d) :=
 T.F_levels_leaving.ok WP (λvs H Q E h=>by repeat (obtain⟨e,h⟩:=h;try exact congrArg List.length e)) λcdv A outer s H vs Q E hr h=>by
 have hu:=zO hr
 have hu64:=hr.units
 have nd:=WP.nd
 exact⟨_,
 (zk (zz (i:=2) nd rfl (Or.inl rfl) (YS T.k_MovableChain (V8 T U) (hr.mono (by decide)) rfl T.m_MovableChain (QU T) .nil pass0 (zc (pv 0) ze)))
 (zk (yG (wk (pv 2) T.c_MovableChain T.me_MovableChain_move_up (V7 T U) (hr.mono (by decide)) (QT T) .nil pass0 (zc (pv 1) (zc zq ze))))
 (zk (zz (i:=3) nd rfl (Or.inl rfl) (ur uk (zH (pv 2) rfl) (vi zq) km))
 (zk (yG (wm PySem.F.plainAttrs_list PySem.F.slot_list_insert PySem.F.type_list_insert zdt (pv 3) (zc (pv 1) (zc (YU (YM (pv 1) (zC (jt T U) (hr.mono (by decide)) rfl T.m_none_row T.F_none_row.kp (jQ T) .nil pass0 (zc (zV yn rfl T.n_len z9 (zc (pv 0) ze)) ze)) YL) rfl rfl (by intro h;cases h) (by decide)) ze))))
 (zo (zL (zC (V1 T U) (hr.mono (by decide)) rfl T.m_levels_of T.F_levels_of.kp (QN T) .nil pass0 (zc (pv 3) ze)))))))),zbV U.toTx h⟩
theorem zcY(T:Txt K mg d)(U:Ty K d):zB P w K mg base CX0 5 d.a_first_after d.f_first_after ["levels","row"] (ZR K d) :=
 T.F_first_after.ok WY (λvs H Q E h=>by repeat (obtain⟨e,h⟩:=h;try exact congrArg List.length e)) λcdv A outer s H vs Q E hr h=>by
 have hu:=zO hr
 have hu64:=hr.units
 have nd:=WY.nd
 exact⟨_,
 (zk (zz (i:=2) nd rfl (Or.inl rfl) (YS T.k_MovableChain (V8 T U) (hr.mono (by decide)) rfl T.m_MovableChain (QU T) .nil pass0 (zc (pv 0) ze)))
 (zk (zz (i:=3) nd rfl (Or.inr rfl) (zC (jt T U) (hr.mono (by decide)) rfl T.m_none_row T.F_none_row.kp (jQ T) .nil pass0 (zc (zV yn rfl T.n_len z9 (zc (pv 0) ze)) ze)))
 (zk (xg PassesOwn.never rfl (ko rfl T.n_range (zc (zV yn rfl T.n_len z9 (zc (pv 0) ze)) ze)) (ym (i:=4) nd rfl (Or.inl rfl))
  (zk (zz (i:=5) nd rfl (Or.inl rfl) (zF zG (zH (pv 2) rfl) (pv 4) (λ_ _=>rfl)))
  (zk (yq (vh (VR hu (zF zG (pv 1) (pv 4) (λ_ _=>rfl)) (pv 5)))
   (zo (zz (i:=1) nd rfl (Or.inl rfl) (zC (xF T U) (hr.mono (by decide)) rfl T.m_then T.F_then.kp (xK T) .nil pass0 (zc (pv 1) (zc (zC (V5 T U) (hr.mono (by decide)) rfl T.m_inverse T.F_inverse.kp (QR T) .nil pass0 (zc (y3 hu (pv 5) (zF zG (pv 1) (pv 4) (λ_ _=>rfl)) (λ_ _=>rfl)) ze)) ze)))))
   (zk (yG (wk (pv 2) T.c_MovableChain T.me_MovableChain_move_up (V7 T U) (hr.mono (by decide)) (QT T) .nil pass0 (zc (zF zG (pv 1) (pv 4) (λ_ _=>rfl)) (zc (pv 4) ze))))
   (zo (zz (i:=5) nd rfl (Or.inl rfl) (zF zG (zH (pv 2) rfl) (pv 4) (λ_ _=>rfl))))))
  (zk (zz (i:=6) nd rfl (Or.inl rfl) (zV (zfc rfl) rfl T.n_min zfo (zc (zcG (xw rfl nd (jp (pv 5)) (xA n_first_after (zA qS) [("y",7)] (by decide +kernel)) (λ_ _ _ _ _=>(ym (i:=7) nd rfl (Or.inl rfl))) (λ_ _ _ _ _=>xT) (λ_ _ _ _ _=>(zF zG (pv 3) (pv 7) (λ_ _=>rfl))))) ze)))
  (zo (zz (i:=3) nd rfl (Or.inr rfl) (zC (xF T U) (hr.mono (by decide)) rfl T.m_then T.F_then.kp (xK T) .nil pass0 (zc (y3 hu (pv 5) (wm PySem.F.plainAttrs_list PySem.F.slot_list_index PySem.F.type_list_index jw (pv 3) (zc (pv 6) ze)) (λ_ _=>rfl)) (zc (pv 3) ze)))))))))
 (zo (zL (zC (xF T U) (hr.mono (by decide)) rfl T.m_then T.F_then.kp (xK T) .nil pass0 (zc (pv 1) (zc (pv 3) ze)))))))),zb4 U.toTx h⟩
theorem V3(T:Txt K mg d)(U:Ty K d):zB P w K mg base CX0 3 d.a_is_inside d.f_is_inside ["levels","others"] (qe K d) :=
 T.F_is_inside.ok WU (λvs H Q E h=>by repeat (obtain⟨e,h⟩:=h;try exact congrArg List.length e)) λcdv A outer s H vs Q E hr h=>by
 have hu:=zO hr
 have hu64:=hr.units
 have nd:=WU.nd
 exact⟨_,
 (zo (zL (zV (Za rfl) rfl T.n_all Zg (zc (xw rfl nd (yZ (zC (kC T U) (hr.mono (by decide)) rfl T.m_makers_of T.F_makers_of.kp (Zk T) .nil pass0 (zc (pv 0) ze))) (xA n_is_inside (zA qR) [("maker",2)] (by decide +kernel)) (λ_ _ _ _ _=>(ym (i:=2) nd rfl (Or.inl rfl))) (λ_ _ _ _ _=>xT) (λ_ _ _ _ _=>(zC (uz T U) (hr.mono (by decide)) rfl T.m_is_member T.F_is_member.kp (uS T) .nil pass0 (zc (pv 1) (zc zq (zc (pv 2) ze)))))) ze)))),zb0 U.toTx h⟩
theorem zcS(T:Txt K mg d)(U:Ty K d):zB P w K mg base CX0 2 d.a_member_at d.f_member_at ["levels","place"] (ZN K d) :=
 T.F_member_at.ok WM (λvs H Q E h=>by repeat (obtain⟨e,h⟩:=h;try exact congrArg List.length e)) λcdv A outer s H vs Q E hr h=>by
 have hu:=zO hr
 have hu64:=hr.units
 have nd:=WM.nd
 exact⟨_,
 (zk (zz (i:=2) nd rfl (Or.inr rfl) (zC (jt T U) (hr.mono (by decide)) rfl T.m_none_row T.F_none_row.kp (jQ T) .nil pass0 (zc (zV yn rfl T.n_len z9 (zc (pv 0) ze)) ze)))
 (zk (zz (i:=3) nd rfl (Or.inl rfl) (zC (vo T U) (hr.mono (by decide)) rfl T.m_count_members T.F_count_members.kp (vF T) .nil pass0 (zc (pv 0) (zc zq ze))))
 (zk (xg PassesOwn.never rfl (yZ (pv 0)) (ym (i:=4) nd rfl (Or.inl rfl))
  (zk (wj (i:=3) nd rfl (Or.inl rfl) (zV yn rfl T.n_len z9 (zc (zH (pv 4) rfl) ze)) JV)
  (zk (zz (i:=5) nd rfl (Or.inl rfl) (zV Qt rfl T.n_sorted QF (zc (xw rfl nd (yZ (zH (pv 4) rfl)) (xA n_member_at (zA qP) [("y",6)] (by decide +kernel)) (λ_ _ _ _ _=>(ym (i:=6) nd rfl (Or.inl rfl))) (λ_ _ _ _ _=>xT) (λ_ _ _ _ _=>(zF zG (pv 2) (pv 6) (λ_ _=>rfl)))) ze)))
  (zk (zz (i:=6) nd rfl (Or.inl rfl) (wm PySem.F.plainAttrs_list PySem.F.slot_list_index PySem.F.type_list_index jw (pv 2) (zc (zF zG (pv 5) (z8 js (pv 1) (pv 3)) (λ_ _=>rfl)) ze)))
  (zk (wj (i:=1) nd rfl (Or.inl rfl) (pv 3) zep)
  (zo (zz (i:=2) nd rfl (Or.inr rfl) (zC (xF T U) (hr.mono (by decide)) rfl T.m_then T.F_then.kp (xK T) .nil pass0 (zc (y3 hu (zH (pv 4) rfl) (pv 6) (λ_ _=>rfl)) (zc (pv 2) ze))))))))))
 (zo (zL (pv 2)))))),zbS U.toTx h⟩
theorem zcR(T:Txt K mg d)(U:Ty K d):zB P w K mg base CX0 2 d.a_place_of d.f_place_of ["levels","row"] (ZM K d) :=
 T.F_place_of.ok WI (λvs H Q E h=>by repeat (obtain⟨e,h⟩:=h;try exact congrArg List.length e)) λcdv A outer s H vs Q E hr h=>by
 have hu:=zO hr
 have hu64:=hr.units
 have nd:=WI.nd
 exact⟨_,
 (zk (zz (i:=2) nd rfl (Or.inr rfl) (zC (jt T U) (hr.mono (by decide)) rfl T.m_none_row T.F_none_row.kp (jQ T) .nil pass0 (zc (zV yn rfl T.n_len z9 (zc (pv 0) ze)) ze)))
 (zk (zz (i:=3) nd rfl (Or.inl rfl) (zC (vo T U) (hr.mono (by decide)) rfl T.m_count_members T.F_count_members.kp (vF T) .nil pass0 (zc (pv 0) (zc zq ze))))
 (zk (zz (i:=4) nd rfl (Or.inl rfl) zq)
 (zk (xg PassesOwn.never rfl (yZ (pv 0)) (ym (i:=5) nd rfl (Or.inl rfl))
  (zk (wj (i:=3) nd rfl (Or.inl rfl) (zV yn rfl T.n_len z9 (zc (zH (pv 5) rfl) ze)) JV)
  (zk (zz (i:=6) nd rfl (Or.inr rfl) (zF zG (pv 1) (zH (pv 5) rfl) (λ_ _=>rfl)))
  (zk (wj (i:=4) nd rfl (Or.inl rfl) (z8 YZ (pv 3) (zV yn rfl T.n_len z9 (zc (xw rfl nd (yZ (zH (pv 5) rfl)) (xA n_place_of (zA qM) [("y",7)] (by decide +kernel)) (λ_ _ _ _ _=>(ym (i:=7) nd rfl (Or.inl rfl))) (λ_ _ _ _ _=>(VE (yu vn (zF zG (pv 2) (pv 7) (λ_ _=>rfl)) (pv 6) (nomark _)))) (λ_ _ _ _ _=>(pv 7))) ze))) uK)
  (zo (zz (i:=2) nd rfl (Or.inr rfl) (zC (xF T U) (hr.mono (by decide)) rfl T.m_then T.F_then.kp (xK T) .nil pass0 (zc (y3 hu (zH (pv 5) rfl) (wm PySem.F.plainAttrs_list PySem.F.slot_list_index PySem.F.type_list_index jw (pv 2) (zc (pv 6) ze)) (λ_ _=>rfl)) (zc (pv 2) ze)))))))))
 (zo (zL (pv 4))))))),zbO U.toTx h⟩
theorem Y4(T:Txt K mg d)(U:Ty K d):zB P w K mg base CX0 1 d.a_two_words d.f_two_words ["number"] (ui K d) :=
 T.F_two_words.ok WF (λvs H Q E h=>by repeat (obtain⟨e,h⟩:=h;try exact congrArg List.length e)) λcdv A outer s H vs Q E hr h=>by
 have hu:=zO hr
 have hu64:=hr.units
 have nd:=WF.nd
 exact⟨_,
 (zo (zL (yh (zc (z8 VW (pv 0) (xa (v:=.int (18446744073709551616)) rfl T.m_WORD ⟨_,rfl⟩)) (zc (z8 js (pv 0) (xa (v:=.int (18446744073709551616)) rfl T.m_WORD ⟨_,rfl⟩)) ze))))),zbL h⟩
theorem zcZ(T:Txt K mg d)(U:Ty K d):zB P w K mg base CX0 1 d.a_are_points d.f_are_points ["numbers","points"] (qi K d) :=
 T.F_are_points.ok W2 (λvs H Q E h=>by repeat (obtain⟨e,h⟩:=h;try exact congrArg List.length e)) λcdv A outer s H vs Q E hr h=>by
 have hu:=zO hr
 have hu64:=hr.units
 have nd:=W2.nd
 exact⟨_,
 (zo (zL (zV (Za rfl) rfl T.n_all Zg (zc (xw rfl nd (yZ (pv 0)) (xA n_are_points (zA qT) [("x",2)] (by decide +kernel)) (λ_ _ _ _ _=>(ym (i:=2) nd rfl (Or.inl rfl))) (λ_ _ _ _ _=>xT) (λ_ _ _ _ _=>(YV (uv Y0 (pv 2) zq (nomark _)) (YR (uv vn (pv 2) (pv 1) (nomark _)))))) ze)))),zb7 h⟩
theorem kz(T:Txt K mg d)(U:Ty K d):zB P w K mg base CX0 1 d.a_yes_or_no d.f_yes_or_no ["truth"] (vN K d) :=
 T.F_yes_or_no.ok WE (λvs H Q E h=>by repeat (obtain⟨e,h⟩:=h;try exact congrArg List.length e)) λcdv A outer s H vs Q E hr h=>by
 have hu:=zO hr
 have hu64:=hr.units
 have nd:=WE.nd
 exact⟨_,
 (zo (zL (yh (zc (kr (wg (pv 0)) zq zq) ze)))),zbK h⟩
end Gd
end
section
set_option Elab.async false
set_option autoImplicit false
set_option linter.all false
set_option maxRecDepth 100000
set_option maxHeartbeats 2000000
namespace Gd
open PySem PyProof.Rows L2 GP
variable{P:Program}{w:World}{K:PySem.W.Frag}{mg:Str->Option Value}{base:Heap}{d:Ad}
theorem V2{J:Nat->Nat->Prop}{spIn:Sp}{k:Nat}(T:Txt K mg d)(U:Ty K d)(hk:5<=k)(G:zB P w K mg base CX0 k d.a_joined d.f_joined ["levels","others"] spIn)(hIn:∀vs H Q E,spJ (λa b=>b<a) d vs H Q E->(∃a b,J a b/\a<b)->spIn vs H Q E):zB P w K mg base CX0 (k+1) d.a_joined d.f_joined ["levels","others"] (spJ J d) :=
 T.F_joined.ok WR (λvs H Q E h=>by repeat (obtain⟨e,h⟩:=h;try exact congrArg List.length e)) λcdv A outer s H vs Q E hr h=>by
 have hu:=zO hr
 have hu64:=hr.units
 have nd:=WR.nd
 exact⟨_,
 (zk (yq (yu vn (zC (vo T U) (hr.mono (Nat.le_trans (by decide) hk)) rfl T.m_count_members T.F_count_members.kp (vF T) .nil pass0 (zc (pv 0) (zc zq ze))) (zC (vo T U) (hr.mono (Nat.le_trans (by decide) hk)) rfl T.m_count_members T.F_count_members.kp (vF T) .nil pass0 (zc (pv 1) (zc zq ze))) (nomark _))
  (zo (zL (zC G hr rfl T.m_joined T.F_joined.kp (QO T) .nil pass0 (zc (pv 1) (zc (pv 0) ze)))))
  yx)
 (zk (zz (i:=2) nd rfl (Or.inl rfl) (zC (V1 T U) (hr.mono (Nat.le_trans (by decide) hk)) rfl T.m_levels_of T.F_levels_of.kp (QN T) .nil pass0 (zc (xw rfl nd (yZ (pv 0)) (xA n_joined (zA qQ) [("level",4)] (by decide +kernel)) (λ_ _ _ _ _=>(ym (i:=4) nd rfl (Or.inl rfl))) (λ_ _ _ _ _=>xT) (λ_ _ _ _ _=>(zH (pv 4) rfl))) ze)))
 (zk (xg PassesOwn.never rfl (yZ (zC (kC T U) (hr.mono (Nat.le_trans (by decide) hk)) rfl T.m_makers_of T.F_makers_of.kp (Zk T) .nil pass0 (zc (pv 1) ze))) (ym (i:=3) nd rfl (Or.inl rfl))
  (zo (yq (vR (wg (zC (uz T U) (hr.mono (Nat.le_trans (by decide) hk)) rfl T.m_is_member T.F_is_member.kp (uS T) .nil pass0 (zc (pv 2) (zc zq (zc (pv 3) ze))))))
   (zo (yG (zC (V6 T U) (hr.mono (Nat.le_trans (by decide) hk)) rfl T.m_extend T.F_extend.kp (QS T) .nil pass0 (zc (pv 2) (zc (pv 3) ze)))))
   yx)))
 (zo (zL (pv 2)))))),zbX U.toTx hIn h⟩
theorem zcV(T:Txt K mg d)(U:Ty K d):zB P w K mg base CX0 7 d.a_joined d.f_joined ["levels","others"] (Wx K d) :=
 V2 T U (k:=6) (by decide) (V2 T U (J:=λa b=>b<a) (spIn:=λ_ _ _ _=>False) (k:=5) (by decide) ⟨λ_ _ _ _ h=>h.elim,λ_ _ _ _ _ _ _ _ _ _ _ _ _ h=>h.elim⟩ λ_ _ _ _ _ h=>by
  obtain⟨a,b,h1,h2⟩:=h
  omega) λ_ _ _ _ h _=>h
theorem zc5(T:Txt K mg d)(U:Ty K d):zB P w K mg base CX0 4 d.a_answer_new d.f_answer_new ["held","numbers"] (qp K d) :=
 T.F_answer_new.ok W8 (λvs H Q E h=>by repeat (obtain⟨e,h⟩:=h;try exact congrArg List.length e)) λcdv A outer s H vs Q E hr h=>by
 have hu:=zO hr
 have hu64:=hr.units
 have nd:=W8.nd
 exact⟨_,
 (zk (zz (i:=2) nd rfl (Or.inl rfl) (zF zG (pv 1) zq (λ_ _=>rfl)))
 (zk (yq (PW.pt (zcD (yu vn (pv 2) zq (nomark _)) (zcC (yu VX (pv 2) (xa (v:=.int (34)) rfl T.m_MOST_POINTS ⟨_,rfl⟩) (nomark _)))))
  (zo (zL (yh (zc (xa (v:=.int (-2)) rfl T.m_OUT_OF_RANGE ⟨_,rfl⟩) ze))))
  yx)
 (zk (wS (zC (V0 T U) (hr.mono (by decide)) rfl T.m_new_levels T.F_new_levels.kp (QM T) .nil pass0 (zc (pv 2) ze)) (wT (pv 0) (zF zG (pv 1) zq (λ_ _=>rfl)) wG))
 (zo (zL (yh (zc zq ze))))))),zcd U.toTx h⟩
theorem zc9(T:Txt K mg d)(U:Ty K d):zB P w K mg base CX0 6 d.a_answer_fix d.f_answer_fix ["held","numbers"] (qv K d) :=
 T.F_answer_fix.ok Vc (λvs H Q E h=>by repeat (obtain⟨e,h⟩:=h;try exact congrArg List.length e)) λcdv A outer s H vs Q E hr h=>by
 have hu:=zO hr
 have hu64:=hr.units
 have nd:=Vc.nd
 exact⟨_,
 (zk (zz (i:=2) nd rfl (Or.inl rfl) (zF zG (pv 0) (zF zG (pv 1) zq (λ_ _=>rfl)) (λ_ _=>rfl)))
 (zk (zz (i:=3) nd rfl (Or.inl rfl) (zF zG (pv 1) zq (λ_ _=>rfl)))
 (zk (yq (yu (Y1 hu64) (zC (Y5 T U) (hr.mono (by decide)) rfl T.m_orbit_of T.F_orbit_of.kp (X1 T) .nil pass0 (zc (pv 2) (zc (pv 3) ze))) (yh (zc (pv 3) ze)) (nomark _))
  (zo (zL (yh (zc zq ze))))
  yx)
 (zk (wS (zC (zcT T U) (hr.mono (by decide)) rfl T.m_levels_leaving T.F_levels_leaving.kp (zfx T) .nil pass0 (zc (pv 2) (zc (pv 3) ze))) (wT (pv 0) (zF zG (pv 1) zq (λ_ _=>rfl)) wG))
 (zo (zL (yh (zc zq ze)))))))),zch U.toTx h⟩
theorem zc7(T:Txt K mg d)(U:Ty K d):zB P w K mg base CX0 4 d.a_answer_inside d.f_answer_inside ["held","numbers"] (qt K d) :=
 T.F_answer_inside.ok Va (λvs H Q E h=>by repeat (obtain⟨e,h⟩:=h;try exact congrArg List.length e)) λcdv A outer s H vs Q E hr h=>by
 have hu:=zO hr
 have hu64:=hr.units
 have nd:=Va.nd
 exact⟨_,
 (zk (zz (i:=2) nd rfl (Or.inl rfl) (zF zG (pv 0) (zF zG (pv 1) zq (λ_ _=>rfl)) (λ_ _=>rfl)))
 (zk (zz (i:=3) nd rfl (Or.inl rfl) (zF zG (pv 0) (zF zG (pv 1) zq (λ_ _=>rfl)) (λ_ _=>rfl)))
 (zo (zL (zC (kz T U) (hr.mono (by decide)) rfl T.m_yes_or_no T.F_yes_or_no.kp (Zj T) .nil pass0 (zc (YV (uv vT (zV yn rfl T.n_len z9 (zc (pv 2) ze)) (zV yn rfl T.n_len z9 (zc (pv 3) ze)) (nomark _)) (YR (zC (V3 T U) (hr.mono (by decide)) rfl T.m_is_inside T.F_is_inside.kp (QP T) .nil pass0 (zc (pv 2) (zc (pv 3) ze))))) ze)))))),zcf U.toTx h⟩
theorem zc6(T:Txt K mg d)(U:Ty K d):zB P w K mg base CX0 8 d.a_answer_join d.f_answer_join ["held","numbers"] (qr K d) :=
 T.F_answer_join.ok W9 (λvs H Q E h=>by repeat (obtain⟨e,h⟩:=h;try exact congrArg List.length e)) λcdv A outer s H vs Q E hr h=>by
 have hu:=zO hr
 have hu64:=hr.units
 have nd:=W9.nd
 exact⟨_,
 (zk (zz (i:=2) nd rfl (Or.inl rfl) (zF zG (pv 0) (zF zG (pv 1) zq (λ_ _=>rfl)) (λ_ _=>rfl)))
 (zk (zz (i:=3) nd rfl (Or.inl rfl) (zF zG (pv 0) (zF zG (pv 1) zq (λ_ _=>rfl)) (λ_ _=>rfl)))
 (zk (yq (yu uw (zV yn rfl T.n_len z9 (zc (pv 2) ze)) (zV yn rfl T.n_len z9 (zc (pv 3) ze)) (nomark _))
  (zo (zL (yh (zc (xa (v:=.int (-1)) rfl T.m_NOT_AS_MANY_POINTS ⟨_,rfl⟩) ze))))
  yx)
 (zk (yq (wg (zC (V3 T U) (hr.mono (by decide)) rfl T.m_is_inside T.F_is_inside.kp (QP T) .nil pass0 (zc (pv 3) (zc (pv 2) ze))))
  (zo (zL (yh (zc zq ze))))
  yx)
 (zk (wS (zC (zcV T U) (hr.mono (by decide)) rfl T.m_joined T.F_joined.kp (QO T) .nil pass0 (zc (pv 2) (zc (pv 3) ze))) (wT (pv 0) (zF zG (pv 1) zq (λ_ _=>rfl)) wG))
 (zo (zL (yh (zc zq ze))))))))),zce U.toTx h⟩
theorem zde(T:Txt K mg d)(U:Ty K d):zB P w K mg base CX0 6 d.a_answer_add d.f_answer_add ["levels","numbers","row"] (qB K d) :=
 T.F_answer_add.ok Vh (λvs H Q E h=>by repeat (obtain⟨e,h⟩:=h;try exact congrArg List.length e)) λcdv A outer s H vs Q E hr h=>by
 have hu:=zO hr
 have hu64:=hr.units
 have nd:=Vh.nd
 exact⟨_,
 (zk (yq (wg (zC (uz T U) (hr.mono (by decide)) rfl T.m_is_member T.F_is_member.kp (uS T) .nil pass0 (zc (pv 0) (zc zq (zc (pv 2) ze)))))
  (zo (zL (yh (zc zq ze))))
  yx)
 (zk (yG (zC (V6 T U) (hr.mono (by decide)) rfl T.m_extend T.F_extend.kp (QS T) .nil pass0 (zc (pv 0) (zc (pv 2) ze))))
 (zo (zL (yh (zc zq ze)))))),zcm U.toTx h⟩
theorem zc3(T:Txt K mg d)(U:Ty K d):zB P w K mg base CX0 2 d.a_answer_order d.f_answer_order ["levels","numbers","row"] (qm K d) :=
 T.F_answer_order.ok W6 (λvs H Q E h=>by repeat (obtain⟨e,h⟩:=h;try exact congrArg List.length e)) λcdv A outer s H vs Q E hr h=>by
 have hu:=zO hr
 have hu64:=hr.units
 have nd:=W6.nd
 exact⟨_,
 (zo (zL (z8 ux (yh (zc zq ze)) (zC (Y4 T U) (hr.mono (by decide)) rfl T.m_two_words T.F_two_words.kp (X0 T) .nil pass0 (zc (zC (vo T U) (hr.mono (by decide)) rfl T.m_count_members T.F_count_members.kp (vF T) .nil pass0 (zc (pv 0) (zc zq ze))) ze))))),zcb U.toTx h⟩
theorem zc8(T:Txt K mg d)(U:Ty K d):zB P w K mg base CX0 3 d.a_answer_has d.f_answer_has ["levels","numbers","row"] (qu K d) :=
 T.F_answer_has.ok Vb (λvs H Q E h=>by repeat (obtain⟨e,h⟩:=h;try exact congrArg List.length e)) λcdv A outer s H vs Q E hr h=>by
 have hu:=zO hr
 have hu64:=hr.units
 have nd:=Vb.nd
 exact⟨_,
 (zo (zL (zC (kz T U) (hr.mono (by decide)) rfl T.m_yes_or_no T.F_yes_or_no.kp (Zj T) .nil pass0 (zc (zC (uz T U) (hr.mono (by decide)) rfl T.m_is_member T.F_is_member.kp (uS T) .nil pass0 (zc (pv 0) (zc zq (zc (pv 2) ze)))) ze)))),zcg U.toTx h⟩
theorem zdd(T:Txt K mg d)(U:Ty K d):zB P w K mg base CX0 3 d.a_answer_at d.f_answer_at ["levels","numbers","row"] (qA K d) :=
 T.F_answer_at.ok Vg (λvs H Q E h=>by repeat (obtain⟨e,h⟩:=h;try exact congrArg List.length e)) λcdv A outer s H vs Q E hr h=>by
 have hu:=zO hr
 have hu64:=hr.units
 have nd:=Vg.nd
 exact⟨_,
 (zk (zz (i:=3) nd rfl (Or.inl rfl) (z8 xE (zF zG (pv 1) zq (λ_ _=>rfl)) (z8 YZ (zF zG (pv 1) zq (λ_ _=>rfl)) (xa (v:=.int (18446744073709551616)) rfl T.m_WORD ⟨_,rfl⟩))))
 (zk (yq (yu Y0 (pv 3) (zC (vo T U) (hr.mono (by decide)) rfl T.m_count_members T.F_count_members.kp (vF T) .nil pass0 (zc (pv 0) (zc zq ze))) (nomark _))
  (zo (zL (yh (zc (xa (v:=.int (-1)) rfl T.m_NOT_THERE ⟨_,rfl⟩) ze))))
  yx)
 (zo (zL (z8 ux (yh (zc zq ze)) (zC (zcS T U) (hr.mono (by decide)) rfl T.m_member_at T.F_member_at.kp (zfw T) .nil pass0 (zc (pv 0) (zc (pv 3) ze)))))))),zcl U.toTx h⟩
theorem zc2(T:Txt K mg d)(U:Ty K d):zB P w K mg base CX0 3 d.a_answer_rank d.f_answer_rank ["levels","numbers","row"] (qk K d) :=
 T.F_answer_rank.ok W5 (λvs H Q E h=>by repeat (obtain⟨e,h⟩:=h;try exact congrArg List.length e)) λcdv A outer s H vs Q E hr h=>by
 have hu:=zO hr
 have hu64:=hr.units
 have nd:=W5.nd
 exact⟨_,
 (zk (yq (vR (wg (zC (uz T U) (hr.mono (by decide)) rfl T.m_is_member T.F_is_member.kp (uS T) .nil pass0 (zc (pv 0) (zc zq (zc (pv 2) ze))))))
  (zo (zL (yh (zc (xa (v:=.int (-1)) rfl T.m_NOT_THERE ⟨_,rfl⟩) ze))))
  yx)
 (zo (zL (z8 ux (yh (zc zq ze)) (zC (Y4 T U) (hr.mono (by decide)) rfl T.m_two_words T.F_two_words.kp (X0 T) .nil pass0 (zc (zC (zcR T U) (hr.mono (by decide)) rfl T.m_place_of T.F_place_of.kp (zfv T) .nil pass0 (zc (pv 0) (zc (pv 2) ze))) ze)))))),zca U.toTx h⟩
theorem zda(T:Txt K mg d)(U:Ty K d):zB P w K mg base CX0 6 d.a_answer_first d.f_answer_first ["levels","numbers","row"] (qw K d) :=
 T.F_answer_first.ok Vd (λvs H Q E h=>by repeat (obtain⟨e,h⟩:=h;try exact congrArg List.length e)) λcdv A outer s H vs Q E hr h=>by
 have hu:=zO hr
 have hu64:=hr.units
 have nd:=Vd.nd
 exact⟨_,
 (zo (zL (z8 ux (yh (zc zq ze)) (zC (zcY T U) (hr.mono (by decide)) rfl T.m_first_after T.F_first_after.kp (zfB T) .nil pass0 (zc (pv 0) (zc (pv 2) ze)))))),zci U.toTx h⟩
theorem zc4(T:Txt K mg d)(U:Ty K d):zB P w K mg base CX0 2 d.a_answer_orbit d.f_answer_orbit ["levels","numbers","row"] (qo K d) :=
 T.F_answer_orbit.ok W7 (λvs H Q E h=>by repeat (obtain⟨e,h⟩:=h;try exact congrArg List.length e)) λcdv A outer s H vs Q E hr h=>by
 have hu:=zO hr
 have hu64:=hr.units
 have nd:=W7.nd
 exact⟨_,
 (zk (zz (i:=3) nd rfl (Or.inl rfl) (zC (Y5 T U) (hr.mono (by decide)) rfl T.m_orbit_of T.F_orbit_of.kp (X1 T) .nil pass0 (zc (pv 0) (zc (zF zG (pv 1) zq (λ_ _=>rfl)) ze))))
 (zo (zL (z8 ux (yh (zc (zV yn rfl T.n_len z9 (zc (pv 3) ze)) ze)) (pv 3))))),zcc U.toTx h⟩
theorem zc1(T:Txt K mg d)(U:Ty K d):zB P w K mg base CX0 2 d.a_answer_ways d.f_answer_ways ["levels","numbers","row"] (qj K d) :=
 T.F_answer_ways.ok W4 (λvs H Q E h=>by repeat (obtain⟨e,h⟩:=h;try exact congrArg List.length e)) λcdv A outer s H vs Q E hr h=>by
 have hu:=zO hr
 have hu64:=hr.units
 have nd:=W4.nd
 exact⟨_,
 (zk (zz (i:=3) nd rfl (Or.inl rfl) (zC (Y5 T U) (hr.mono (by decide)) rfl T.m_orbit_of T.F_orbit_of.kp (X1 T) .nil pass0 (zc (pv 0) (zc (zF zG (pv 1) zq (λ_ _=>rfl)) ze))))
 (zk (zz (i:=4) nd rfl (Or.inl rfl) (kr (yu ku (zF zG (pv 1) zq (λ_ _=>rfl)) (pv 3) rfl) (z8 js (zC (vo T U) (hr.mono (by decide)) rfl T.m_count_members T.F_count_members.kp (vF T) .nil pass0 (zc (pv 0) (zc zq ze))) (zV yn rfl T.n_len z9 (zc (pv 3) ze))) zq))
 (zo (zL (z8 ux (yh (zc zq ze)) (zC (Y4 T U) (hr.mono (by decide)) rfl T.m_two_words T.F_two_words.kp (X0 T) .nil pass0 (zc (pv 4) ze))))))),zb9 U.toTx h⟩
theorem zdc(T:Txt K mg d)(U:Ty K d):zB P w K mg base CX0 2 d.a_answer_commutes d.f_answer_commutes ["levels","numbers","row"] (qz K d) :=
 T.F_answer_commutes.ok Vf (λvs H Q E h=>by repeat (obtain⟨e,h⟩:=h;try exact congrArg List.length e)) λcdv A outer s H vs Q E hr h=>by
 have hu:=zO hr
 have hu64:=hr.units
 have nd:=Vf.nd
 exact⟨_,
 (zo (zL (zC (kz T U) (hr.mono (by decide)) rfl T.m_yes_or_no T.F_yes_or_no.kp (Zj T) .nil pass0 (zc (zV (Za rfl) rfl T.n_all Zg (zc (xw rfl nd (yZ (zC (kC T U) (hr.mono (by decide)) rfl T.m_makers_of T.F_makers_of.kp (Zk T) .nil pass0 (zc (pv 0) ze))) (xA n_answer_commutes (zA qV) [("maker",3)] (by decide +kernel)) (λ_ _ _ _ _=>(ym (i:=3) nd rfl (Or.inl rfl))) (λ_ _ _ _ _=>xT) (λ_ _ _ _ _=>(uv (Y1 hu64) (zC (xF T U) (hr.mono (by decide)) rfl T.m_then T.F_then.kp (xK T) .nil pass0 (zc (pv 2) (zc (pv 3) ze))) (zC (xF T U) (hr.mono (by decide)) rfl T.m_then T.F_then.kp (xK T) .nil pass0 (zc (pv 3) (zc (pv 2) ze))) (nomark _)))) ze)) ze)))),zck U.toTx h⟩
theorem zdb(T:Txt K mg d)(U:Ty K d):zB P w K mg base CX0 2 d.a_answer_even d.f_answer_even ["levels","numbers","row"] (qy K d) :=
 T.F_answer_even.ok Ve (λvs H Q E h=>by repeat (obtain⟨e,h⟩:=h;try exact congrArg List.length e)) λcdv A outer s H vs Q E hr h=>by
 have hu:=zO hr
 have hu64:=hr.units
 have nd:=Ve.nd
 exact⟨_,
 (zo (zL (zC (kz T U) (hr.mono (by decide)) rfl T.m_yes_or_no T.F_yes_or_no.kp (Zj T) .nil pass0 (zc (zV (Za rfl) rfl T.n_all Zg (zc (xw rfl nd (yZ (zC (kC T U) (hr.mono (by decide)) rfl T.m_makers_of T.F_makers_of.kp (Zk T) .nil pass0 (zc (pv 0) ze))) (xA n_answer_even (zA qU) [("maker",3)] (by decide +kernel)) (λ_ _ _ _ _=>(ym (i:=3) nd rfl (Or.inl rfl))) (λ_ _ _ _ _=>xT) (λ_ _ _ _ _=>(zC (V4 T U) (hr.mono (by decide)) rfl T.m_is_even T.F_is_even.kp (QQ T) .nil pass0 (zc (pv 3) ze)))) ze)) ze)))),zcj U.toTx h⟩
end Gd
end
section
set_option Elab.async false
set_option autoImplicit false
set_option linter.all false
set_option maxRecDepth 100000
set_option maxHeartbeats 2000000
namespace Gd
open PySem PyProof.Rows L2 GP
variable{P:Program}{w:World}{K:PySem.W.Frag}{mg:Str->Option Value}{base:Heap}{d:Ad}
theorem zgb{X:Cx}{d:Ad}(T:Txt X.K X.mg d)(U:Ty X.K d):∀f sp,(f,sp)∈w8 X.K d->X6 X CX0 8 f sp:=by
 intro f sp h
 simp only[w8,List.mem_cons,Prod.mk.injEq,List.not_mem_nil,or_false] at h
 rcases h with ⟨rfl,rfl⟩|⟨rfl,rfl⟩|⟨rfl,rfl⟩|⟨rfl,rfl⟩
 .exact⟨⟨_,_,(zc5 T U).mono (by decide),zfH T⟩,T.F_answer_new.kp⟩
 .exact⟨⟨_,_,(zc9 T U).mono (by decide),zfL T⟩,T.F_answer_fix.kp⟩
 .exact⟨⟨_,_,(zc7 T U).mono (by decide),zfJ T⟩,T.F_answer_inside.kp⟩
 .exact⟨⟨_,_,(zc6 T U).mono (by decide),zfI T⟩,T.F_answer_join.kp⟩
theorem zga{X:Cx}{d:Ad}(T:Txt X.K X.mg d)(U:Ty X.K d):∀f sp,(f,sp)∈xq X.K d->X6 X CX0 8 f sp:=by
 intro f sp h
 simp only[xq,List.mem_cons,Prod.mk.injEq,List.not_mem_nil,or_false] at h
 rcases h with ⟨rfl,rfl⟩|⟨rfl,rfl⟩|⟨rfl,rfl⟩|⟨rfl,rfl⟩|⟨rfl,rfl⟩|⟨rfl,rfl⟩|⟨rfl,rfl⟩|⟨rfl,rfl⟩|⟨rfl,rfl⟩|⟨rfl,rfl⟩
 .exact⟨⟨_,_,(zde T U).mono (by decide),zfQ T⟩,T.F_answer_add.kp⟩
 .exact⟨⟨_,_,(zc3 T U).mono (by decide),zfF T⟩,T.F_answer_order.kp⟩
 .exact⟨⟨_,_,(zc8 T U).mono (by decide),zfK T⟩,T.F_answer_has.kp⟩
 .exact⟨⟨_,_,(zdd T U).mono (by decide),zfP T⟩,T.F_answer_at.kp⟩
 .exact⟨⟨_,_,(zc2 T U).mono (by decide),zfE T⟩,T.F_answer_rank.kp⟩
 .exact⟨⟨_,_,(zda T U).mono (by decide),zfM T⟩,T.F_answer_first.kp⟩
 .exact⟨⟨_,_,(zc4 T U).mono (by decide),zfG T⟩,T.F_answer_orbit.kp⟩
 .exact⟨⟨_,_,(zc1 T U).mono (by decide),zfD T⟩,T.F_answer_ways.kp⟩
 .exact⟨⟨_,_,(zdc T U).mono (by decide),zfO T⟩,T.F_answer_commutes.kp⟩
 .exact⟨⟨_,_,(zdb T U).mono (by decide),zfN T⟩,T.F_answer_even.kp⟩
theorem zdf(T:Txt K mg d)(U:Ty K d):zB P w K mg base CX0 9 d.a_answer d.f_answer ["held","call","numbers","row"] (qC K d) :=
 T.F_answer.ok Vi (λvs H Q E h=>by repeat (obtain⟨e,h⟩:=h;try exact congrArg List.length e)) λcdv A outer s H vs Q E hr h=>by
 have hu:=zO hr
 have hu64:=hr.units
 have nd:=Vi.nd
 exact⟨_,
 (zk (zz (i:=4) nd rfl (Or.inl rfl) (zF zG (pv 0) (zF zG (pv 2) zq (λ_ _=>rfl)) (λ_ _=>rfl)))
 (zk (yq (PW.pt (ke (yu ku (pv 1) (xa (v:=.ref d.o_WITH_ROW) rfl T.m_WITH_ROW rfl) rfl) (kc (vR (wg (zC (zcW T U) (hr.mono (by decide)) rfl T.m_is_permutation T.F_is_permutation.kp (zfz T) .nil pass0 (zc (pv 3) (zc (zV yn rfl T.n_len z9 (zc (pv 4) ze)) ze))))))))
  (zo (zL (yh (zc (xa (v:=.int (-2)) rfl T.m_OUT_OF_RANGE ⟨_,rfl⟩) ze))))
  yx)
 (zk (yq (PW.pt (ke (yu ku (pv 1) (xa (v:=.ref d.o_WITH_POINTS) rfl T.m_WITH_POINTS rfl) rfl) (kc (vR (wg (zC (zcZ T U) (hr.mono (by decide)) rfl T.m_are_points T.F_are_points.kp (zfC T) .nil pass0 (zc (ur uk (pv 2) (vi zq) km) (zc (zV yn rfl T.n_len z9 (zc (pv 4) ze)) ze))))))))
  (zo (zL (yh (zc (xa (v:=.int (-2)) rfl T.m_OUT_OF_RANGE ⟨_,rfl⟩) ze))))
  yx)
 (zk (yq (vh (zcJ hu (pv 1) (xa (v:=.ref d.o_ANSWERS_OF_HELD) rfl T.m_ANSWERS_OF_HELD rfl)))
  (zk (zz (i:=6) nd rfl (Or.inl rfl) (YT hu (xa (v:=.ref d.o_ANSWERS_OF_HELD) rfl T.m_ANSWERS_OF_HELD rfl) (pv 1) (λ_ _=>rfl)))
  (zo (zL (VQ rfl (Or.inl rfl) (zgb T U) (hr.mono (by decide)) pass0 (zc (pv 0) (zc (pv 2) ze))))))
  yx)
 (zk (zz (i:=5) nd rfl (Or.inl rfl) (YT hu (xa (v:=.ref d.o_ANSWERS_OF_ONE) rfl T.m_ANSWERS_OF_ONE rfl) (pv 1) (λ_ _=>rfl)))
 (zo (zL (VQ rfl (Or.inl rfl) (zga T U) (hr.mono (by decide)) pass0 (zc (pv 4) (zc (pv 2) (zc (pv 3) ze))))))))))),zcn U h⟩
theorem zc0(T:Txt K mg d)(U:Ty K d):zB P w K mg base CX0 10 d.a_answers d.f_answers ["calls"] (ZS K d) :=
 T.F_answers.ok W3 (λvs H Q E h=>by repeat (obtain⟨e,h⟩:=h;try exact congrArg List.length e)) λcdv A outer s H vs Q E hr h=>by
 have hu:=zO hr
 have hu64:=hr.units
 have nd:=W3.nd
 exact⟨_,
 (zk (zz (i:=1) nd rfl (Or.inl rfl) (yh (zc (yh ze) (zc (yh ze) ze))))
 (zk (zz (i:=2) nd rfl (Or.inl rfl) (yh ze))
 (zk (zz (i:=3) nd rfl (Or.inl rfl) zq)
 (zk (vS PassesOwn.never (yu vn (pv 3) (zV yn rfl T.n_len z9 (zc (pv 0) ze)) (nomark _))
  (zk (zz (i:=4) nd rfl (Or.inl rfl) (zF zG (pv 0) (pv 3) (λ_ _=>rfl)))
  (zk (zz (i:=5) nd rfl (Or.inl rfl) (z8 xE (z8 xE (pv 3) zq) (YT hu (xa (v:=.ref d.o_NUMBERS_OF) rfl T.m_NUMBERS_OF rfl) (pv 4) (λ_ _=>rfl))))
  (zk (zz (i:=6) nd rfl (Or.inl rfl) (ur uk (pv 0) (vi (z8 xE (pv 3) zq)) (vi (pv 5))))
  (zk (zz (i:=7) nd rfl (Or.inl rfl) (yh ze))
  (zk (yq (yu ku (pv 4) (xa (v:=.ref d.o_WITH_ROW) rfl T.m_WITH_ROW rfl) rfl)
   (zk (zz (i:=9) nd rfl (Or.inl rfl) (z8 xE (pv 5) zq))
   (zk (zz (i:=5) nd rfl (Or.inl rfl) (z8 xE (pv 9) (zF zG (pv 0) (z8 kt (pv 9) zq) (λ_ _=>rfl))))
   (zo (zz (i:=7) nd rfl (Or.inl rfl) (ur uk (pv 0) (vi (pv 9)) (vi (pv 5)))))))
   yx)
  (zk (zz (i:=8) nd rfl (Or.inl rfl) (zC (zdf T U) (hr.mono (by decide)) rfl T.m_answer T.F_answer.kp (zfR T) .nil pass0 (zc (pv 1) (zc (pv 4) (zc (pv 6) (zc (pv 7) ze))))))
  (zk (yG (wm PySem.F.plainAttrs_list PySem.F.slot_list_append PySem.F.type_list_append kG (pv 2) (zc (zV yn rfl T.n_len z9 (zc (pv 8) ze)) ze)))
  (zk (yG (wm PySem.F.plainAttrs_list PySem.F.slot_list_extend PySem.F.type_list_extend zdu (pv 2) (zc (pv 8) ze)))
  (zo (zz (i:=3) nd rfl (Or.inl rfl) (pv 5))))))))))))
 (zo (zL (pv 2))))))),zb8 U h⟩
end Gd
end
section
set_option Elab.async false
set_option autoImplicit false
set_option linter.all false
set_option maxRecDepth 100000
set_option maxHeartbeats 2000000
namespace Gd
open PySem PyProof.Rows L2 GP
inductive jU:List DictEntry->List (Key×V)->Prop
 |nil:jU [] []
 |cons {hs i:Int} {t:Tok} {v:V} {u:Value} {es:List DictEntry} {kvs:List (Key×V)}:hs=PySem.hashInt i->zr v u->jU es kvs->jU (⟨hs,.int i t,u⟩::es) ((.inl i,v)::kvs)
theorem zeM{P:Program}{w:World}{es:List DictEntry}{kvs:List (Key×V)}(h:jU es kvs):∃vs:List (Key×Value),KV kvs vs/\(∀e∈es,∃k,(yI P w).is k e.key=true/\e.hash=(yI P w).hash k)/\Pairs (yI P w) es vs:=by
 induction h with
 |nil=>exact⟨[],.nil,(by intro e h;cases h),.nil⟩
 |@cons hs i t v u es kvs e r _ ih=>
  obtain⟨vs,h1,h2,h3⟩:=ih
  refine⟨(.inl i,u)::vs,.cons ⟨rfl,r⟩ h1,λx hx=>?_,.cons (Xd P w i t) rfl h3⟩
  cases hx with
  |head=>exact⟨.inl i,Xd P w i t,e⟩
  |tail _ hx=>exact h2 x hx
theorem Xq{K:PySem.W.Frag}{a:Addr}{es:Array DictEntry}{n:Nat}{kvs:List (Key×V)}(hl:K.lookup a=some ⟨.type "dict",none,.dict es n,#[]⟩)(ha:(a == sysModules)=false)(hE:jU es.toList kvs)(nd:(kvs.map (·.1)).Nodup):KDict K a kvs:=by
 refine⟨ha,λP w h X=>?_⟩
 obtain⟨vs,h1,h2,h3⟩:=zeM (P:=P) (w:=w) hE
 refine⟨vs,h1,_,es,n,X a _ hl,⟨rfl,rfl,rfl⟩,rfl,λe he=>h2 e (by simpa using he),h3,?_⟩
 have e:vs.map (·.1)=kvs.map (·.1):=by
  clear h2 h3 hE nd
  induction h1 with
  |nil=>rfl
  |cons r _ ih=>rw[List.map_cons,List.map_cons,ih,r.1]
 rw[e];exact nd
def qJ(K:PySem.W.Frag):Sp:=λvs H Q E=>∀d,ZS K d vs H Q E
theorem zgc{P:Program}{w:World}{K:PySem.W.Frag}{h:Heap}{mg:Str->Option Value}{fa C_Level C_MovableChain a_none_row a_is_permutation a_then a_inverse a_is_even a_Level_init a_Level_fill a_Level_take_maker a_Level_note_maker a_Level_join_kin a_Level_reach a_Level_keep a_Level_untried a_Level_skip_untried a_Level_most_members a_new_levels a_levels_of a_count_members a_is_member a_makers_of a_orbit_of a_extend a_first_stranger a_MovableChain_init a_MovableChain_move_up a_MovableChain_swap a_leaving_lower a_taking_lower a_levels_leaving a_first_after a_is_inside a_joined a_member_at a_place_of a_two_words a_are_points a_yes_or_no a_answer_new a_answer_fix a_answer_inside a_answer_join a_answer_add a_answer_order a_answer_has a_answer_at a_answer_rank a_answer_first a_answer_orbit a_answer_ways a_answer_commutes a_answer_even a_answer a_answers o_NUMBERS_OF o_WITH_ROW o_WITH_POINTS o_ANSWERS_OF_HELD o_ANSWERS_OF_ONE:Addr}{t_MOST_POINTS t_WORD t_OUT_OF_RANGE t_NOT_THERE t_NOT_AS_MANY_POINTS:Tok}(X:K.In h)(G:h.Ns mainGlobals mg)(hfa:mg "answers"=some (.ref fa))
  (n_Level:PySem.W.nsIn K mainGlobals "Level"=some (some (.ref C_Level)))
  (n_MovableChain:PySem.W.nsIn K mainGlobals "MovableChain"=some (some (.ref C_MovableChain)))
  (n_none_row:PySem.W.nsIn K mainGlobals "none_row"=some (some (.ref a_none_row)))
  (n_is_permutation:PySem.W.nsIn K mainGlobals "is_permutation"=some (some (.ref a_is_permutation)))
  (n_then:PySem.W.nsIn K mainGlobals "then"=some (some (.ref a_then)))
  (n_inverse:PySem.W.nsIn K mainGlobals "inverse"=some (some (.ref a_inverse)))
  (n_is_even:PySem.W.nsIn K mainGlobals "is_even"=some (some (.ref a_is_even)))
  (n_Level_init:PySem.W.findIn K (.ref C_Level) "__init__"=some (some (.ref a_Level_init)))
  (n_Level_fill:PySem.W.findIn K (.ref C_Level) "fill"=some (some (.ref a_Level_fill)))
  (n_Level_take_maker:PySem.W.findIn K (.ref C_Level) "take_maker"=some (some (.ref a_Level_take_maker)))
  (n_Level_note_maker:PySem.W.findIn K (.ref C_Level) "note_maker"=some (some (.ref a_Level_note_maker)))
  (n_Level_join_kin:PySem.W.findIn K (.ref C_Level) "join_kin"=some (some (.ref a_Level_join_kin)))
  (n_Level_reach:PySem.W.findIn K (.ref C_Level) "reach"=some (some (.ref a_Level_reach)))
  (n_Level_keep:PySem.W.findIn K (.ref C_Level) "keep"=some (some (.ref a_Level_keep)))
  (n_Level_untried:PySem.W.findIn K (.ref C_Level) "untried"=some (some (.ref a_Level_untried)))
  (n_Level_skip_untried:PySem.W.findIn K (.ref C_Level) "skip_untried"=some (some (.ref a_Level_skip_untried)))
  (n_Level_most_members:PySem.W.findIn K (.ref C_Level) "most_members"=some (some (.ref a_Level_most_members)))
  (n_new_levels:PySem.W.nsIn K mainGlobals "new_levels"=some (some (.ref a_new_levels)))
  (n_levels_of:PySem.W.nsIn K mainGlobals "levels_of"=some (some (.ref a_levels_of)))
  (n_count_members:PySem.W.nsIn K mainGlobals "count_members"=some (some (.ref a_count_members)))
  (n_is_member:PySem.W.nsIn K mainGlobals "is_member"=some (some (.ref a_is_member)))
  (n_makers_of:PySem.W.nsIn K mainGlobals "makers_of"=some (some (.ref a_makers_of)))
  (n_orbit_of:PySem.W.nsIn K mainGlobals "orbit_of"=some (some (.ref a_orbit_of)))
  (n_extend:PySem.W.nsIn K mainGlobals "extend"=some (some (.ref a_extend)))
  (n_first_stranger:PySem.W.nsIn K mainGlobals "first_stranger"=some (some (.ref a_first_stranger)))
  (n_MovableChain_init:PySem.W.findIn K (.ref C_MovableChain) "__init__"=some (some (.ref a_MovableChain_init)))
  (n_MovableChain_move_up:PySem.W.findIn K (.ref C_MovableChain) "move_up"=some (some (.ref a_MovableChain_move_up)))
  (n_MovableChain_swap:PySem.W.findIn K (.ref C_MovableChain) "swap"=some (some (.ref a_MovableChain_swap)))
  (n_leaving_lower:PySem.W.nsIn K mainGlobals "leaving_lower"=some (some (.ref a_leaving_lower)))
  (n_taking_lower:PySem.W.nsIn K mainGlobals "taking_lower"=some (some (.ref a_taking_lower)))
  (n_levels_leaving:PySem.W.nsIn K mainGlobals "levels_leaving"=some (some (.ref a_levels_leaving)))
  (n_first_after:PySem.W.nsIn K mainGlobals "first_after"=some (some (.ref a_first_after)))
  (n_is_inside:PySem.W.nsIn K mainGlobals "is_inside"=some (some (.ref a_is_inside)))
  (n_joined:PySem.W.nsIn K mainGlobals "joined"=some (some (.ref a_joined)))
  (n_member_at:PySem.W.nsIn K mainGlobals "member_at"=some (some (.ref a_member_at)))
  (n_place_of:PySem.W.nsIn K mainGlobals "place_of"=some (some (.ref a_place_of)))
  (n_two_words:PySem.W.nsIn K mainGlobals "two_words"=some (some (.ref a_two_words)))
  (n_are_points:PySem.W.nsIn K mainGlobals "are_points"=some (some (.ref a_are_points)))
  (n_yes_or_no:PySem.W.nsIn K mainGlobals "yes_or_no"=some (some (.ref a_yes_or_no)))
  (n_answer_new:PySem.W.nsIn K mainGlobals "answer_new"=some (some (.ref a_answer_new)))
  (n_answer_fix:PySem.W.nsIn K mainGlobals "answer_fix"=some (some (.ref a_answer_fix)))
  (n_answer_inside:PySem.W.nsIn K mainGlobals "answer_inside"=some (some (.ref a_answer_inside)))
  (n_answer_join:PySem.W.nsIn K mainGlobals "answer_join"=some (some (.ref a_answer_join)))
  (n_answer_add:PySem.W.nsIn K mainGlobals "answer_add"=some (some (.ref a_answer_add)))
  (n_answer_order:PySem.W.nsIn K mainGlobals "answer_order"=some (some (.ref a_answer_order)))
  (n_answer_has:PySem.W.nsIn K mainGlobals "answer_has"=some (some (.ref a_answer_has)))
  (n_answer_at:PySem.W.nsIn K mainGlobals "answer_at"=some (some (.ref a_answer_at)))
  (n_answer_rank:PySem.W.nsIn K mainGlobals "answer_rank"=some (some (.ref a_answer_rank)))
  (n_answer_first:PySem.W.nsIn K mainGlobals "answer_first"=some (some (.ref a_answer_first)))
  (n_answer_orbit:PySem.W.nsIn K mainGlobals "answer_orbit"=some (some (.ref a_answer_orbit)))
  (n_answer_ways:PySem.W.nsIn K mainGlobals "answer_ways"=some (some (.ref a_answer_ways)))
  (n_answer_commutes:PySem.W.nsIn K mainGlobals "answer_commutes"=some (some (.ref a_answer_commutes)))
  (n_answer_even:PySem.W.nsIn K mainGlobals "answer_even"=some (some (.ref a_answer_even)))
  (n_answer:PySem.W.nsIn K mainGlobals "answer"=some (some (.ref a_answer)))
  (n_answers:PySem.W.nsIn K mainGlobals "answers"=some (some (.ref a_answers)))
  (F_none_row:∃f,Fun K "none_row" "none_row" Z2 a_none_row f)
  (F_is_permutation:∃f,Fun K "is_permutation" "is_permutation" Z7 a_is_permutation f)
  (F_then:∃f,Fun K "then" "then" qL a_then f)
  (F_inverse:∃f,Fun K "inverse" "inverse" Ya a_inverse f)
  (F_is_even:∃f,Fun K "is_even" "is_even" Z9 a_is_even f)
  (F_Level_init:∃f,Fun K "__init__" "Level.__init__" YB a_Level_init f)
  (i_Level_init:PySem.W.isFn K (.ref a_Level_init)=true)
  (F_Level_fill:∃f,Fun K "fill" "Level.fill" YC a_Level_fill f)
  (i_Level_fill:PySem.W.isFn K (.ref a_Level_fill)=true)
  (F_Level_take_maker:∃f,Fun K "take_maker" "Level.take_maker" Yv a_Level_take_maker f)
  (i_Level_take_maker:PySem.W.isFn K (.ref a_Level_take_maker)=true)
  (F_Level_note_maker:∃f,Fun K "note_maker" "Level.note_maker" Yy a_Level_note_maker f)
  (i_Level_note_maker:PySem.W.isFn K (.ref a_Level_note_maker)=true)
  (F_Level_join_kin:∃f,Fun K "join_kin" "Level.join_kin" qW a_Level_join_kin f)
  (i_Level_join_kin:PySem.W.isFn K (.ref a_Level_join_kin)=true)
  (F_Level_reach:∃f,Fun K "reach" "Level.reach" Yx a_Level_reach f)
  (i_Level_reach:PySem.W.isFn K (.ref a_Level_reach)=true)
  (F_Level_keep:∃f,Fun K "keep" "Level.keep" YA a_Level_keep f)
  (i_Level_keep:PySem.W.isFn K (.ref a_Level_keep)=true)
  (F_Level_untried:∃f,Fun K "untried" "Level.untried" Yu a_Level_untried f)
  (i_Level_untried:PySem.W.isFn K (.ref a_Level_untried)=true)
  (F_Level_skip_untried:∃f,Fun K "skip_untried" "Level.skip_untried" Yw a_Level_skip_untried f)
  (i_Level_skip_untried:PySem.W.isFn K (.ref a_Level_skip_untried)=true)
  (F_Level_most_members:∃f,Fun K "most_members" "Level.most_members" Yz a_Level_most_members f)
  (i_Level_most_members:PySem.W.isFn K (.ref a_Level_most_members)=true)
  (F_new_levels:∃f,Fun K "new_levels" "new_levels" qO a_new_levels f)
  (F_levels_of:∃f,Fun K "levels_of" "levels_of" Z4 a_levels_of f)
  (F_count_members:∃f,Fun K "count_members" "count_members" Yd a_count_members f)
  (F_is_member:∃f,Fun K "is_member" "is_member" Z8 a_is_member f)
  (F_makers_of:∃f,Fun K "makers_of" "makers_of" Z3 a_makers_of f)
  (F_orbit_of:∃f,Fun K "orbit_of" "orbit_of" qN a_orbit_of f)
  (F_extend:∃f,Fun K "extend" "extend" Yc a_extend f)
  (F_first_stranger:∃f,Fun K "first_stranger" "first_stranger" Yb a_first_stranger f)
  (F_MovableChain_init:∃f,Fun K "__init__" "MovableChain.__init__" jj a_MovableChain_init f)
  (i_MovableChain_init:PySem.W.isFn K (.ref a_MovableChain_init)=true)
  (F_MovableChain_move_up:∃f,Fun K "move_up" "MovableChain.move_up" Yt a_MovableChain_move_up f)
  (i_MovableChain_move_up:PySem.W.isFn K (.ref a_MovableChain_move_up)=true)
  (F_MovableChain_swap:∃f,Fun K "swap" "MovableChain.swap" Ys a_MovableChain_swap f)
  (i_MovableChain_swap:PySem.W.isFn K (.ref a_MovableChain_swap)=true)
  (F_leaving_lower:∃f,Fun K "leaving_lower" "leaving_lower" Z6 a_leaving_lower f)
  (F_taking_lower:∃f,Fun K "taking_lower" "taking_lower" Z1 a_taking_lower f)
  (F_levels_leaving:∃f,Fun K "levels_leaving" "levels_leaving" Z5 a_levels_leaving f)
  (F_first_after:∃f,Fun K "first_after" "first_after" qS a_first_after f)
  (F_is_inside:∃f,Fun K "is_inside" "is_inside" qR a_is_inside f)
  (F_joined:∃f,Fun K "joined" "joined" qQ a_joined f)
  (F_member_at:∃f,Fun K "member_at" "member_at" qP a_member_at f)
  (F_place_of:∃f,Fun K "place_of" "place_of" qM a_place_of f)
  (F_two_words:∃f,Fun K "two_words" "two_words" Z0 a_two_words f)
  (F_are_points:∃f,Fun K "are_points" "are_points" qT a_are_points f)
  (F_yes_or_no:∃f,Fun K "yes_or_no" "yes_or_no" ZZ a_yes_or_no f)
  (F_answer_new:∃f,Fun K "answer_new" "answer_new" Yj a_answer_new f)
  (F_answer_fix:∃f,Fun K "answer_fix" "answer_fix" Yn a_answer_fix f)
  (F_answer_inside:∃f,Fun K "answer_inside" "answer_inside" Yl a_answer_inside f)
  (F_answer_join:∃f,Fun K "answer_join" "answer_join" Yk a_answer_join f)
  (F_answer_add:∃f,Fun K "answer_add" "answer_add" Yq a_answer_add f)
  (F_answer_order:∃f,Fun K "answer_order" "answer_order" Yh a_answer_order f)
  (F_answer_has:∃f,Fun K "answer_has" "answer_has" Ym a_answer_has f)
  (F_answer_at:∃f,Fun K "answer_at" "answer_at" Yp a_answer_at f)
  (F_answer_rank:∃f,Fun K "answer_rank" "answer_rank" Yg a_answer_rank f)
  (F_answer_first:∃f,Fun K "answer_first" "answer_first" Yo a_answer_first f)
  (F_answer_orbit:∃f,Fun K "answer_orbit" "answer_orbit" Yi a_answer_orbit f)
  (F_answer_ways:∃f,Fun K "answer_ways" "answer_ways" Yf a_answer_ways f)
  (F_answer_commutes:∃f,Fun K "answer_commutes" "answer_commutes" qV a_answer_commutes f)
  (F_answer_even:∃f,Fun K "answer_even" "answer_even" qU a_answer_even f)
  (F_answer:∃f,Fun K "answer" "answer" Yr a_answer f)
  (F_answers:∃f,Fun K "answers" "answers" Ye a_answers f)
  (c_Level:Cls K C_Level)
  (mk_Level:PySem.W.makesIn K C_Level=true)
  (kc_Level:PySem.W.keepIn K (.ref C_Level)=true)
  (x_Level_point:PySem.W.findIn K (.ref C_Level) "point"=some none)
  (x_Level_reached:PySem.W.findIn K (.ref C_Level) "reached"=some none)
  (x_Level_out:PySem.W.findIn K (.ref C_Level) "out"=some none)
  (x_Level_back:PySem.W.findIn K (.ref C_Level) "back"=some none)
  (x_Level_makers:PySem.W.findIn K (.ref C_Level) "makers"=some none)
  (x_Level_done:PySem.W.findIn K (.ref C_Level) "done"=some none)
  (x_Level_kin:PySem.W.findIn K (.ref C_Level) "kin"=some none)
  (x_Level_all_even:PySem.W.findIn K (.ref C_Level) "all_even"=some none)
  (c_MovableChain:Cls K C_MovableChain)
  (mk_MovableChain:PySem.W.makesIn K C_MovableChain=true)
  (kc_MovableChain:PySem.W.keepIn K (.ref C_MovableChain)=true)
  (x_MovableChain_base:PySem.W.findIn K (.ref C_MovableChain) "base"=some none)
  (x_MovableChain_outs:PySem.W.findIn K (.ref C_MovableChain) "outs"=some none)
  (n_MOST_POINTS:PySem.W.nsIn K mainGlobals "MOST_POINTS"=some (some (.int (34) t_MOST_POINTS)))
  (n_WORD:PySem.W.nsIn K mainGlobals "WORD"=some (some (.int (18446744073709551616) t_WORD)))
  (n_OUT_OF_RANGE:PySem.W.nsIn K mainGlobals "OUT_OF_RANGE"=some (some (.int (-2) t_OUT_OF_RANGE)))
  (n_NOT_THERE:PySem.W.nsIn K mainGlobals "NOT_THERE"=some (some (.int (-1) t_NOT_THERE)))
  (n_NOT_AS_MANY_POINTS:PySem.W.nsIn K mainGlobals "NOT_AS_MANY_POINTS"=some (some (.int (-1) t_NOT_AS_MANY_POINTS)))
  (n_NUMBERS_OF:PySem.W.nsIn K mainGlobals "NUMBERS_OF"=some (some (.ref o_NUMBERS_OF)))
  (n_WITH_ROW:PySem.W.nsIn K mainGlobals "WITH_ROW"=some (some (.ref o_WITH_ROW)))
  (n_WITH_POINTS:PySem.W.nsIn K mainGlobals "WITH_POINTS"=some (some (.ref o_WITH_POINTS)))
  (n_ANSWERS_OF_HELD:PySem.W.nsIn K mainGlobals "ANSWERS_OF_HELD"=some (some (.ref o_ANSWERS_OF_HELD)))
  (n_ANSWERS_OF_ONE:PySem.W.nsIn K mainGlobals "ANSWERS_OF_ONE"=some (some (.ref o_ANSWERS_OF_ONE)))
  (n_all:PySem.W.nsIn K mainGlobals "all"=some none)
  (n_dict:PySem.W.nsIn K mainGlobals "dict"=some none)
  (n_enumerate:PySem.W.nsIn K mainGlobals "enumerate"=some none)
  (n_len:PySem.W.nsIn K mainGlobals "len"=some none)
  (n_list:PySem.W.nsIn K mainGlobals "list"=some none)
  (n_min:PySem.W.nsIn K mainGlobals "min"=some none)
  (n_range:PySem.W.nsIn K mainGlobals "range"=some none)
  (n_sorted:PySem.W.nsIn K mainGlobals "sorted"=some none)
  (d_NUMBERS_OF:KDict K o_NUMBERS_OF [(.inl 1,.int 2),(.inl 2,.int 1),(.inl 3,.int 1),(.inl 4,.int 1),(.inl 5,.int 3),(.inl 6,.int 1),(.inl 7,.int 1),(.inl 8,.int 2),(.inl 9,.int 3),(.inl 10,.int 2),(.inl 11,.int 2),(.inl 12,.int 2),(.inl 13,.int 1),(.inl 14,.int 1)])
  (d_ANSWERS_OF_HELD:KDict K o_ANSWERS_OF_HELD [(.inl 1,.ref a_answer_new),(.inl 10,.ref a_answer_fix),(.inl 11,.ref a_answer_inside),(.inl 12,.ref a_answer_join)])
  (d_ANSWERS_OF_ONE:KDict K o_ANSWERS_OF_ONE [(.inl 2,.ref a_answer_add),(.inl 3,.ref a_answer_order),(.inl 4,.ref a_answer_has),(.inl 5,.ref a_answer_at),(.inl 6,.ref a_answer_rank),(.inl 7,.ref a_answer_first),(.inl 8,.ref a_answer_orbit),(.inl 9,.ref a_answer_ways),(.inl 13,.ref a_answer_commutes),(.inl 14,.ref a_answer_even)])
  (d_WITH_ROW:∀H,SqT K H o_WITH_ROW [.int 2,.int 4,.int 6,.int 7,.int 13])
  (d_WITH_POINTS:∀H,SqT K H o_WITH_POINTS [.int 8,.int 9,.int 10])
  : ∃fd:FuncData,(∀(s:Shared)(us:List Value),us.length=(["calls"]:List Str).length->BindsTo s fd ⟨us,[]⟩ ((["calls"]:List Str).zip us))/\∀base:Heap,K.In base->base.Ns mainGlobals mg->zB P w K mg base CX0 10 fa fd ["calls"] (qJ K):=by
 cases hfa.symm.trans (PySem.W.mg_of X G n_answers)
 obtain⟨f_none_row,F_none_row⟩:=F_none_row
 obtain⟨f_is_permutation,F_is_permutation⟩:=F_is_permutation
 obtain⟨f_then,F_then⟩:=F_then
 obtain⟨f_inverse,F_inverse⟩:=F_inverse
 obtain⟨f_is_even,F_is_even⟩:=F_is_even
 obtain⟨f_Level_init,F_Level_init⟩:=F_Level_init
 obtain⟨f_Level_fill,F_Level_fill⟩:=F_Level_fill
 obtain⟨f_Level_take_maker,F_Level_take_maker⟩:=F_Level_take_maker
 obtain⟨f_Level_note_maker,F_Level_note_maker⟩:=F_Level_note_maker
 obtain⟨f_Level_join_kin,F_Level_join_kin⟩:=F_Level_join_kin
 obtain⟨f_Level_reach,F_Level_reach⟩:=F_Level_reach
 obtain⟨f_Level_keep,F_Level_keep⟩:=F_Level_keep
 obtain⟨f_Level_untried,F_Level_untried⟩:=F_Level_untried
 obtain⟨f_Level_skip_untried,F_Level_skip_untried⟩:=F_Level_skip_untried
 obtain⟨f_Level_most_members,F_Level_most_members⟩:=F_Level_most_members
 obtain⟨f_new_levels,F_new_levels⟩:=F_new_levels
 obtain⟨f_levels_of,F_levels_of⟩:=F_levels_of
 obtain⟨f_count_members,F_count_members⟩:=F_count_members
 obtain⟨f_is_member,F_is_member⟩:=F_is_member
 obtain⟨f_makers_of,F_makers_of⟩:=F_makers_of
 obtain⟨f_orbit_of,F_orbit_of⟩:=F_orbit_of
 obtain⟨f_extend,F_extend⟩:=F_extend
 obtain⟨f_first_stranger,F_first_stranger⟩:=F_first_stranger
 obtain⟨f_MovableChain_init,F_MovableChain_init⟩:=F_MovableChain_init
 obtain⟨f_MovableChain_move_up,F_MovableChain_move_up⟩:=F_MovableChain_move_up
 obtain⟨f_MovableChain_swap,F_MovableChain_swap⟩:=F_MovableChain_swap
 obtain⟨f_leaving_lower,F_leaving_lower⟩:=F_leaving_lower
 obtain⟨f_taking_lower,F_taking_lower⟩:=F_taking_lower
 obtain⟨f_levels_leaving,F_levels_leaving⟩:=F_levels_leaving
 obtain⟨f_first_after,F_first_after⟩:=F_first_after
 obtain⟨f_is_inside,F_is_inside⟩:=F_is_inside
 obtain⟨f_joined,F_joined⟩:=F_joined
 obtain⟨f_member_at,F_member_at⟩:=F_member_at
 obtain⟨f_place_of,F_place_of⟩:=F_place_of
 obtain⟨f_two_words,F_two_words⟩:=F_two_words
 obtain⟨f_are_points,F_are_points⟩:=F_are_points
 obtain⟨f_yes_or_no,F_yes_or_no⟩:=F_yes_or_no
 obtain⟨f_answer_new,F_answer_new⟩:=F_answer_new
 obtain⟨f_answer_fix,F_answer_fix⟩:=F_answer_fix
 obtain⟨f_answer_inside,F_answer_inside⟩:=F_answer_inside
 obtain⟨f_answer_join,F_answer_join⟩:=F_answer_join
 obtain⟨f_answer_add,F_answer_add⟩:=F_answer_add
 obtain⟨f_answer_order,F_answer_order⟩:=F_answer_order
 obtain⟨f_answer_has,F_answer_has⟩:=F_answer_has
 obtain⟨f_answer_at,F_answer_at⟩:=F_answer_at
 obtain⟨f_answer_rank,F_answer_rank⟩:=F_answer_rank
 obtain⟨f_answer_first,F_answer_first⟩:=F_answer_first
 obtain⟨f_answer_orbit,F_answer_orbit⟩:=F_answer_orbit
 obtain⟨f_answer_ways,F_answer_ways⟩:=F_answer_ways
 obtain⟨f_answer_commutes,F_answer_commutes⟩:=F_answer_commutes
 obtain⟨f_answer_even,F_answer_even⟩:=F_answer_even
 obtain⟨f_answer,F_answer⟩:=F_answer
 obtain⟨f_answers,F_answers⟩:=F_answers
 let d:Ad:={ C_Level:=C_Level,C_MovableChain:=C_MovableChain,a_none_row:=a_none_row,f_none_row:=f_none_row,a_is_permutation:=a_is_permutation,f_is_permutation:=f_is_permutation,a_then:=a_then,f_then:=f_then,a_inverse:=a_inverse,f_inverse:=f_inverse,a_is_even:=a_is_even,f_is_even:=f_is_even,a_Level_init:=a_Level_init,f_Level_init:=f_Level_init,a_Level_fill:=a_Level_fill,f_Level_fill:=f_Level_fill,a_Level_take_maker:=a_Level_take_maker,f_Level_take_maker:=f_Level_take_maker,a_Level_note_maker:=a_Level_note_maker,f_Level_note_maker:=f_Level_note_maker,a_Level_join_kin:=a_Level_join_kin,f_Level_join_kin:=f_Level_join_kin,a_Level_reach:=a_Level_reach,f_Level_reach:=f_Level_reach,a_Level_keep:=a_Level_keep,f_Level_keep:=f_Level_keep,a_Level_untried:=a_Level_untried,f_Level_untried:=f_Level_untried,a_Level_skip_untried:=a_Level_skip_untried,f_Level_skip_untried:=f_Level_skip_untried,a_Level_most_members:=a_Level_most_members,f_Level_most_members:=f_Level_most_members,a_new_levels:=a_new_levels,f_new_levels:=f_new_levels,a_levels_of:=a_levels_of,f_levels_of:=f_levels_of,a_count_members:=a_count_members,f_count_members:=f_count_members,a_is_member:=a_is_member,f_is_member:=f_is_member,a_makers_of:=a_makers_of,f_makers_of:=f_makers_of,a_orbit_of:=a_orbit_of,f_orbit_of:=f_orbit_of,a_extend:=a_extend,f_extend:=f_extend,a_first_stranger:=a_first_stranger,f_first_stranger:=f_first_stranger,a_MovableChain_init:=a_MovableChain_init,f_MovableChain_init:=f_MovableChain_init,a_MovableChain_move_up:=a_MovableChain_move_up,f_MovableChain_move_up:=f_MovableChain_move_up,a_MovableChain_swap:=a_MovableChain_swap,f_MovableChain_swap:=f_MovableChain_swap,a_leaving_lower:=a_leaving_lower,f_leaving_lower:=f_leaving_lower,a_taking_lower:=a_taking_lower,f_taking_lower:=f_taking_lower,a_levels_leaving:=a_levels_leaving,f_levels_leaving:=f_levels_leaving,a_first_after:=a_first_after,f_first_after:=f_first_after,a_is_inside:=a_is_inside,f_is_inside:=f_is_inside,a_joined:=a_joined,f_joined:=f_joined,a_member_at:=a_member_at,f_member_at:=f_member_at,a_place_of:=a_place_of,f_place_of:=f_place_of,a_two_words:=a_two_words,f_two_words:=f_two_words,a_are_points:=a_are_points,f_are_points:=f_are_points,a_yes_or_no:=a_yes_or_no,f_yes_or_no:=f_yes_or_no,a_answer_new:=a_answer_new,f_answer_new:=f_answer_new,a_answer_fix:=a_answer_fix,f_answer_fix:=f_answer_fix,a_answer_inside:=a_answer_inside,f_answer_inside:=f_answer_inside,a_answer_join:=a_answer_join,f_answer_join:=f_answer_join,a_answer_add:=a_answer_add,f_answer_add:=f_answer_add,a_answer_order:=a_answer_order,f_answer_order:=f_answer_order,a_answer_has:=a_answer_has,f_answer_has:=f_answer_has,a_answer_at:=a_answer_at,f_answer_at:=f_answer_at,a_answer_rank:=a_answer_rank,f_answer_rank:=f_answer_rank,a_answer_first:=a_answer_first,f_answer_first:=f_answer_first,a_answer_orbit:=a_answer_orbit,f_answer_orbit:=f_answer_orbit,a_answer_ways:=a_answer_ways,f_answer_ways:=f_answer_ways,a_answer_commutes:=a_answer_commutes,f_answer_commutes:=f_answer_commutes,a_answer_even:=a_answer_even,f_answer_even:=f_answer_even,a_answer:=a_answer,f_answer:=f_answer,a_answers:=fa,f_answers:=f_answers,t_MOST_POINTS:=t_MOST_POINTS,t_WORD:=t_WORD,t_OUT_OF_RANGE:=t_OUT_OF_RANGE,t_NOT_THERE:=t_NOT_THERE,t_NOT_AS_MANY_POINTS:=t_NOT_AS_MANY_POINTS,o_NUMBERS_OF:=o_NUMBERS_OF,o_WITH_ROW:=o_WITH_ROW,o_WITH_POINTS:=o_WITH_POINTS,o_ANSWERS_OF_HELD:=o_ANSWERS_OF_HELD,o_ANSWERS_OF_ONE:=o_ANSWERS_OF_ONE }
 have T:Txt K mg d:={ c_Level:=c_Level,m_Level:=PySem.W.mg_of X G n_Level,k_Level:=⟨mk_Level,n_Level_init,i_Level_init,kc_Level⟩,n_Level_point:=x_Level_point,n_Level_reached:=x_Level_reached,n_Level_out:=x_Level_out,n_Level_back:=x_Level_back,n_Level_makers:=x_Level_makers,n_Level_done:=x_Level_done,n_Level_kin:=x_Level_kin,n_Level_all_even:=x_Level_all_even,c_MovableChain:=c_MovableChain,m_MovableChain:=PySem.W.mg_of X G n_MovableChain,k_MovableChain:=⟨mk_MovableChain,n_MovableChain_init,i_MovableChain_init,kc_MovableChain⟩,n_MovableChain_base:=x_MovableChain_base,n_MovableChain_outs:=x_MovableChain_outs,F_none_row:=F_none_row,m_none_row:=PySem.W.mg_of X G n_none_row,F_is_permutation:=F_is_permutation,m_is_permutation:=PySem.W.mg_of X G n_is_permutation,F_then:=F_then,m_then:=PySem.W.mg_of X G n_then,F_inverse:=F_inverse,m_inverse:=PySem.W.mg_of X G n_inverse,F_is_even:=F_is_even,m_is_even:=PySem.W.mg_of X G n_is_even,F_Level_init:=F_Level_init,F_Level_fill:=F_Level_fill,me_Level_fill:=⟨n_Level_fill,i_Level_fill,F_Level_fill.kp⟩,F_Level_take_maker:=F_Level_take_maker,me_Level_take_maker:=⟨n_Level_take_maker,i_Level_take_maker,F_Level_take_maker.kp⟩,F_Level_note_maker:=F_Level_note_maker,me_Level_note_maker:=⟨n_Level_note_maker,i_Level_note_maker,F_Level_note_maker.kp⟩,F_Level_join_kin:=F_Level_join_kin,me_Level_join_kin:=⟨n_Level_join_kin,i_Level_join_kin,F_Level_join_kin.kp⟩,F_Level_reach:=F_Level_reach,me_Level_reach:=⟨n_Level_reach,i_Level_reach,F_Level_reach.kp⟩,F_Level_keep:=F_Level_keep,me_Level_keep:=⟨n_Level_keep,i_Level_keep,F_Level_keep.kp⟩,F_Level_untried:=F_Level_untried,me_Level_untried:=⟨n_Level_untried,i_Level_untried,F_Level_untried.kp⟩,F_Level_skip_untried:=F_Level_skip_untried,me_Level_skip_untried:=⟨n_Level_skip_untried,i_Level_skip_untried,F_Level_skip_untried.kp⟩,F_Level_most_members:=F_Level_most_members,me_Level_most_members:=⟨n_Level_most_members,i_Level_most_members,F_Level_most_members.kp⟩,F_new_levels:=F_new_levels,m_new_levels:=PySem.W.mg_of X G n_new_levels,F_levels_of:=F_levels_of,m_levels_of:=PySem.W.mg_of X G n_levels_of,F_count_members:=F_count_members,m_count_members:=PySem.W.mg_of X G n_count_members,F_is_member:=F_is_member,m_is_member:=PySem.W.mg_of X G n_is_member,F_makers_of:=F_makers_of,m_makers_of:=PySem.W.mg_of X G n_makers_of,F_orbit_of:=F_orbit_of,m_orbit_of:=PySem.W.mg_of X G n_orbit_of,F_extend:=F_extend,m_extend:=PySem.W.mg_of X G n_extend,F_first_stranger:=F_first_stranger,m_first_stranger:=PySem.W.mg_of X G n_first_stranger,F_MovableChain_init:=F_MovableChain_init,F_MovableChain_move_up:=F_MovableChain_move_up,me_MovableChain_move_up:=⟨n_MovableChain_move_up,i_MovableChain_move_up,F_MovableChain_move_up.kp⟩,F_MovableChain_swap:=F_MovableChain_swap,me_MovableChain_swap:=⟨n_MovableChain_swap,i_MovableChain_swap,F_MovableChain_swap.kp⟩,F_leaving_lower:=F_leaving_lower,m_leaving_lower:=PySem.W.mg_of X G n_leaving_lower,F_taking_lower:=F_taking_lower,m_taking_lower:=PySem.W.mg_of X G n_taking_lower,F_levels_leaving:=F_levels_leaving,m_levels_leaving:=PySem.W.mg_of X G n_levels_leaving,F_first_after:=F_first_after,m_first_after:=PySem.W.mg_of X G n_first_after,F_is_inside:=F_is_inside,m_is_inside:=PySem.W.mg_of X G n_is_inside,F_joined:=F_joined,m_joined:=PySem.W.mg_of X G n_joined,F_member_at:=F_member_at,m_member_at:=PySem.W.mg_of X G n_member_at,F_place_of:=F_place_of,m_place_of:=PySem.W.mg_of X G n_place_of,F_two_words:=F_two_words,m_two_words:=PySem.W.mg_of X G n_two_words,F_are_points:=F_are_points,m_are_points:=PySem.W.mg_of X G n_are_points,F_yes_or_no:=F_yes_or_no,m_yes_or_no:=PySem.W.mg_of X G n_yes_or_no,F_answer_new:=F_answer_new,m_answer_new:=PySem.W.mg_of X G n_answer_new,F_answer_fix:=F_answer_fix,m_answer_fix:=PySem.W.mg_of X G n_answer_fix,F_answer_inside:=F_answer_inside,m_answer_inside:=PySem.W.mg_of X G n_answer_inside,F_answer_join:=F_answer_join,m_answer_join:=PySem.W.mg_of X G n_answer_join,F_answer_add:=F_answer_add,m_answer_add:=PySem.W.mg_of X G n_answer_add,F_answer_order:=F_answer_order,m_answer_order:=PySem.W.mg_of X G n_answer_order,F_answer_has:=F_answer_has,m_answer_has:=PySem.W.mg_of X G n_answer_has,F_answer_at:=F_answer_at,m_answer_at:=PySem.W.mg_of X G n_answer_at,F_answer_rank:=F_answer_rank,m_answer_rank:=PySem.W.mg_of X G n_answer_rank,F_answer_first:=F_answer_first,m_answer_first:=PySem.W.mg_of X G n_answer_first,F_answer_orbit:=F_answer_orbit,m_answer_orbit:=PySem.W.mg_of X G n_answer_orbit,F_answer_ways:=F_answer_ways,m_answer_ways:=PySem.W.mg_of X G n_answer_ways,F_answer_commutes:=F_answer_commutes,m_answer_commutes:=PySem.W.mg_of X G n_answer_commutes,F_answer_even:=F_answer_even,m_answer_even:=PySem.W.mg_of X G n_answer_even,F_answer:=F_answer,m_answer:=PySem.W.mg_of X G n_answer,F_answers:=F_answers,m_answers:=PySem.W.mg_of X G n_answers,m_MOST_POINTS:=PySem.W.mg_of X G n_MOST_POINTS,m_WORD:=PySem.W.mg_of X G n_WORD,m_OUT_OF_RANGE:=PySem.W.mg_of X G n_OUT_OF_RANGE,m_NOT_THERE:=PySem.W.mg_of X G n_NOT_THERE,m_NOT_AS_MANY_POINTS:=PySem.W.mg_of X G n_NOT_AS_MANY_POINTS,m_NUMBERS_OF:=PySem.W.mg_of X G n_NUMBERS_OF,m_WITH_ROW:=PySem.W.mg_of X G n_WITH_ROW,m_WITH_POINTS:=PySem.W.mg_of X G n_WITH_POINTS,m_ANSWERS_OF_HELD:=PySem.W.mg_of X G n_ANSWERS_OF_HELD,m_ANSWERS_OF_ONE:=PySem.W.mg_of X G n_ANSWERS_OF_ONE,n_all:=PySem.W.ns_none_of X G n_all,n_dict:=PySem.W.ns_none_of X G n_dict,n_enumerate:=PySem.W.ns_none_of X G n_enumerate,n_len:=PySem.W.ns_none_of X G n_len,n_list:=PySem.W.ns_none_of X G n_list,n_min:=PySem.W.ns_none_of X G n_min,n_range:=PySem.W.ns_none_of X G n_range,n_sorted:=PySem.W.ns_none_of X G n_sorted }
 have U:Ty K d:={ cL:=c_Level,point:=x_Level_point,reached:=x_Level_reached,out:=x_Level_out,back:=x_Level_back,makers:=x_Level_makers,done:=x_Level_done,kin:=x_Level_kin,all_even:=x_Level_all_even,cM:=c_MovableChain,base:=x_MovableChain_base,outs:=x_MovableChain_outs,withRow:=d_WITH_ROW,withPoints:=d_WITH_POINTS,numbersOf:=d_NUMBERS_OF,ofHeld:=d_ANSWERS_OF_HELD,ofOne:=d_ANSWERS_OF_ONE }
 obtain⟨oc,od,kV,doc,pm,an,cdv,ct,osl,e,_,_⟩:=F_answers.ex
 exact⟨f_answers,λs us hu=>(by subst e;exact match us,hu with|[_],_=>.of_eq rfl),λbase _ _=>(zc0 (d:=d) T U).imp (sp':=qJ K) λvs H Q E (z:qJ K vs H Q E)=>z d⟩
end Gd
end
namespace PySem.W.Fast
def tw1739042156101549830:=0
def tw8803297680561340352:=0
def tw13167606813523248658:=0
def tw2492360166187032538:=0
def tw1568014973521123766:=0
def tw12492464528363175730:=0
def tw5642685482483620314:=0
def tw5041520544960557518:=0
def tw4209284498341371640:=0
def tw8981968968975680346:=0
def tw18352504572681496164:=0
def tw17921993306391645081:=0
def tw7063009894818419447:=0
def tw4513681500797077168:=0
def tw11173062475726010712:=0
def tw17526203455155053904:=0
def tw9571252744716726566:=0
def tw541598564022929924:=0
def tw16323039340442293961:=0
def tw16871274981298815277:=0
def tw5240439096260666715:=0
def tw15644323685397824003:=0
def tw17584226593162472342:=0
def tw2965724303773593514:=0
def tw12701455503744096405:=0
def tw1807868838138908879:=0
def tw5624286532125654196:=0
def tw6229881194833068904:=0
def tw3057019112558297671:=0
def tw268536681257451751:=0
def tw8290850075481576174:=0
def tw3843905405246155444:=0
def tw1840373805613930626:=0
def tw313462987364560617:=0
def tw14969426542697091301:=0
def tw2107558697408251668:=0
def tw18384322956199845548:=0
def tw8273699547326686248:=0
def tw13993636050291613010:=0
def tw3159496889316562091:=0
def tw18028746976848110801:=0
def tw5642682877957363596:=0
def tw9548567360359730291:=0
def tw10822903477003052205:=0
def tw5617306162483315313:=0
def tw12858216569576075941:=0
def tw7820636843306920886:=0
def tw15120301000893253644:=0
def tw18301914761899073900:=0
def tw1893149531138286738:=0
def tw2474903890316829045:=0
def tw1330034112021387859:=0
def tw7035530630954250398:=0
def tw13212010787721903587:=0
def tw15369277032377848974:=0
def tw1782511797001964020:=0
def tw2876580192217250701:=0
def tw12626645196281733229:=0
def tw8182200535115144520:=0
def tw1191146653421347443:=0
def tw15447139117142470957:=0
def tw10980495443670643417:=0
def tw10957135546270205118:=0
def tw9134042628716384128:=0
def tw12094753996424679701:=0
def tw18031514287198915621:=0
def tw9367138855038696801:=0
def tw194967296084513592:=0
def tw12254668758819059599:=0
def tw10986292319521750693:=0
def tw9986428427332380206:=0
def tw4449522188685131919:=0
def tw3073044401822271349:=0
def tw18331511222713991729:=0
def tw3332911948877249534:=0
def tw3482558702791072930:=0
def tw3255242503615322336:=0
def tw13015667507723004029:=0
def tw705150564977571393:=0
def tw18007212920835970316:=0
def tw10062657660444836671:=0
def tw4590050013868852196:=0
def tw11648474221649298264:=0
def tw2369698597577971136:=0
def tw2552757669039457836:=0
def tw13203237548063990168:=0
def tw15693165336572473079:=0
def tw13836740447599585653:=0
def tw17094094586598377533:=0
def tw17798303384802349072:=0
def tw14046290249082456884:=0
def tw2834116120133646935:=0
def tw10408873136566875883:=0
def tw16402926236874863657:=0
def tw327613773832392808:=0
def tw2787136737558790644:=0
def tw10592739171188905858:=0
def tw11916909621507169785:=0
def tw1478911961311898268:=0
def tw12206786556356997090:=0
def tw17767680184347630196:=0
def tw3710451377845597228:=0
def tw15155458889808944860:=0
def tw15350835557748797143:=0
def tw6239483070851491650:=0
def tw12111867023951593074:=0
def tw13786912758278153976:=0
def tw16952201308698781751:=0
def tw2694786208369836454:=0
def tw11682903284806799493:=0
def tw16997368058948269974:=0
def tw657265674005647332:=0
def tw1070996668464639238:=0
def tw10892326382224754789:=0
def tw16834207715730825496:=0
def tw2021957017568647423:=0
def tw9934822142111493431:=0
def tw3207689035447113247:=0
def tw4087307686812622157:=0
def tw10652039405451881660:=0
def tw13401458258423267663:=0
def tw2281658522478698651:=0
def tw12573367176422218037:=0
def tw16452567886814538976:=0
def tw4254819560034546381:=0
def tw17508879404246838424:=0
def tw4798188525681586331:=0
def tw8675727109942201258:=0
def tw4423927760334956140:=0
def tw5503025195275785982:=0
def tw16926935483129127690:=0
def tw1796212649145409497:=0
def tw3812617154945102715:=0
def tw10974244599505850545:=0
def tw805125719359041861:=0
def tw17791737744016809282:=0
def tw971480207488510359:=0
def tw16183155265348085827:=0
def tw858134602226428245:=0
def tw5111974913845750338:=0
def tw5652018668555787116:=0
def tw15778308113744348688:=0
def tw13999781101182833234:=0
def tw16375516726580425121:=0
def tw14622987881929813790:=0
def tw2949147760731855506:=0
def tw11036342576065882512:=0
def tw3565487779788838813:=0
def tw2321468814701836810:=0
def tw18262529695147061651:=0
def tw18119668320630562246:=0
def tw432537616901540921:=0
def tw11621022604386549879:=0
def tw3113712348850013645:=0
def tw13593689352556565991:=0
def tw12106630819072040066:=0
def tw263409420453005869:=0
def tw12438663415251015946:=0
def tw7407206861760316300:=0
def tw346953722865346447:=0
def tw10965211878993163668:=0
def tw17123297700132005109:=0
def tw8150282193502553447:=0
def tw5127563967302025437:=0
def tw15316108969772956666:=0
def tw17023516023142605807:=0
def tw16361312520218518666:=0
def tw283534999664100030:=0
def tw13941811273295713268:=0
def tw441636563932989041:=0
def tw9096882987379059448:=0
def tw6056112078850841286:=0
def tw10204171727030939512:=0
def tw7681400076876719661:=0
def tw6919110890786696833:=0
def tw14051610841182607609:=0
def tw6964293558525242459:=0
def tw11638103821905150361:=0
def tw1397847893027366605:=0
def tw1210301360916634988:=0
def tw12107644176770551761:=0
def tw4459815489127524577:=0
def tw17521426934914779353:=0
def tw17132475913505220446:=0
def tw13987795241547270117:=0
def tw1729153670730502908:=0
def tw17086615540113497987:=0
def tw17563056026506829149:=0
def tw8624153019519840125:=0
def tw5508459060757999708:=0
def tw12346580349254169374:=0
def tw8564373472786330860:=0
def tw10267359954134064044:=0
def tw12159641133956495539:=0
def tw10199865562872477373:=0
def tw4687004297005999826:=0
def tw16159406039993232750:=0
def tw14128096609513340646:=0
def tw13824391661972038195:=0
def tw9207558625814006125:=0
def tw11249680680148209075:=0
def tw9387641676427506372:=0
def tw95724517766261368:=0
def tw750090236562732647:=0
def tw17224583146741758845:=0
def tw12428607827652803336:=0
def tw7942165487865607325:=0
def tw1595605868320808818:=0
def tw7160159255541510308:=0
def tw17619482121375492941:=0
def tw11511154614388440561:=0
def tw15470366826974281388:=0
def tw678081243825949716:=0
def tw12460803451218149026:=0
def tw13814365683717004859:=0
def tw2863843266631491748:=0
def tw17152462533247649977:=0
def tw12233676669427695606:=0
def tw18023410385931085928:=0
def tw4923756464252115479:=0
end PySem.W.Fast
open PySem PySem.W PyProof.Rows
set_option maxRecDepth 100000 in
set_option maxHeartbeats 0 in
theorem PySem.Challenge.cw_pointgroupsdesk_s01_answers_holds : PySem.Challenge.rw_pointgroupsdesk_s01_answers.Holds := by
  w_on; k_headS; (case hw => exact ⟨[.list [.int 1, .int 0, .int 1]], by decide +kernel, by decide +kernel⟩)
  k_fillS
  refine L2.zad (r := PySem.Challenge.rw_pointgroupsdesk_s01_answers) (k := 10) (CX := L2.CX0) (ps := ["calls"]) (sp := Gd.qJ) (by decide +kernel) rfl rfl ⟨rfl, by decide, by decide⟩ (fun w h Y => PySem.W.kIn_of Y) ?F ?S (fun _ _ _ _ z => z)
  case F =>
    intro w mg fa h Y KX G hmg
    refine' Gd.zgc KX G hmg ?h0 ?h1 ?h2 ?h3 ?h4 ?h5 ?h6 ?h7 ?h8 ?h9 ?h10 ?h11 ?h12 ?h13 ?h14 ?h15 ?h16 ?h17 ?h18 ?h19 ?h20 ?h21 ?h22 ?h23 ?h24 ?h25 ?h26 ?h27 ?h28 ?h29 ?h30 ?h31 ?h32 ?h33 ?h34 ?h35 ?h36 ?h37 ?h38 ?h39 ?h40 ?h41 ?h42 ?h43 ?h44 ?h45 ?h46 ?h47 ?h48 ?h49 ?h50 ?h51 ?h52 ?h53 ?h54 ?h55 ?h56 ?h57 ?h58 ?h59 ?h60 ?h61 ?h62 ?h63 ?h64 ?h65 ?h66 ?h67 ?h68 ?h69 ?h70 ?h71 ?h72 ?h73 ?h74 ?h75 ?h76 ?h77 ?h78 ?h79 ?h80 ?h81 ?h82 ?h83 ?h84 ?h85 ?h86 ?h87 ?h88 ?h89 ?h90 ?h91 ?h92 ?h93 ?h94 ?h95 ?h96 ?h97 ?h98 ?h99 ?h100 ?h101 ?h102 ?h103 ?h104 ?h105 ?h106 ?h107 ?h108 ?h109 ?h110 ?h111 ?h112 ?h113 ?h114 ?h115 ?h116 ?h117 ?h118 ?h119 ?h120 ?h121 ?h122 ?h123 ?h124 ?h125 ?h126 ?h127 ?h128 ?h129 ?h130 ?h131 ?h132 ?h133 ?h134 ?h135 ?h136 ?h137 ?h138 ?h139 ?h140 ?h141 ?h142 ?h143 ?h144 ?h145 ?h146 ?h147 ?h148 ?h149 ?h150 ?h151 ?h152 ?h153 ?h154 ?h155 ?h156 ?h157 ?h158 ?h159
    (case h0 => k_is)
    (case h1 => k_is)
    (case h2 => k_is)
    (case h3 => k_is)
    (case h4 => k_is)
    (case h5 => k_is)
    (case h6 => k_is)
    (case h7 => k_is)
    (case h8 => k_is)
    (case h9 => k_is)
    (case h10 => k_is)
    (case h11 => k_is)
    (case h12 => k_is)
    (case h13 => k_is)
    (case h14 => k_is)
    (case h15 => k_is)
    (case h16 => k_is)
    (case h17 => k_is)
    (case h18 => k_is)
    (case h19 => k_is)
    (case h20 => k_is)
    (case h21 => k_is)
    (case h22 => k_is)
    (case h23 => k_is)
    (case h24 => k_is)
    (case h25 => k_is)
    (case h26 => k_is)
    (case h27 => k_is)
    (case h28 => k_is)
    (case h29 => k_is)
    (case h30 => k_is)
    (case h31 => k_is)
    (case h32 => k_is)
    (case h33 => k_is)
    (case h34 => k_is)
    (case h35 => k_is)
    (case h36 => k_is)
    (case h37 => k_is)
    (case h38 => k_is)
    (case h39 => k_is)
    (case h40 => k_is)
    (case h41 => k_is)
    (case h42 => k_is)
    (case h43 => k_is)
    (case h44 => k_is)
    (case h45 => k_is)
    (case h46 => k_is)
    (case h47 => k_is)
    (case h48 => k_is)
    (case h49 => k_is)
    (case h50 => k_is)
    (case h51 => k_is)
    (case h52 => k_is)
    (case h53 => k_is)
    (case h54 => k_is)
    (case h55 => refine' ⟨_, L2.zP ?l ?c ?k⟩; (case l => k_is); (case c => k_is); (case k => k_is))
    (case h56 => refine' ⟨_, L2.zP ?l ?c ?k⟩; (case l => k_is); (case c => k_is); (case k => k_is))
    (case h57 => refine' ⟨_, L2.zP ?l ?c ?k⟩; (case l => k_is); (case c => k_is); (case k => k_is))
    (case h58 => refine' ⟨_, L2.zP ?l ?c ?k⟩; (case l => k_is); (case c => k_is); (case k => k_is))
    (case h59 => refine' ⟨_, L2.zP ?l ?c ?k⟩; (case l => k_is); (case c => k_is); (case k => k_is))
    (case h60 => refine' ⟨_, L2.zP ?l ?c ?k⟩; (case l => k_is); (case c => k_is); (case k => k_is))
    (case h61 => k_is)
    (case h62 => refine' ⟨_, L2.zP ?l ?c ?k⟩; (case l => k_is); (case c => k_is); (case k => k_is))
    (case h63 => k_is)
    (case h64 => refine' ⟨_, L2.zP ?l ?c ?k⟩; (case l => k_is); (case c => k_is); (case k => k_is))
    (case h65 => k_is)
    (case h66 => refine' ⟨_, L2.zP ?l ?c ?k⟩; (case l => k_is); (case c => k_is); (case k => k_is))
    (case h67 => k_is)
    (case h68 => refine' ⟨_, L2.zP ?l ?c ?k⟩; (case l => k_is); (case c => k_is); (case k => k_is))
    (case h69 => k_is)
    (case h70 => refine' ⟨_, L2.zP ?l ?c ?k⟩; (case l => k_is); (case c => k_is); (case k => k_is))
    (case h71 => k_is)
    (case h72 => refine' ⟨_, L2.zP ?l ?c ?k⟩; (case l => k_is); (case c => k_is); (case k => k_is))
    (case h73 => k_is)
    (case h74 => refine' ⟨_, L2.zP ?l ?c ?k⟩; (case l => k_is); (case c => k_is); (case k => k_is))
    (case h75 => k_is)
    (case h76 => refine' ⟨_, L2.zP ?l ?c ?k⟩; (case l => k_is); (case c => k_is); (case k => k_is))
    (case h77 => k_is)
    (case h78 => refine' ⟨_, L2.zP ?l ?c ?k⟩; (case l => k_is); (case c => k_is); (case k => k_is))
    (case h79 => k_is)
    (case h80 => refine' ⟨_, L2.zP ?l ?c ?k⟩; (case l => k_is); (case c => k_is); (case k => k_is))
    (case h81 => refine' ⟨_, L2.zP ?l ?c ?k⟩; (case l => k_is); (case c => k_is); (case k => k_is))
    (case h82 => refine' ⟨_, L2.zP ?l ?c ?k⟩; (case l => k_is); (case c => k_is); (case k => k_is))
    (case h83 => refine' ⟨_, L2.zP ?l ?c ?k⟩; (case l => k_is); (case c => k_is); (case k => k_is))
    (case h84 => refine' ⟨_, L2.zP ?l ?c ?k⟩; (case l => k_is); (case c => k_is); (case k => k_is))
    (case h85 => refine' ⟨_, L2.zP ?l ?c ?k⟩; (case l => k_is); (case c => k_is); (case k => k_is))
    (case h86 => refine' ⟨_, L2.zP ?l ?c ?k⟩; (case l => k_is); (case c => k_is); (case k => k_is))
    (case h87 => refine' ⟨_, L2.zP ?l ?c ?k⟩; (case l => k_is); (case c => k_is); (case k => k_is))
    (case h88 => refine' ⟨_, L2.zP ?l ?c ?k⟩; (case l => k_is); (case c => k_is); (case k => k_is))
    (case h89 => k_is)
    (case h90 => refine' ⟨_, L2.zP ?l ?c ?k⟩; (case l => k_is); (case c => k_is); (case k => k_is))
    (case h91 => k_is)
    (case h92 => refine' ⟨_, L2.zP ?l ?c ?k⟩; (case l => k_is); (case c => k_is); (case k => k_is))
    (case h93 => k_is)
    (case h94 => refine' ⟨_, L2.zP ?l ?c ?k⟩; (case l => k_is); (case c => k_is); (case k => k_is))
    (case h95 => refine' ⟨_, L2.zP ?l ?c ?k⟩; (case l => k_is); (case c => k_is); (case k => k_is))
    (case h96 => refine' ⟨_, L2.zP ?l ?c ?k⟩; (case l => k_is); (case c => k_is); (case k => k_is))
    (case h97 => refine' ⟨_, L2.zP ?l ?c ?k⟩; (case l => k_is); (case c => k_is); (case k => k_is))
    (case h98 => refine' ⟨_, L2.zP ?l ?c ?k⟩; (case l => k_is); (case c => k_is); (case k => k_is))
    (case h99 => refine' ⟨_, L2.zP ?l ?c ?k⟩; (case l => k_is); (case c => k_is); (case k => k_is))
    (case h100 => refine' ⟨_, L2.zP ?l ?c ?k⟩; (case l => k_is); (case c => k_is); (case k => k_is))
    (case h101 => refine' ⟨_, L2.zP ?l ?c ?k⟩; (case l => k_is); (case c => k_is); (case k => k_is))
    (case h102 => refine' ⟨_, L2.zP ?l ?c ?k⟩; (case l => k_is); (case c => k_is); (case k => k_is))
    (case h103 => refine' ⟨_, L2.zP ?l ?c ?k⟩; (case l => k_is); (case c => k_is); (case k => k_is))
    (case h104 => refine' ⟨_, L2.zP ?l ?c ?k⟩; (case l => k_is); (case c => k_is); (case k => k_is))
    (case h105 => refine' ⟨_, L2.zP ?l ?c ?k⟩; (case l => k_is); (case c => k_is); (case k => k_is))
    (case h106 => refine' ⟨_, L2.zP ?l ?c ?k⟩; (case l => k_is); (case c => k_is); (case k => k_is))
    (case h107 => refine' ⟨_, L2.zP ?l ?c ?k⟩; (case l => k_is); (case c => k_is); (case k => k_is))
    (case h108 => refine' ⟨_, L2.zP ?l ?c ?k⟩; (case l => k_is); (case c => k_is); (case k => k_is))
    (case h109 => refine' ⟨_, L2.zP ?l ?c ?k⟩; (case l => k_is); (case c => k_is); (case k => k_is))
    (case h110 => refine' ⟨_, L2.zP ?l ?c ?k⟩; (case l => k_is); (case c => k_is); (case k => k_is))
    (case h111 => refine' ⟨_, L2.zP ?l ?c ?k⟩; (case l => k_is); (case c => k_is); (case k => k_is))
    (case h112 => refine' ⟨_, L2.zP ?l ?c ?k⟩; (case l => k_is); (case c => k_is); (case k => k_is))
    (case h113 => refine' ⟨_, L2.zP ?l ?c ?k⟩; (case l => k_is); (case c => k_is); (case k => k_is))
    (case h114 => refine' ⟨_, L2.zP ?l ?c ?k⟩; (case l => k_is); (case c => k_is); (case k => k_is))
    (case h115 => refine' ⟨_, L2.zP ?l ?c ?k⟩; (case l => k_is); (case c => k_is); (case k => k_is))
    (case h116 => refine' ⟨_, L2.zP ?l ?c ?k⟩; (case l => k_is); (case c => k_is); (case k => k_is))
    (case h117 => refine' ⟨_, L2.zP ?l ?c ?k⟩; (case l => k_is); (case c => k_is); (case k => k_is))
    (case h118 => refine' ⟨_, L2.zP ?l ?c ?k⟩; (case l => k_is); (case c => k_is); (case k => k_is))
    (case h119 => refine' ⟨_, L2.zP ?l ?c ?k⟩; (case l => k_is); (case c => k_is); (case k => k_is))
    (case h120 => refine' ⟨_, L2.zP ?l ?c ?k⟩; (case l => k_is); (case c => k_is); (case k => k_is))
    (case h121 => refine' ⟨?g1, ?g2, ?g3, ?g4⟩; (case g1 => k_is); (case g2 => k_is); (case g3 => k_is); (case g4 => k_is))
    (case h122 => k_is)
    (case h123 => k_is)
    (case h124 => k_is)
    (case h125 => k_is)
    (case h126 => k_is)
    (case h127 => k_is)
    (case h128 => k_is)
    (case h129 => k_is)
    (case h130 => k_is)
    (case h131 => k_is)
    (case h132 => refine' ⟨?g1, ?g2, ?g3, ?g4⟩; (case g1 => k_is); (case g2 => k_is); (case g3 => k_is); (case g4 => k_is))
    (case h133 => k_is)
    (case h134 => k_is)
    (case h135 => k_is)
    (case h136 => k_is)
    (case h137 => k_is)
    (case h138 => k_is)
    (case h139 => k_is)
    (case h140 => k_is)
    (case h141 => k_is)
    (case h142 => k_is)
    (case h143 => k_is)
    (case h144 => k_is)
    (case h145 => k_is)
    (case h146 => k_is)
    (case h147 => k_is)
    (case h148 => k_is)
    (case h149 => k_is)
    (case h150 => k_is)
    (case h151 => k_is)
    (case h152 => k_is)
    (case h153 => k_is)
    (case h154 => k_is)
    (case h155 => exact Gd.Xq rfl rfl (by repeat (first | exact .nil | refine .cons (by rfl) (by first | exact rfl | exact ⟨_, rfl⟩) ?_)) (by decide))
    (case h156 => exact Gd.Xq rfl rfl (by repeat (first | exact .nil | refine .cons (by rfl) (by first | exact rfl | exact ⟨_, rfl⟩) ?_)) (by decide))
    (case h157 => exact Gd.Xq rfl rfl (by repeat (first | exact .nil | refine .cons (by rfl) (by first | exact rfl | exact ⟨_, rfl⟩) ?_)) (by decide))
    (case h158 => exact fun H => .inr ⟨_, _, _, rfl, rfl, rfl, by decide, by repeat (first | exact .nil | refine .cons ⟨_, rfl⟩ ?_)⟩)
    (case h159 => exact fun H => .inr ⟨_, _, _, rfl, rfl, rfl, by decide, by repeat (first | exact .nil | refine .cons ⟨_, rfl⟩ ?_)⟩)
  case S =>
    intro K H xs a hO hwi hask hx
    cases hx with
    | cons h1 h2 =>
      cases h2
      cases h1 with
      | lst hs ha =>
        have e := L2.JZ a.1 _ ha
        subst e
        have q : ((Codec.inLen 0 16000 a.1 && a.1.all (Codec.inInt (Int.negSucc 2147483647) (Int.ofNat 18446744073709551615))) && true) = true := hwi
        rw [Bool.and_eq_true, Bool.and_eq_true] at q
        exact fun d => ⟨_, a.1, rfl, hs, fun b t hb => (by rcases hO b with h | ⟨o, u, h⟩ <;> rw [h] at hb <;> cases hb; exact ⟨o, u, rfl⟩), (Codec.inNat_iff.mp q.1.1).2, hask, fun H' p hp => .lst (L2.SqL.of hp) (L2.Qj _)⟩
