import PyProof.Rows.All
import Wide.All
import OpenK.AllK
import Wide.FinOn
import PyProof.EqAt
import PyProof.EqKinds
import PyProof.TupleCall
import KE.BitLaws
import Open.SpecLaws
import KE.OsHead
import KE.OsGo
import PySem.Challenge.RW_boxturns_s01_answers
set_option Elab.async false
set_option linter.all false
set_option maxRecDepth 100000
namespace L2
open PySem PySem.Spec PyProof.Rows
abbrev Key:=Sum Int Str
def xN:Key->Value->Bool
 | .inl k,v=>Value.isInt k v
 | .inr x,v=>Value.isStrOf x v
def keyH (w:World):Key->Int
 | .inl k=>hashInt k
 | .inr x=>hashStr w x
theorem d9:∀{k:Key} {v:Value},xN k v=true->(∃i t,k=Sum.inl i/\v=Value.int i t)\/(∃x t,k=Sum.inr x/\v=Value.str x t)
 | .inl i,v,h=>by
  obtain⟨t,e⟩:=Value.isInt_shape (k:=i) (v:=v) h
  exact .inl ⟨i,t,rfl,e⟩
 | .inr x,v,h=>by
  obtain⟨t,e⟩:=Value.isStrOf_shape (x:=x) (v:=v) h
  exact .inr ⟨x,t,rfl,e⟩
theorem EY (i:Int) (t:Tok):xN (.inl i) (.int i t)=true:=by simp[xN,Value.isInt]
theorem EX (x:Str) (t:Tok):xN (.inr x) (.str x t)=true:=by simp[xN,Value.isStrOf]
theorem JK (a b:Int):decide ((Sum.inl a:Key)=Sum.inl b)=(a==b):=by
 by_cases e:a=b
 ·subst e;simp
 ·have h:¬(Sum.inl a:Key)=Sum.inl b:=fun q=>e (Sum.inl.inj q)
  rw[decide_eq_false h]
  exact(beq_eq_false_iff_ne.mpr e).symm
theorem JG (a b:Str):decide ((Sum.inr a:Key)=Sum.inr b)=decide (a=b):=by
 by_cases e:a=b
 ·subst e;simp
 ·have h:¬(Sum.inr a:Key)=Sum.inr b:=fun q=>e (Sum.inr.inj q)
  rw[decide_eq_false h,decide_eq_false e]
theorem JJ (a:Int) (b:Str):decide ((Sum.inl a:Key)=Sum.inr b)=false:=decide_eq_false (fun q=>nomatch q)
theorem JH (a:Str) (b:Int):decide ((Sum.inr a:Key)=Sum.inl b)=false:=decide_eq_false (fun q=>nomatch q)
def dR (prog:Program) (w:World):PySem.KeyKind prog w Key where
 is:=xN
 hash:=keyH w
 inj:=fun v a b ha hb=>by
  rcases d9 ha with⟨i,t,rfl,rfl⟩|⟨x,t,rfl,rfl⟩
  ·rcases d9 hb with⟨j,u,rfl,e⟩|⟨y,u,rfl,e⟩
   ·injection e with e1 _;rw[e1]
   ·exact nomatch e
  ·rcases d9 hb with⟨j,u,rfl,e⟩|⟨y,u,rfl,e⟩
   ·exact nomatch e
   ·injection e with e1 _;rw[e1]
 byValue:=fun k v h=>by
  rcases d9 h with⟨i,t,rfl,rfl⟩|⟨x,t,rfl,rfl⟩<;>rfl
 pyHash:=fun hv h=>by
  rcases d9 hv with⟨i,t,rfl,rfl⟩|⟨x,t,rfl,rfl⟩
  ·exact wpAny_pyHash_int h
  ·exact wpAny_pyHash_str h
 eqBool:=fun hu hv h=>by
  rcases d9 hu with⟨i,t,rfl,rfl⟩|⟨x,t,rfl,rfl⟩
  ·rcases d9 hv with⟨j,u,rfl,rfl⟩|⟨y,u,rfl,rfl⟩
   ·rw[JK] at h;exact wpAny_eqBool_int h
   ·rw[JJ] at h;exact SeqAt.EqAt.int_str i t y u _ _ _ _ h
  ·rcases d9 hv with⟨j,u,rfl,rfl⟩|⟨y,u,rfl,rfl⟩
   ·rw[JH] at h;exact SeqAt.EqAt.str_int x t j u _ _ _ _ h
   ·rw[JG] at h;exact wpAny_eqBool_str h
 «strs»:=fun k x t v h=>by
  rcases d9 h with⟨i,u,rfl,e⟩|⟨y,u,rfl,e⟩
  ·exact nomatch e
  ·injection e with e1 _
   subst e1
   cases v<;>rfl
theorem Bm (prog:Program) (w:World) (i:Int) (t:Tok):(dR prog w).is (.inl i) (.int i t)=true:=EY i t
theorem Bl (prog:Program) (w:World) (x:Str) (t:Tok):(dR prog w).is (.inr x) (.str x t)=true:=EX x t
end L2
namespace L2
open PySem PySem.Spec PyProof.Rows
inductive V where
 | bo|bl (b:Bool)|int (i:Int)|str (x:Str)|C9 (b:Array UInt8)|flt (b:UInt64)|ref (a:Addr)|ty (n:String)
 deriving DecidableEq
def RelV:V->Value->Prop
 | .bo,u=>u=Value.none
 | .bl b,u=>u=Value.bool b
 | .int i,u=>∃t,u=Value.int i t
 | .str x,u=>∃t,u=Value.str x t
 | .C9 b,u=>∃t,u=Value.bytes b t
 | .flt b,u=>∃t,u=Value.float b t
 | .ref a,u=>u=Value.ref a
 | .ty n,u=>u=Value.type n
abbrev Vals:List V->List Value->Prop:=Paired RelV
theorem Vals.length {xs:List V} {us:List Value} (r:Vals xs us):xs.length=us.length:=Paired.length r
theorem Vals.get:∀{xs:List V} {us:List Value} {i:Nat} {x:V},Vals xs us->xs[i]?=some x->∃u,us[i]?=some u/\RelV x u
 | _,_,_,_,.nil,e=>by simp at e
 | _,_,0,_,.cons r _,e=>by simp at e;subst e;exact⟨_,rfl,r⟩
 | _,_,i+1,x,.cons _ t,e=>by
  obtain⟨u,h1,h2⟩:=Vals.get (i:=i) (x:=x) t (by simpa using e)
  exact⟨u,by simpa using h1,h2⟩
theorem Vals.append:∀{xs ys:List V} {us ws:List Value},Vals xs us->Vals ys ws->Vals (xs++ys) (us++ws)
 | _,_,_,_,.nil,s=>s
 | _,_,_,_,.cons r t,s=>.cons r (Vals.append t s)
theorem Vals.take:∀{xs:List V} {us:List Value} (n:Nat),Vals xs us->Vals (xs.take n) (us.take n)
 | _,_,0,_=>.nil
 | _,_,_+1,.nil=>.nil
 | _,_,n+1,.cons r t=>.cons r (Vals.take n t)
theorem Vals.drop:∀{xs:List V} {us:List Value} (n:Nat),Vals xs us->Vals (xs.drop n) (us.drop n)
 | _,_,0,r=>r
 | _,_,_+1,.nil=>.nil
 | _,_,n+1,.cons _ t=>Vals.drop n t
def uL:Option V->Option Value->Prop
 | some v,some u=>RelV v u
 | none,none=>True
 | _,_=>False
def KV {κ:Type}:List (κ×V)->List (κ×Value)->Prop:=Paired fun(p:κ×V) (q:κ×Value)=>p.1=q.1/\RelV p.2 q.2
def kV:Key->V
 | .inl i=>.int i
 | .inr x=>.str x
inductive HO where
 | lst (xs:List V)
 | tup (xs:List V)
 | dK (kvs:List (Key×V))|dT (kvs:List (List Key×V))
 | set (S:Int->Bool) (n:Nat)
 | ins (C dx:Addr) (fs:List (Str×V))
 | own (x:Addr)
 | xd (fs:List (Str×V))
 | met (f x:Addr)
 | rng (lo hi:Int)
 | wU (o:Obj) (u:HO)
 | Ij (ps:Array Value)
 | ext (φ:Heap->Prop)
abbrev Hp:=Addr->Option HO
def upd (H:Hp) (a:Addr) (o:HO):Hp:=fun b=>if b=a then some o else H b
theorem ae {H:Hp} {a:Addr} {o:HO}:upd H a o a=some o:=by unfold upd;rw[if_pos rfl]
theorem aE {H:Hp} {a b:Addr} {o:HO} (h:b≠a):upd H a o b=H b:=by unfold upd;rw[if_neg h]
theorem rh {H:Hp} {a:Addr} {o u:HO}:upd (upd H a o) a u=upd H a u:=by
 funext b;unfold upd;split<;>rfl
theorem Bi {H:Hp} {a b:Addr} {o u:HO} (h:H a=some o) (h':H b=some u) (d:o≠u):a≠b:=by
 intro e;subst e;rw[h] at h';exact d (Option.some.inj h')
theorem ay {H:Hp} {a b:Addr} {o:HO} (h:H a=some o) (h':H b=none):a≠b:=by
 intro e;subst e;rw[h] at h';cases h'
section
variable (P:Program) (w:World)
def eU (H:Hp) (h:Heap) (a:Addr):HO->Prop
 | .lst xs=>xs.length<=sizeLine/\∃(its:List Value) (n:Nat),Vals xs its/\h.get? a=some {cls:=.type "list",data:=.seq its.toArray n}
 | .tup xs=>xs.length<=sizeLine/\∃its:List Value,Vals xs its/\IsTup h a its.toArray
 | .dK kvs=>kvs.length<=sizeLine/\(a==sysModules)=false/\∃vs,KV kvs vs/\h.DictOf (dR P w) a vs
 | .dT kvs=>kvs.length<=sizeLine/\(a==sysModules)=false/\∃xs:List (List Key×Addr×Value),
   Paired (fun(p:List Key×V) (q:List Key×Addr×Value)=>p.1=q.1/\H q.2.1=some (.tup (p.1.map kV))/\RelV p.2 q.2.2) kvs xs /\
   ∃o es ep,h.get? a=some o/\o.ExactDict/\o.data=.dict es ep/\es.toList=xs.map (entryOfKey (tupleKind (dR P w)))/\(xs.map (·.1)).Nodup
 | .set S n=>h.SetOf (intKind P w) a S n
 | .ins C dx fs=>H dx=some (.own a)/\fs.length<=1000/\dx≠a/\h.get? a=some (PySem.W.instObj C dx) /\
   ∃mA,h.Ns1 dx mA/\(∀f,uL (fs.lookup f) (mA f))/\PySem.Within mA (fs.map (·.1))
 | .own _=>∃o,h.get? a=some o
 | .xd fs=>∃mA,h.Ns1 a mA/\∀f,uL (fs.lookup f) (mA f)
 | .rng lo hi=>∃t u v,h.get? a=some {cls:=.type "range",data:=.fields #[.int lo t,.int hi u,.int 1 v]}
 | .wU o u=>h.get? a=some o/\eU H h a u
 | .Ij ps=>h.get? a=some {cls:=.none,data:=.fields ps}
 | .met f x=>h.get? a=some (PySem.W.methodObj (.ref f) (.ref x))
 | .ext φ=>φ h/\(∃o,h.get? a=some o)/\∀h1 h2:Heap,φ h1->(∀o,h1.get? a=some o->h2.get? a=some o)->φ h2
def p9 (H:Hp) (h:Heap):Prop:=∀a o,H a=some o->eU P w H h a o
end
section
variable {P:Program} {w:World} {H H':Hp} {h h':Heap} {a:Addr} {o:HO}
theorem eU.lt (x:eU P w H h a o):a<h.objs.size:=by
 cases o with
 | lst xs=>obtain⟨_,_,_,_,e⟩:=x;exact Heap.lt_size e
 | tup xs=>obtain⟨_,_,_,p⟩:=x;exact p.lt
 | dK kvs=>obtain⟨_,_,_,_,o,_,_,e,_⟩:=x;exact Heap.lt_size e
 | dT kvs=>obtain⟨_,_,_,_,o,_,_,e,_⟩:=x;exact Heap.lt_size e
 | set S n=>obtain⟨o,_,_,_,e,_⟩:=x;exact Heap.lt_size e
 | ins C dx fs=>obtain⟨_,_,_,e,_⟩:=x;exact Heap.lt_size e
 | own y=>obtain⟨_,e⟩:=x;exact Heap.lt_size e
 | xd fs=>obtain⟨_,⟨_,_,_,e,_⟩,_⟩:=x;exact Heap.lt_size e
 | rng lo hi=>obtain⟨_,_,_,e⟩:=x;exact Heap.lt_size e
 | wU ob u=>obtain⟨e,_⟩:=x;exact Heap.lt_size e
 | Ij ps=>exact Heap.lt_size (show h.get? a=some _ from x)
 | met f y=>exact Heap.lt_size (show h.get? a=some _ from x)
 | ext φ=>obtain⟨_,⟨_,e⟩,_⟩:=x;exact Heap.lt_size e
theorem Paired.bL {α β:Type} {F G:α->β->Prop}:∀{l₁:List α} {l₂:List β},Paired F l₁ l₂->(∀a b,F a b->G a b)->Paired G l₁ l₂
 | _,_,.nil,_=>.nil
 | _,_,.cons r t,f=>.cons (f _ _ r) (Paired.bL t f)
theorem eU.Cn (x:eU P w H h a o) (k:∀b u,(b=a\/H b=some (.own a))->h.get? b=some u->h'.get? b=some u)
  (ho:∀b,H b=some (.own a)->H' b=some (.own a)) (ht:∀b xs,H b=some (.tup xs)->H' b=some (.tup xs)):eU P w H' h' a o:=by
 induction o with
 | lst xs=>obtain⟨z,its,n,r,e⟩:=x;exact⟨z,its,n,r,k _ _ (.inl rfl) e⟩
 | tup xs=>obtain⟨z,its,r,ob,e,c⟩:=x;exact⟨z,its,r,ob,k _ _ (.inl rfl) e,c⟩
 | dK kvs=>obtain⟨z,y,vs,r,ob,es,ep,e,c⟩:=x;exact⟨z,y,vs,r,ob,es,ep,k _ _ (.inl rfl) e,c⟩
 | dT kvs =>
  obtain⟨z,y,xs,r,ob,es,ep,e,c⟩:=x
  exact⟨z,y,xs,Paired.bL r fun p q z=>⟨z.1,ht _ _ z.2.1,z.2.2⟩,ob,es,ep,k _ _ (.inl rfl) e,c⟩
 | set S n=>obtain⟨ob,es,ep,t,e,c⟩:=x;exact⟨ob,es,ep,t,k _ _ (.inl rfl) e,c⟩
 | ins C dx fs =>
  obtain⟨d,z,ne,e,mA,⟨od,es,ep,e2,c⟩,r⟩:=x
  exact⟨ho _ d,z,ne,k _ _ (.inl rfl) e,mA,⟨od,es,ep,k _ _ (.inr d) e2,c⟩,r⟩
 | own y=>obtain⟨ob,e⟩:=x;exact⟨ob,k _ _ (.inl rfl) e⟩
 | xd fs=>obtain⟨mA,⟨od,es,ep,e,c⟩,r⟩:=x;exact⟨mA,⟨od,es,ep,k _ _ (.inl rfl) e,c⟩,r⟩
 | rng lo hi=>obtain⟨t,u,v,e⟩:=x;exact⟨t,u,v,k _ _ (.inl rfl) e⟩
 | wU ob u ih=>obtain⟨e,q⟩:=x;exact⟨k _ _ (.inl rfl) e,ih q⟩
 | Ij ps =>
  have e:h.get? a=some {cls:=.none,data:=.fields ps}:=x
  show h'.get? a=some {cls:=.none,data:=.fields ps}
  exact k a _ (.inl rfl) e
 | met f y =>
  have e:h.get? a=some (PySem.W.methodObj (.ref f) (.ref y)):=x
  show h'.get? a=some (PySem.W.methodObj (.ref f) (.ref y))
  exact k a _ (.inl rfl) e
 | ext φ=>obtain⟨p,⟨o,e⟩,st⟩:=x;exact⟨st _ _ p fun o q=>k _ _ (.inl rfl) q,⟨o,k _ _ (.inl rfl) e⟩,st⟩
theorem p9.lt (x:p9 P w H h) (e:H a=some o):a<h.objs.size:=(x a o e).lt
theorem p9.fresh (x:p9 P w H h) (e:h.objs.size<=a):H a=none:=by
 cases q:H a with
 | none=>rfl
 | some u=>exact absurd (Nat.lt_of_lt_of_le (x.lt q) e) (Nat.lt_irrefl _)
theorem p9.kept (x:p9 P w H h) (k:∀b u,h.get? b=some u->h'.get? b=some u):p9 P w H h':=fun a o e =>
 (x a o e).Cn (fun b u _ q=>k b u q) (fun _ q=>q) fun _ _ q=>q
theorem p9.laid (x:p9 P w H h) (k:∀b u,h.get? b=some u->h'.get? b=some u) (hp:h.objs.size<=a) (new:eU P w (upd H a o) h' a o):p9 P w (upd H a o) h':=fun b u e=>by
 have hn:=x.fresh hp
 by_cases hb:b=a
 ·subst hb;rw[ae] at e;cases e;exact new
 ·rw[aE hb] at e
  exact(x b u e).Cn (fun c v _ q=>k c v q) (fun c q=>by rw[aE (ay q hn)];exact q) fun c xs q=>by rw[aE (ay q hn)];exact q
end
def Rd (H:Hp) (a:Addr) (u:HO):Prop:=H a=some u\/∃o,H a=some (.wU o u)
theorem Rd.ok {P:Program} {w:World} {H:Hp} {h:Heap} {a:Addr} {u:HO} (r:Rd H a u) (x:p9 P w H h):eU P w H h a u:=by
 rcases r with r|⟨o,r⟩
 ·exact x a u r
 ·obtain⟨_,q⟩:=x a _ r
  exact q
def Mut:Option HO->Prop
 | some (.lst _)=>True
 | some (.dK _)=>True
 | some (.dT _)=>True
 | some (.set _ _)=>True
 | some (.ins _ _ _)=>True
 | some (.ext _)=>True
 | _=>False
section
variable {P:Program} {w:World} {H:Hp} {h h':Heap} {x e:Addr} {o':HO}
theorem p9.write (ok:p9 P w H h) (mu:Mut (H x)) (he:e=x\/H e=some (.own x)) (k:∀b u,b≠e->h.get? b=some u->h'.get? b=some u) (heo:∃u,h'.get? e=some u)
  (new:eU P w (upd H x o') h' x o'):p9 P w (upd H x o') h':=fun b u q=>by
 have nown:∀c y,H c=some (.own y)->c≠x:=fun c y r z=>by subst z;rw[r] at mu;exact mu
 have ntup:∀c xs,H c=some (.tup xs)->c≠x:=fun c xs r z=>by subst z;rw[r] at mu;exact mu
 by_cases hb:b=x
 ·subst hb;rw[ae] at q;cases q;exact new
 ·rw[aE hb] at q
  by_cases hbe:b=e
  ·have q':H b=some (.own x):=by
    rcases he with z|z
    ·exact absurd (hbe.trans z) hb
    ·rw[hbe];exact z
   rw[q] at q';cases q'
   obtain⟨v,hv⟩:=heo
   exact⟨v,by rw[hbe];exact hv⟩
  ·refine(ok b u q).Cn (fun c v hc r=>k c v ?_ r) (fun c r=>by rw[aE (nown c b r)];exact r) fun c xs r=>by rw[aE (ntup c xs r)];exact r
   rcases hc with rfl|hc
   ·exact hbe
   ·rintro rfl
    rcases he with z|z
    ·exact nown c b hc z
    ·rw[hc] at z;cases z;exact hb rfl
end
structure Un (fs ex:List Addr) (H H':Hp) (h h':Heap):Prop where
 keep:∀b o,h.get? b=some o->H b=none->b∉fs->b∉ex->h'.get? b=some o
 slot:∀b o,h.get? b=some o->H b=none->b∈fs->b∉ex->∃sl,h'.get? b=some {o with slots:=sl}
 free:∀b o,h.get? b=some o->H b=none->b∉ex->H' b=none
 there:∀b o,h.get? b=some o->b∉ex->∃o',h'.get? b=some o'
 tW:∀b xs,H b=some (.tup xs)->H' b=some (.tup xs)
 tI:∀b o u,H b=some (.wU o u)->H' b=some (.wU o u)
 tX:∀b ps,H b=some (.Ij ps)->∃more,H' b=some (.Ij (ps++more))
section
variable {fs fs' ex ex':List Addr} {H H1 H2:Hp} {h h1 h2 h':Heap} {a x e:Addr} {o:HO}
theorem Un.any (u:Un fs ex H H1 h h1) {b:Addr} {ob:Obj} (q:h.get? b=some ob) (n:H b=none) (hx:b∉ex):∃sl,h1.get? b=some {ob with slots:=sl}:=by
 by_cases hb:b∈fs
 ·exact u.slot b ob q n hb hx
 ·exact⟨ob.slots,u.keep b ob q n hb hx⟩
theorem Un.trans (a:Un fs ex H H1 h h1) (b:Un fs ex H1 H2 h1 h2):Un fs ex H H2 h h2 where
 keep:=fun c ob q n hc hx=>b.keep c ob (a.keep c ob q n hc hx) (a.free c ob q n hx) hc hx
 slot:=fun c ob q n hc hx=>by
  obtain⟨sl,e1⟩:=a.slot c ob q n hc hx
  obtain⟨sl',e2⟩:=b.slot c _ e1 (a.free c ob q n hx) hc hx
  exact⟨sl',e2⟩
 free:=fun c ob q n hx=>by
  obtain⟨o',e1⟩:=a.there c ob q hx
  exact b.free c o' e1 (a.free c ob q n hx) hx
 there:=fun c ob q hx=>by
  obtain⟨o',e1⟩:=a.there c ob q hx
  exact b.there c o' e1 hx
 tW:=fun c xs q=>b.tW c xs (a.tW c xs q)
 tI:=fun c ob xs q=>b.tI c ob xs (a.tI c ob xs q)
 tX:=fun c ps q=>by
  obtain⟨m1,e1⟩:=a.tX c ps q
  obtain⟨m2,e2⟩:=b.tX c _ e1
  exact⟨m1++m2,by rw[e2,Array.append_assoc]⟩
theorem Un.kept (k:∀b u,h.get? b=some u->h'.get? b=some u):Un fs ex H H h h' :=
 ⟨fun b ob q _ _ _=>k b ob q,fun b ob q _ _ _=>⟨ob.slots,k b ob q⟩,fun _ _ _ n _=>n,fun b ob q _=>⟨ob,k b ob q⟩,fun _ _ q=>q,fun _ _ _ q=>q,fun _ ps q=>⟨#[],by rw[q];simp⟩⟩
theorem Un.refl:Un fs ex H H h h:=Un.kept fun _ _ q=>q
theorem Un.laid (k:∀b u,h.get? b=some u->h'.get? b=some u) (hp:h.objs.size<=a) (hn:H a=none):Un fs ex H (upd H a o) h h' where
 keep:=fun b u q _ _ _=>k b u q
 slot:=fun b u q _ _ _=>⟨u.slots,k b u q⟩
 free:=fun b u q n _=>by rw[aE (Nat.ne_of_lt (Nat.lt_of_lt_of_le (Heap.lt_size q) hp))];exact n
 there:=fun b u q _=>⟨u,k b u q⟩
 tW:=fun b xs q=>by rw[aE (ay q hn)];exact q
 tI:=fun b u xs q=>by rw[aE (ay q hn)];exact q
 tX:=fun b ps q=>⟨#[],by rw[aE (ay q hn),q];simp⟩
theorem Un.write (mu:Mut (H x)) (he:e=x\/H e=some (.own x)) (k:∀b u,b≠e->h.get? b=some u->h'.get? b=some u) (heo:∃u,h'.get? e=some u):Un fs ex H (upd H x o) h h':=by
 have hx:∀b,H b=none->b≠x:=fun b n z=>by subst z;rw[n] at mu;exact mu
 have hb:∀b,H b=none->b≠e:=fun b n z=>by
  subst z
  rcases he with r|r
  ·exact hx b n r
  ·rw[n] at r;cases r
 have hm:∀b u,H b=some u->¬Mut (some u)->b≠x:=fun b u q nm z=>by subst z;rw[q] at mu;exact nm mu
 refine⟨fun b u q n _ _=>k b u (hb b n) q,fun b u q n _ _=>⟨u.slots,k b u (hb b n) q⟩,fun b u q n _=>by rw[aE (hx b n)];exact n,fun b u q _=>?_,
  fun b xs q=>by rw[aE (hm b _ q fun z=>z)];exact q,fun b u xs q=>by rw[aE (hm b _ q fun z=>z)];exact q,fun b ps q=>⟨#[],by rw[aE (hm b _ q fun z=>z),q];simp⟩⟩
 by_cases hbe:b=e
 ·subst hbe;exact heo
 ·exact⟨u,k b u hbe q⟩
theorem Un.mono (u:Un fs ex H H1 h h1) (hs:∀b∈fs,b∈fs') (hx:∀b∈ex,b∈ex'):Un fs' ex' H H1 h h1 :=
 ⟨fun b ob q n hb he=>u.keep b ob q n (fun z=>hb (hs b z)) fun z=>he (hx b z),fun _ _ q n _ he=>u.any q n fun z=>he (hx _ z),fun b ob q n he=>u.free b ob q n fun z=>he (hx b z),fun b ob q he=>u.there b ob q fun z=>he (hx b z),u.tW,u.tI,u.tX⟩
end
def trk (h:Heap) (H:Hp):List Addr:=(List.range h.objs.size).filter fun a=>(H a).isSome
def An (h:Heap) (H:Hp):Heap:=PySem.W.hideAll h (trk h H)
theorem E2 (h:Heap) (H:Hp):(An h H).objs.size=h.objs.size:=PySem.W.hideAll_size _ _
theorem Gh {h:Heap} {H:Hp} {b:Addr} {o:Obj} (e:h.get? b=some o) (n:H b=none):(An h H).get? b=some o :=
 PySem.W.hideAll_get _ e fun hm=>by
  have q:(H b).isSome=true:=(List.mem_filter.mp hm).2
  rw[n] at q;simp at q
theorem HH {h:Heap} {H:Hp} {b:Addr} {o:Obj} (e:(An h H).get? b=some o):h.get? b=some o/\H b=none:=by
 have e':h.get? b=some o:=PySem.W.of_hideAll (trk h H) e
 refine⟨e',?_⟩
 cases q:H b with
 | none=>rfl
 | some x =>
  have hm:b∈trk h H:=List.mem_filter.mpr ⟨List.mem_range.mpr (Heap.lt_size e'),by simp[q]⟩
  have z:(An h H).get? b=none:=PySem.W.hideAll_none (trk h H) hm
  rw[z] at e;cases e
end L2
namespace L2
open PySem PySem.Spec PyProof.Rows
structure Mod (K:PySem.W.Frag) (mg:Str->Option Value) (base:Heap):Prop where
 kin:K.In base
 glob:base.Ns mainGlobals mg
 blt:∃mb,base.Ns builtinsNs mb/\∀x:Str,x ≠ "__name__" -> mb x=bootBuiltins x
 nolimit:base.NoLimit
structure Cx where
 prog:Program
 w:World
 K:PySem.W.Frag
 mg:Str->Option Value
 base:Heap
 A:Around
 N:List Str
 xo:Shared
 JY:Hp
 env:Env
 outer:List Env
 stack:List Env
 ex:List Addr
 fn:Str->Bool
 calm:Bool
 pn:List (Addr×Obj)
 xe:Value->Shared->Prop
def rU (l:List Env):List Addr:=l.filterMap (·.frame)
abbrev Cx.fs (X:Cx):List Addr:=rU X.outer
def Vis (sc:Scope) (x:Str):Prop:=sc.names.lookup x=some .local\/sc.names.lookup x=some .cell\/sc.names.lookup x=some .free
def Loc (sc:Scope) (x:Str):Prop:=sc.names.lookup x=some .local\/sc.names.lookup x=some .cell
def Look (env:Env) (h:Heap) (m:Str->Option Value) (x:Str) (u:Value):Prop :=
 (env.kindOf x=some .local/\m x=some u)\/((env.kindOf x=some .cell\/env.kindOf x=some .free)/\∃c,env.cells.lookup x=some c/\h.IsCell c (some u))
structure Cx.Ok (X:Cx):Prop where
 mod:Mod X.K X.mg X.base
 kind:X.env.scope.kind=.function
 glob:X.env.globals=mainGlobals
 blt:X.env.builtins=builtinsNs
 above:X.xo.heap.objs.size<=X.env.locals
 inj:∀x y c,X.env.cells.lookup x=some c->X.env.cells.lookup y=some c->x=y
 has:∀x,(X.env.kindOf x=some .cell\/X.env.kindOf x=some .free)->∃c,X.env.cells.lookup x=some c
 JR:∀x c,X.fn x=true->X.env.cells.lookup x=some c->X.xo.heap.objs.size<=c
 hd:X.calm=true->X.A.handled=none
 frames:X.A.frames=some X.stack
 stk:X.stack=X.outer\/(X.stack=X.env::X.outer/\X.env.frame=some X.env.locals)
 exf:∀b∈X.ex,b≠X.env.locals/\∀x c,X.env.cells.lookup x=some c->c≠b
 bs:∀b o,X.base.get? b=some o->X.xo.heap.get? b=some o/\X.JY b=none
 GF:X.base.objs.size<=X.xo.heap.objs.size
 CI:∀b o,X.base.get? b=some o->b∉X.ex
 CV:∀b∈X.ex,b∉X.fs
 uE:X.xo.heap.FunFrames X.base X.outer
 HR:∀b∈X.fs,X.JY b=none
structure Inv (X:Cx) (pins:List (Addr×Obj)) (σ:List (Option V)) (H:Hp) (s:Shared):Prop where
 ok:X.Ok
 os:s.os=X.xo.os
 bare:AllBare s.gens
 base:Un X.fs X.ex X.JY H X.xo.heap s.heap
 loc:∃m,s.heap.Ns X.env.locals m/\∀(i:Nat) (x:Str) (v:V),X.N[i]?=some x->σ[i]?=some (some v)->Vis X.env.scope x->∃u,RelV v u/\Look X.env s.heap m x u
 cell:∀x c,X.env.cells.lookup x=some c->∃v,s.heap.IsCell c v
 free:H X.env.locals=none
 lY:∀x c,X.env.cells.lookup x=some c->H c=none
 pin:∀p∈X.pn++pins,s.heap.get? p.1=some p.2/\H p.1=none/\p.1≠X.env.locals/\p.1∉X.fs/\∀v,p.2.data≠.cell v
 dz:p9 X.prog X.w H s.heap
 len:σ.length=X.N.length
section
variable {X:Cx} {pins:List (Addr×Obj)} {σ:List (Option V)} {H H':Hp} {s:Shared} {h':Heap}
theorem Cx.Ok.nofr (ok:X.Ok) {b:Addr} {o:Obj} (e:X.base.get? b=some o):b∉X.fs:=fun hb=>by
 have:=(ok.uE.mem hb).1
 rw[e] at this;cases this
theorem Inv.bs (I:Inv X pins σ H s):∀b o,X.base.get? b=some o->s.heap.get? b=some o/\H b=none:=fun b o e =>
 ⟨I.base.keep b o (I.ok.bs b o e).1 (I.ok.bs b o e).2 (I.ok.nofr e) (I.ok.CI b o e),I.base.free b o (I.ok.bs b o e).1 (I.ok.bs b o e).2 (I.ok.CI b o e)⟩
theorem Inv.bk (I:Inv X pins σ H s):∀b o,X.base.get? b=some o->s.heap.get? b=some o:=fun b o e=>(I.bs b o e).1
theorem Inv.mod (I:Inv X pins σ H s):Mod X.K X.mg X.base:=I.ok.mod
theorem Inv.y9 (I:Inv X pins σ H s):X.K.In s.heap:=I.ok.mod.kin.keeps I.bk
theorem Inv.lt (I:Inv X pins σ H s):X.env.locals<s.heap.objs.size:=let ⟨_,hn,_⟩:=I.loc;hn.lt
theorem Inv.sz (I:Inv X pins σ H s):X.xo.heap.objs.size<=s.heap.objs.size:=Nat.le_trans I.ok.above (Nat.le_of_lt I.lt)
theorem Inv.nofs (I:Inv X pins σ H s) {a:Addr} (h:s.heap.objs.size<=a):a∉X.fs:=fun hb=>by
 obtain⟨_,o,ho,_⟩:=I.ok.uE.mem hb
 exact absurd (Nat.lt_of_lt_of_le (Heap.lt_size ho) (Nat.le_trans I.sz h)) (Nat.lt_irrefl _)
theorem Inv.JQ (I:Inv X pins σ H s):∀x c,X.env.cells.lookup x=some c->c≠X.env.locals:=fun x c e z=>by
 obtain⟨v,o,ho,hd⟩:=I.cell x c e
 obtain⟨m,⟨o',es,ep,ho',hd',_⟩,_⟩:=I.loc
 rw[z,ho'] at ho;cases ho;rw[hd'] at hd;cases hd
theorem Inv.uE (I:Inv X pins σ H s):s.heap.FunFrames X.base X.outer:=by
 have all:∀(l:List Env),(∀b∈rU l,b∈X.fs)->X.xo.heap.FunFrames X.base l->s.heap.FunFrames X.base l:=by
  intro l
  induction l with
  | nil=>intro _ _;trivial
  | cons env r ih =>
   intro hs hl
   obtain⟨hk,⟨L,o,hf,hn,ho,hd⟩,hr⟩:=hl
   have hL:L∈X.fs:=hs L (by unfold rU;rw[List.filterMap_cons,hf];exact List.mem_cons_self)
   obtain⟨sl,e⟩:=I.base.slot L o ho (I.ok.HR L hL) hL fun z=>I.ok.CV L z hL
   exact⟨hk,⟨L,_,hf,hn,e,hd⟩,ih (fun b hb=>hs b (by unfold rU;rw[List.filterMap_cons,hf];exact List.mem_cons_of_mem _ hb)) hr⟩
 exact all X.outer (fun _ hb=>hb) I.ok.uE
theorem Inv.stack (I:Inv X pins σ H s):s.heap.FunFrames X.base X.stack:=by
 rcases I.ok.stk with e|⟨e,hf⟩
 ·rw[e];exact I.uE
 ·rw[e]
  obtain⟨m,hn,_⟩:=I.loc
  refine .cons (by rw[I.ok.kind];decide) hf hn ?_ I.uE
  exact Heap.get?_none_of_le (Nat.le_trans I.ok.GF I.ok.above)
theorem Inv.Cm (I:Inv X pins σ H s):∀b∈rU X.stack,b∈X.env.locals::X.fs:=fun b hb=>by
 rcases I.ok.stk with e|⟨e,hf⟩
 ·rw[e] at hb;exact List.mem_cons_of_mem _ hb
 ·rw[e] at hb
  unfold rU at hb
  rw[List.filterMap_cons,hf] at hb
  exact hb
theorem Inv.zQ (I:Inv X pins σ H s):∀b∈rU X.stack,H b=none:=fun b hb=>by
 rcases List.mem_cons.mp (I.Cm b hb) with e|hb
 ·rw[e];exact I.free
 ·obtain⟨_,o,ho,_⟩:=I.ok.uE.mem hb
  exact I.base.free b o ho (I.ok.HR b hb) fun z=>I.ok.CV b z hb
theorem Inv.step {g':Array GenState} {t':Nat} {d':Drawn} {ch:List Addr} (I:Inv X pins σ H s)
  (hch:∀b∈ch,(b∈X.ex\/X.xo.heap.objs.size<=b)/\b≠X.env.locals/\(∀x c,X.env.cells.lookup x=some c->c≠b)/\∀p∈X.pn++pins,p.1≠b)
  (keep:∀b o,b≠X.env.locals->b∉X.fs->b∉ch->s.heap.get? b=some o->H b=none->h'.get? b=some o)
  (slot:∀b o,b≠X.env.locals->b∈X.fs->b∉ch->s.heap.get? b=some o->H b=none->∃sl,h'.get? b=some {o with slots:=sl}) (free:∀b o,b∉ch->s.heap.get? b=some o->H b=none->H' b=none)
  (there:∀b o,b∉ch->s.heap.get? b=some o->∃o',h'.get? b=some o')
  (tW:∀b xs,H b=some (.tup xs)->H' b=some (.tup xs)) (tI:∀b o u,H b=some (.wU o u)->H' b=some (.wU o u)) (tX:∀b ps,H b=some (.Ij ps)->∃more,H' b=some (.Ij (ps++more)))
  (ns:∀m,s.heap.Ns X.env.locals m->h'.Ns X.env.locals m) (dz:p9 X.prog X.w H' h') (hg:AllBare g') :
  Inv X pins σ H' {s with heap:=h',gens:=g',drawn:=d',toks:=t'}:=by
 have neL:∀b o,X.xo.heap.get? b=some o->b≠X.env.locals:=fun b o e=>Nat.ne_of_lt (Nat.lt_of_lt_of_le (Heap.lt_size e) I.ok.above)
 have neC:∀b o,X.xo.heap.get? b=some o->b∉X.ex->b∉ch:=fun b o e hx hb=>by
  rcases (hch b hb).1 with z|z
  ·exact hx z
  ·exact absurd (Nat.lt_of_lt_of_le (Heap.lt_size e) z) (Nat.lt_irrefl _)
 have cellK:∀x c,X.env.cells.lookup x=some c->∀v,s.heap.IsCell c v->h'.IsCell c v:=fun x c e v ⟨o,ho,hd⟩=>by
  have nch:c∉ch:=fun z=>(hch c z).2.2.1 x c e rfl
  by_cases hc:c∈X.fs
  ·obtain⟨sl,q⟩:=slot c o (I.JQ x c e) hc nch ho (I.lY x c e)
   exact⟨_,q,hd⟩
  ·exact⟨o,keep c o (I.JQ x c e) hc nch ho (I.lY x c e),hd⟩
 refine⟨I.ok,I.os,hg,⟨fun b o e n hb hx=>?_,fun b o e n hb hx=>?_,fun b o e n hx=>?_,fun b o e hx=>?_,fun b xs e=>tW b xs (I.base.tW b xs e),fun b o xs e=>tI b o xs (I.base.tI b o xs e),fun b ps e=>?_⟩,?_,fun x c e=>?_,?_,fun x c e=>?_,fun p hp=>?_,dz,I.len⟩
 ·exact keep b o (neL b o e) hb (neC b o e hx) (I.base.keep b o e n hb hx) (I.base.free b o e n hx)
 ·obtain⟨sl,e1⟩:=I.base.slot b o e n hb hx
  obtain⟨sl',e2⟩:=slot b _ (neL b o e) hb (neC b o e hx) e1 (I.base.free b o e n hx)
  exact⟨sl',e2⟩
 ·obtain⟨o',e1⟩:=I.base.there b o e hx
  exact free b o' (neC b o e hx) e1 (I.base.free b o e n hx)
 ·obtain⟨o',e1⟩:=I.base.there b o e hx
  exact there b o' (neC b o e hx) e1
 ·obtain⟨m1,e1⟩:=I.base.tX b ps e
  obtain⟨m2,e2⟩:=tX b _ e1
  exact⟨m1++m2,by rw[e2,Array.append_assoc]⟩
 ·obtain⟨m,hn,hl⟩:=I.loc
  refine⟨m,ns m hn,fun i x v e1 e2 e3=>?_⟩
  obtain⟨u,r,l⟩:=hl i x v e1 e2 e3
  refine⟨u,r,?_⟩
  rcases l with l|⟨k,c,e,z⟩
  ·exact .inl l
  ·exact .inr ⟨k,c,e,cellK x c e _ z⟩
 ·obtain⟨v,z⟩:=I.cell x c e
  exact⟨v,cellK x c e v z⟩
 ·obtain⟨m,⟨o,_,_,ho,_⟩,_⟩:=I.loc
  exact free _ o (fun z=>(hch _ z).2.1 rfl) ho I.free
 ·obtain⟨v,o,ho,hd⟩:=I.cell x c e
  exact free c o (fun z=>(hch c z).2.2.1 x c e rfl) ho (I.lY x c e)
 ·obtain⟨e,n,ne,nf,d⟩:=I.pin p hp
  have nch:p.1∉ch:=fun z=>(hch p.1 z).2.2.2 p hp rfl
  exact⟨keep p.1 p.2 ne nf nch e n,free p.1 p.2 nch e n,ne,nf,d⟩
theorem Inv.un {t':Nat} (I:Inv X pins σ H s) (u:Un X.fs [] H H' s.heap h') (dz:p9 X.prog X.w H' h'):Inv X pins σ H' {s with heap:=h',toks:=t'}:=by
 obtain⟨m,⟨o,es,ep,ho,r⟩,_⟩:=id I.loc
 obtain⟨sl,hL⟩:=u.any ho I.free (by simp)
 exact I.step (g':=s.gens) (d':=s.drawn) (ch:=[]) (fun _ z=>nomatch z) (fun b o _ hb _ e n=>u.keep b o e n hb (by simp)) (fun b o _ hb _ e n=>u.slot b o e n hb (by simp)) (fun b o _ e n=>u.free b o e n (by simp)) (fun b o _ e=>u.there b o e (by simp)) u.tW u.tI u.tX (fun m' hm=>by
  obtain⟨o',es',ep',ho',r'⟩:=hm
  rw[ho] at ho';cases ho'
  exact⟨_,es',ep',hL,r'⟩) dz I.bare
theorem Inv.call {g':Array GenState} {t':Nat} {d':Drawn} {ch:List Addr} (I:Inv X pins σ H s) (u:Un (rU X.stack) ch H H' s.heap h') (dz:p9 X.prog X.w H' h') (hg:AllBare g')
  (hch:∀b∈ch,(b∈X.ex\/X.xo.heap.objs.size<=b)/\b≠X.env.locals/\(∀x c,X.env.cells.lookup x=some c->c≠b)/\∀p∈X.pn++pins,p.1≠b) :
  Inv X pins σ H' {s with heap:=h',gens:=g',drawn:=d',toks:=t'}:=by
 obtain⟨m,⟨o,es,ep,ho,r⟩,_⟩:=id I.loc
 obtain⟨sl,hL⟩:=u.any ho I.free fun z=>(hch _ z).2.1 rfl
 exact I.step (ch:=ch) hch (fun b o hL hb hc e n=>u.keep b o e n (fun z=>(List.mem_cons.mp (I.Cm b z)).elim hL hb) hc) (fun b o _ _ hc e n=>u.any e n hc) (fun b o hc e n=>u.free b o e n hc) (fun b o hc e=>u.there b o e hc) u.tW u.tI u.tX (fun m' hm=>by
  obtain⟨o',es',ep',ho',r'⟩:=hm
  rw[ho] at ho';cases ho'
  exact⟨_,es',ep',hL,r'⟩) dz hg
theorem Inv.turned {t':Nat} {it:Addr} (I:Inv X pins σ H s) (k:∀b o,b≠it->s.heap.get? b=some o->h'.get? b=some o) (hn:H it=none) (hL:it≠X.env.locals)
  (h1:it∈X.ex\/X.xo.heap.objs.size<=it) (h2:∀x c,X.env.cells.lookup x=some c->c≠it) (h3:∀p∈X.pn++pins,p.1≠it):Inv X pins σ H {s with heap:=h',toks:=t'}:=by
 have nit:∀b u,H b=some u->b≠it:=fun b u e z=>by rw[z,hn] at e;cases e
 refine I.step (g':=s.gens) (d':=s.drawn) (ch:=[it]) (fun b hb=>?_) (fun b o _ _ hc e _=>k b o (fun z=>hc (by simp[z])) e) (fun b o _ _ hc e _=>⟨o.slots,k b o (fun z=>hc (by simp[z])) e⟩) (fun _ _ _ _ n=>n)
  (fun b o hc e=>⟨o,k b o (fun z=>hc (by simp[z])) e⟩) (fun _ _ e=>e) (fun _ _ _ e=>e) (fun b ps e=>⟨#[],by rw[e];simp⟩) (fun m hm=>?_) (fun b u e=>?_) I.bare
 ·have e:b=it:=by simpa using hb
  subst e
  exact⟨h1,hL,h2,h3⟩
 ·obtain⟨o,es,ep,ho,r⟩:=hm
  exact⟨o,es,ep,k _ o (Ne.symm hL) ho,r⟩
 ·refine(I.dz b u e).Cn (fun c v hc q=>k c v ?_ q) (fun _ q=>q) fun _ _ q=>q
  rcases hc with z|z
  ·rw[z];exact nit b u e
  ·exact nit c _ z
theorem Inv.tok (I:Inv X pins σ H s) (t:Nat):Inv X pins σ H {s with toks:=t}:=I.un (h':=s.heap) (t':=t) Un.refl I.dz
theorem Inv.kept {t':Nat} (I:Inv X pins σ H s) (k:∀b u,s.heap.get? b=some u->h'.get? b=some u):Inv X pins σ H {s with heap:=h',toks:=t'}:=I.un (Un.kept k) (I.dz.kept k)
theorem Inv.laid {a:Addr} {o:HO} {t':Nat} (I:Inv X pins σ H s) (k:∀b u,s.heap.get? b=some u->h'.get? b=some u) (hp:s.heap.objs.size<=a) (new:eU X.prog X.w (upd H a o) h' a o) :
  Inv X pins σ (upd H a o) {s with heap:=h',toks:=t'}:=I.un (Un.laid k hp (I.dz.fresh hp)) (I.dz.laid k hp new)
theorem Inv.write {x e:Addr} {o:HO} {t':Nat} (I:Inv X pins σ H s) (mu:Mut (H x)) (he:e=x\/H e=some (.own x)) (k:∀b u,b≠e->s.heap.get? b=some u->h'.get? b=some u) (heo:∃u,h'.get? e=some u)
  (new:eU X.prog X.w (upd H x o) h' x o):Inv X pins σ (upd H x o) {s with heap:=h',toks:=t'}:=I.un (Un.write mu he k heo) (I.dz.write mu he k heo new)
theorem Inv.weak {σ':List (Option V)} (I:Inv X pins σ H s) (hl:σ'.length=σ.length) (w:∀(i:Nat) v,σ'[i]?=some (some v)->σ[i]?=some (some v)):Inv X pins σ' H s :=
 ⟨I.ok,I.os,I.bare,I.base,let ⟨m,hn,hl'⟩:=I.loc;⟨m,hn,fun i x v e1 e2 e3=>hl' i x v e1 (w i v e2) e3⟩,I.cell,I.free,I.lY,I.pin,I.dz,hl.trans I.len⟩
theorem Inv.Du {pins':List (Addr×Obj)} (I:Inv X pins σ H s) (h:∀p∈pins',s.heap.get? p.1=some p.2/\H p.1=none/\p.1≠X.env.locals/\p.1∉X.fs/\∀v,p.2.data≠.cell v):Inv X pins' σ H s :=
 ⟨I.ok,I.os,I.bare,I.base,I.loc,I.cell,I.free,I.lY,fun p hp=>(List.mem_append.mp hp).elim (fun z=>I.pin p (List.mem_append_left _ z)) (h p),I.dz,I.len⟩
theorem xG {N:List Str} (hN:N.Nodup) {i j:Nat} {x:Str} (a:N[i]?=some x) (b:N[j]?=some x):i=j:=by
 obtain⟨h1,e1⟩:=List.getElem?_eq_some_iff.mp a
 obtain⟨h2,e2⟩:=List.getElem?_eq_some_iff.mp b
 exact(List.getElem_inj hN).mp (e1.trans e2.symm)
theorem Eu {M:Model} {A:Around} {E:Value->Shared->Prop} {i:Nat} {x:Str} {v:V} {u:Value} {Q:Unit->Shared->Prop} (I:Inv X pins σ H s) (hN:X.N.Nodup) (hi:X.N[i]?=some x) (hx:Loc X.env.scope x) (r:RelV v u)
  (h:∀s',Inv X pins (σ.set i (some v)) H s'->(∃a,Heap.SameBut a s.heap s'.heap/\(a=X.env.locals\/X.env.cells.lookup x=some a))->Q () s') (hf:X.fn x=true\/X.env.scope.names.lookup x=some .local:=by first|exact .inl rfl|exact .inr rfl|assumption):wpAny M A (storeName X.env x u) Q E s:=by
 obtain⟨m,hn,hl⟩:=id I.loc
 have hcls:(X.env.scope.kind==.class||(X.env.scope.kind==.module&&X.env.locals != X.env.globals))=false:=by rw[I.ok.kind];rfl
 have hiσ:i<σ.length:=by rw[I.len];exact(List.getElem?_eq_some_iff.mp hi).1
 have JQ:=I.JQ
 have tracked:∀{a:Addr} {h':Heap},(∃o,s.heap.get? a=some o/\H a=none)->Heap.SameBut a s.heap h'->p9 X.prog X.w H h':=fun {a h'} ha hs b ob e=>by
  obtain⟨_,_,hfree⟩:=ha
  refine(I.dz b ob e).Cn (fun c w' hc q=>(hs.2 c ?_).trans q) (fun _ q=>q) fun _ _ q=>q
  rintro rfl
  rcases hc with rfl|hc
  ·rw[hfree] at e;cases e
  ·rw[hfree] at hc;cases hc
 rcases hx with hk|hk
 ·refine wpAny_storeName_local hk hn (fun h' hn' hs=>?_) hcls
  obtain⟨oL,_,_,hoL,_⟩:=id hn
  refine h _ ⟨I.ok,I.os,I.bare,⟨fun b o e n hb hx=>?_,fun b o e n hb hx=>?_,I.base.free,fun b o e hx=>?_,I.base.tW,I.base.tI,I.base.tX⟩,⟨_,hn',fun j y v' e1 e2 e3=>?_⟩,fun y c e=>?_,I.free,I.lY,fun p hp=>?_,tracked ⟨oL,hoL,I.free⟩ hs,by simpa using I.len⟩ ⟨_,hs,.inl rfl⟩
  ·exact(hs.2 b (Nat.ne_of_lt (Nat.lt_of_lt_of_le (Heap.lt_size e) I.ok.above))).trans (I.base.keep b o e n hb hx)
  ·obtain⟨sl,e1⟩:=I.base.slot b o e n hb hx
   exact⟨sl,(hs.2 b (Nat.ne_of_lt (Nat.lt_of_lt_of_le (Heap.lt_size e) I.ok.above))).trans e1⟩
  ·obtain⟨o',e1⟩:=I.base.there b o e hx
   exact⟨o',(hs.2 b (Nat.ne_of_lt (Nat.lt_of_lt_of_le (Heap.lt_size e) I.ok.above))).trans e1⟩
  ·by_cases hj:j=i
   ·subst hj
    rw[hi] at e1;cases e1
    rw[List.getElem?_set_self hiσ] at e2
    cases e2
    exact⟨u,r,.inl ⟨hk,by simp⟩⟩
   ·rw[List.getElem?_set_ne (Ne.symm hj)] at e2
    obtain⟨u',r',q⟩:=hl j y v' e1 e2 e3
    refine⟨u',r',?_⟩
    rcases q with⟨k,e⟩|⟨k,c,e,z⟩
    ·refine .inl ⟨k,?_⟩
     have:y≠x:=fun e=>hj (xG hN e1 (e▸hi))
     simp[this,e]
    ·exact .inr ⟨k,c,e,z.sameBut hs (JQ y c e)⟩
  ·obtain⟨w',z⟩:=I.cell y c e
   exact⟨w',z.sameBut hs (JQ y c e)⟩
  ·obtain⟨e,n,ne,nf,d⟩:=I.pin p hp
   exact⟨(hs.2 p.1 ne).trans e,n,ne,nf,d⟩
 ·have hfn:X.fn x=true:=by
   rcases hf with z|z
   ·exact z
   ·rw[z] at hk;cases hk
  obtain⟨c,hc⟩:=I.ok.has x (.inl hk)
  obtain⟨w',z⟩:=I.cell x c hc
  refine wpAny_storeName_cell I.ok.kind hk hc z (fun h' hc' hs=>?_)
  obtain⟨oc,hoc,hocd⟩:=id z
  refine h {s with heap:=h'} ⟨I.ok,I.os,I.bare,⟨fun b o e n hb hx=>?_,fun b o e n hb hx=>?_,I.base.free,fun b o e hx=>?_,I.base.tW,I.base.tI,I.base.tX⟩,⟨m,hn.sameBut hs (Ne.symm (JQ x c hc)),fun j y v' e1 e2 e3=>?_⟩,fun y c' e=>?_,I.free,I.lY,fun p hp=>?_,tracked ⟨oc,hoc,I.lY x c hc⟩ hs,by simpa using I.len⟩ ⟨c,hs,.inr hc⟩
  ·exact(hs.2 b (Nat.ne_of_lt (Nat.lt_of_lt_of_le (Heap.lt_size e) (I.ok.JR x c hfn hc)))).trans (I.base.keep b o e n hb hx)
  ·obtain⟨sl,e1⟩:=I.base.slot b o e n hb hx
   exact⟨sl,(hs.2 b (Nat.ne_of_lt (Nat.lt_of_lt_of_le (Heap.lt_size e) (I.ok.JR x c hfn hc)))).trans e1⟩
  ·obtain⟨o',e1⟩:=I.base.there b o e hx
   exact⟨o',(hs.2 b (Nat.ne_of_lt (Nat.lt_of_lt_of_le (Heap.lt_size e) (I.ok.JR x c hfn hc)))).trans e1⟩
  ·by_cases hj:j=i
   ·subst hj
    rw[hi] at e1;cases e1
    rw[List.getElem?_set_self hiσ] at e2
    cases e2
    exact⟨u,r,.inr ⟨.inl hk,c,hc,hc'⟩⟩
   ·rw[List.getElem?_set_ne (Ne.symm hj)] at e2
    obtain⟨u',r',q⟩:=hl j y v' e1 e2 e3
    refine⟨u',r',?_⟩
    rcases q with q|⟨k,c',e,z'⟩
    ·exact .inl q
    ·refine .inr ⟨k,c',e,z'.sameBut hs ?_⟩
     rintro rfl
     exact hj (xG hN e1 (I.ok.inj _ _ _ e hc▸hi))
  ·by_cases hcc:c'=c
   ·subst hcc;exact⟨_,hc'⟩
   ·obtain⟨w2,z2⟩:=I.cell y c' e
    exact⟨w2,z2.sameBut hs hcc⟩
  ·obtain⟨e,n,ne,nf,d⟩:=I.pin p hp
   refine⟨(hs.2 p.1 ?_).trans e,n,ne,nf,d⟩
   intro q
   rw[q,hoc] at e
   have q':oc=p.2:=Option.some.inj e
   exact d w' (by rw[<-q'];exact hocd)
theorem xc {M:Model} {A:Around} {E:Value->Shared->Prop} {i:Nat} {x:Str} {v:V} {u:Value} {Q:Unit->Shared->Prop} (I:Inv X pins σ H s) (hN:X.N.Nodup) (hi:X.N[i]?=some x) (hx:Loc X.env.scope x) (r:RelV v u)
  (h:∀s',Inv X pins (σ.set i (some v)) H s'->Q () s') (hf:X.fn x=true\/X.env.scope.names.lookup x=some .local:=by first|exact .inl rfl|exact .inr rfl|assumption):wpAny M A (storeName X.env x u) Q E s :=
 Eu I hN hi hx r (fun s' I' _=>h s' I') hf
theorem Inv.IF {s':Shared} {ch:List Addr} (I:Inv X pins σ H s) (ho:s'.os=s.os) (u:Un (rU X.stack) ch H H' s.heap s'.heap) (dz:p9 X.prog X.w H' s'.heap) (hg:AllBare s'.gens)
  (hch:∀b∈ch,(b∈X.ex\/X.xo.heap.objs.size<=b)/\b≠X.env.locals/\(∀x c,X.env.cells.lookup x=some c->c≠b)/\∀p∈X.pn++pins,p.1≠b):Inv X pins σ H' s':=by
 obtain⟨h',g',d',t',o'⟩:=s'
 have e:o'=s.os:=ho
 subst e
 exact I.call (g':=g') (t':=t') (d':=d') u dz hg hch
end
abbrev XK:=Value->Option Addr->Hp->Prop
abbrev St:=List (Option V)
abbrev VK:=V->Hp->Prop
abbrev TE:=St->Hp->VK->Prop
abbrev TT:=St->Hp->(Bool->Hp->Prop)->Prop
abbrev TA:=St->Hp->(List V->Hp->Prop)->Prop
structure Ends where
 nx:St->Hp->Prop
 rt:VK
 bk:St->Hp->Prop:=fun _ _=>False
 ct:St->Hp->Prop:=fun _ _=>False
abbrev TS:=Ends->St->Hp->Prop
def EP (X:Cx) (pins:List (Addr×Obj)) (σ:St) (Q:VK) (u:Value) (s':Shared):Prop:=∃v H',Inv X pins σ H' s'/\RelV v u/\Q v H'
def TP (X:Cx) (pins:List (Addr×Obj)) (σ:St) (Q:Bool->Hp->Prop) (b:Bool) (s':Shared):Prop:=∃H',Inv X pins σ H' s'/\Q b H'
def AP (X:Cx) (pins:List (Addr×Obj)) (σ:St) (Q:List V->Hp->Prop) (us:List Value) (s':Shared):Prop:=∃vs H',Inv X pins σ H' s'/\Vals vs us/\Q vs H'
def SP (X:Cx) (pins:List (Addr×Obj)) (D:Ends) (f:Flow) (s':Shared):Prop :=
 match f with
 | .next=>∃σ' H',Inv X pins σ' H' s'/\D.nx σ' H'
 | .brk=>∃σ' H',Inv X pins σ' H' s'/\D.bk σ' H'
 | .cont=>∃σ' H',Inv X pins σ' H' s'/\D.ct σ' H'
 | .ret u=>∃v σ' H',Inv X pins σ' H' s'/\RelV v u/\D.rt v H'
def PE (X:Cx) (e:Expr) (t:TE):Prop :=
 ∀(pins:List (Addr×Obj)) (s:Shared) (σ:St) (H:Hp) (Q:VK),Inv X pins σ H s->t σ H Q->wpAny (model X.prog X.w) X.A (eval e X.env) (EP X pins σ Q) X.xe s
def PT (X:Cx) (e:Expr) (t:TT):Prop :=
 ∀(pins:List (Addr×Obj)) (s:Shared) (σ:St) (H:Hp) (Q:Bool->Hp->Prop),Inv X pins σ H s->t σ H Q->wpAny (model X.prog X.w) X.A (isTrue e X.env (eval e X.env)) (TP X pins σ Q) X.xe s
def PW (X:Cx) (e:Expr) (t:TT):Prop :=
 ∀(whole:Sem Value) (pins:List (Addr×Obj)) (s:Shared) (σ:St) (H:Hp) (Q:Bool->Hp->Prop),Inv X pins σ H s->t σ H Q->wpAny (model X.prog X.w) X.A (isTrue e X.env whole) (TP X pins σ Q) X.xe s
theorem PW.pt {X:Cx} {e:Expr} {t:TT} (h:PW X e t):PT X e t:=h _
def PA (X:Cx) (es:List Expr) (t:TA):Prop :=
 ∀(pos:Pos) (pins:List (Addr×Obj)) (s:Shared) (σ:St) (H:Hp) (Q:List V->Hp->Prop),Inv X pins σ H s->t σ H Q->wpAny (model X.prog X.w) X.A (spliced (backTo pos (starEach es X.env))) (AP X pins σ Q) X.xe s
def PS (X:Cx) (st:Stmt) (t:TS):Prop :=
 ∀(pins:List (Addr×Obj)) (s:Shared) (σ:St) (H:Hp) (D:Ends),Inv X pins σ H s->t D σ H->wpAny (model X.prog X.w) X.A (exec st X.env) (SP X pins D) X.xe s
def Ce (X:Cx) (st:List Stmt) (t:TS):Prop :=
 ∀(pins:List (Addr×Obj)) (s:Shared) (σ:St) (H:Hp) (D:Ends),Inv X pins σ H s->t D σ H->wpAny (model X.prog X.w) X.A (execs st X.env) (SP X pins D) X.xe s
theorem eS {α:Type} {t:Sem α} {Q Q':α->Shared->Prop} {M:Model} {A:Around} {E:Value->Shared->Prop} {s:Shared} (h:wpAny M A t Q E s) (hQ:∀a s,Q a s->Q' a s):wpAny M A t Q' E s:=wpAny_mono h hQ fun _ _ x=>x
end L2
namespace L2
open PySem PySem.Spec PyProof.Rows
section
variable {X:Cx}
theorem bin {a b:Expr} {ta tb:TE} (ha:PE X a ta) (hb:PE X b tb) {pins:List (Addr×Obj)} {s:Shared} {σ:St} {H:Hp} {R:V->V->Hp->Prop} (I:Inv X pins σ H s) (h:ta σ H fun x H1=>tb σ H1 fun y H2=>R x y H2)
  {α:Type} {Q:α->Shared->Prop} {f:Value->Value->Sem α}
  (hf:∀v u s2 x y H2,Inv X pins σ H2 s2->RelV x v->RelV y u->R x y H2->wpAny (model X.prog X.w) X.A (f v u) Q X.xe s2) :
  wpAny (model X.prog X.w) X.A (eval a X.env) (fun v s₁=>wpAny (model X.prog X.w) X.A (eval b X.env) (fun u s₂=>wpAny (model X.prog X.w) X.A (f v u) Q X.xe s₂) X.xe s₁) X.xe s:=by
 refine eS (ha pins s σ H _ I h) fun v s1 ⟨x,H1,I1,r1,q1⟩=>?_
 refine eS (hb pins s1 σ H1 _ I1 q1) fun u s2 ⟨y,H2,I2,r2,q2⟩=>?_
 exact hf v u s2 x y H2 I2 r1 r2 q2
inductive VarP (o:Option (Option V)) (Q:V->Prop):Prop|mk (v:V):o=some (some v)->Q v->VarP o Q
def IY (i:Nat):TE:=fun σ H Q=>VarP σ[i]? fun v=>Q v H
def tC (v:V):TE:=fun _ H Q=>Q v H
theorem JA {i:Nat} {x:Str} {pos:Pos} (hN:X.N[i]?=some x) (hv:Vis X.env.scope x) (hd:(x==("__debug__" : Str))=false:=by decide) (hcd:(x==("__classdict__" : Str))=false:=by decide):PE X (.Name x pos) (IY i):=by
 intro pins s σ H Q I h
 obtain⟨v,e,h⟩:=h
 obtain⟨m,hn,hl⟩:=I.loc
 obtain⟨u,r,l⟩:=hl i x v hN e hv
 have fin:EP X pins σ Q u s:=⟨v,H,I,r,h⟩
 rcases l with⟨hk,hm⟩|⟨hk,c,hc,hcell⟩
 ·exact wpAny_Name (wpAny_loadName_local I.ok.kind hk hn hm fin) hd
 ·rcases hk with hk|hk
  ·exact wpAny_Name (wpAny_loadName_cell I.ok.kind hk hc hcell fin) hd
  ·exact wpAny_Name (wpAny_loadName_free I.ok.kind hk hc hcell fin hcd) hd
theorem aq {i j pos}:PE X (.Constant (.int i) j pos) (tC (.int i)):=fun _ _ _ H _ I h=>wpAny_Constant_int ⟨.int i,H,I.tok _,⟨_,rfl⟩,h⟩
theorem xx {b j pos}:PE X (.Constant (.bool b) j pos) (tC (.bl b)):=fun _ _ _ H _ I h=>Constant_bool ⟨.bl b,H,I,rfl,h⟩
theorem lM {j pos}:PE X (.Constant .none j pos) (tC .bo):=fun _ _ _ H _ I h=>Constant_none ⟨.bo,H,I,rfl,h⟩
theorem z5 {x j pos}:PE X (.Constant (.str x) j pos) (tC (.str x)):=fun _ _ _ H _ I h=>Calls.Constant_str ⟨.str x,H,I.tok _,⟨_,rfl⟩,h⟩
def Gl (X:Cx) (x:Str):Prop:=X.env.kindOf x=some .globalImplicit
theorem mT {E:Value->Shared->Prop} {pins:List (Addr×Obj)} {s:Shared} {σ:St} {H:Hp} {x:Str} {u:Value} {pos:Pos} {Q:Value->Shared->Prop} (I:Inv X pins σ H s) (hg:Gl X x) (hm:X.mg x=some u) (h:Q u s)
  (hd:(x==("__debug__" : Str))=false:=by decide):wpAny (model X.prog X.w) X.A (eval (.Name x pos) X.env) Q E s :=
 Calls.Name_function_global I.ok.kind hg (Calls.loadGlobal_global (by rw[I.ok.glob];exact I.mod.glob.keeps I.bk) hm h) hd
theorem xK {E:Value->Shared->Prop} {pins:List (Addr×Obj)} {s:Shared} {σ:St} {H:Hp} {x:Str} {u:Value} {pos:Pos} {Q:Value->Shared->Prop} (I:Inv X pins σ H s) (hg:Gl X x) (hm:X.mg x=none) (hv:bootBuiltins x=some u) (h:Q u s)
  (hn:x ≠ "__name__" := by decide) (hd:(x==("__debug__" : Str))=false:=by decide):wpAny (model X.prog X.w) X.A (eval (.Name x pos) X.env) Q E s:=by
 obtain⟨mb,h1,h2⟩:=I.mod.blt
 exact Calls.Name_function_global I.ok.kind hg (Calls.loadGlobal_builtin (by rw[I.ok.glob];exact I.mod.glob.keeps I.bk) hm (by rw[I.ok.blt];exact h1.keeps I.bk) ((h2 x hn).trans hv) h) hd
theorem Dx {x:Str} {v:V} {u:Value} {pos:Pos} (hg:Gl X x) (hm:X.mg x=some u) (r:RelV v u) (hd:(x==("__debug__" : Str))=false:=by decide):PE X (.Name x pos) (tC v) :=
 fun _ _ _ H _ I h=>mT I hg hm ⟨v,H,I,r,h⟩ hd
inductive GS (x y:V) (Q:Int->Int->Prop):Prop|mk (i j:Int):x=.int i->y=.int j->Q i j->GS x y Q
def t2I (ta tb:TE) (k:Int->Int->Hp->Prop):St->Hp->Prop:=fun σ H=>ta σ H fun x H1=>tb σ H1 fun y H2=>GS x y fun i j=>k i j H2
variable {a b:Expr} {ta tb:TE} {pos:Pos}
def PC (X:Cx) (op:CmpOp) (a b:Expr) (t:TE):Prop :=
 ∀(pins:List (Addr×Obj)) (s:Shared) (σ:St) (H:Hp) (Q:VK),Inv X pins σ H s->t σ H Q ->
  wpAny (model X.prog X.w) X.A (eval a X.env) (fun v s₁=>wpAny (model X.prog X.w) X.A (eval b X.env) (fun u s₂=>wpAny (model X.prog X.w) X.A (compareOp op v u) (EP X pins σ Q) X.xe s₂) X.xe s₁) X.xe s
theorem Bg (b:Expr) {op:CmpOp} (h:op≠.In) (h2:op≠.NotIn):behindInMarks op b=false:=by
 have e1:(op==CmpOp.In)=false:=by cases op<;>first|rfl|exact absurd rfl h
 have e2:(op==CmpOp.NotIn)=false:=by cases op<;>first|rfl|exact absurd rfl h2
 cases b<;>simp[behindInMarks,e1,e2]
def Es (p:Int->Int->Bool) (ta tb:TE):TE:=fun σ H Q=>t2I ta tb (fun i j H2=>Q (.bl (p i j)) H2) σ H
abbrev tLt:TE->TE->TE:=Es fun i j=>decide (i<j)
abbrev tLe:TE->TE->TE:=Es fun i j=>decide (i<=j)
abbrev tGt:TE->TE->TE:=Es fun i j=>decide (j<i)
abbrev tEqI:TE->TE->TE:=Es fun i j=>decide (i=j)
abbrev tNeI:TE->TE->TE:=Es fun i j=>!decide (i=j)
theorem xB {op:CmpOp} {p:Int->Int->Bool} (ha:PE X a ta) (hb:PE X b tb)
  (rule:∀(i j:Int) (t u:Tok) (Q:Value->Shared->Prop) (s:Shared),Q (.bool (p i j)) s->wpAny (model X.prog X.w) X.A (compareOp op (.int i t) (.int j u)) Q X.xe s):PC X op a b (Es p ta tb):=by
 intro pins s σ H Q I h
 refine bin ha hb I h fun v u s2 x y H2 I2 rx ry q=>?_
 obtain⟨i,j,rfl,rfl,q⟩:=q
 obtain⟨t,rfl⟩:=rx
 obtain⟨t',rfl⟩:=ry
 exact rule i j t t' _ s2 ⟨.bl _,H2,I2,rfl,q⟩
theorem xy (ha:PE X a ta) (hb:PE X b tb):PC X .Lt a b (tLt ta tb):=xB ha hb fun _ _ _ _ _ _ h=>lt_int h
theorem Ir (ha:PE X a ta) (hb:PE X b tb):PC X .LtE a b (tLe ta tb):=xB ha hb fun _ _ _ _ _ _ h=>le_int h
theorem nV (ha:PE X a ta) (hb:PE X b tb):PC X .Gt a b (tGt ta tb):=xB ha hb fun _ _ _ _ _ _ h=>gt_int h
theorem bc (ha:PE X a ta) (hb:PE X b tb):PC X .Eq a b (tEqI ta tb):=xB ha hb fun _ _ _ _ _ _ h=>eq_int (by rw[Bool.beq_eq_decide_eq];exact h)
theorem z8 (ha:PE X a ta) (hb:PE X b tb):PC X .NotEq a b (tNeI ta tb):=xB ha hb fun _ _ _ _ _ _ h=>ne_int (by rw[bne,Bool.beq_eq_decide_eq];exact h)
def tIsN (ta:TE):TE:=fun σ H Q=>ta σ H fun x H1=>Q (.bl (decide (x=.bo))) H1
def tNotN (ta:TE):TE:=fun σ H Q=>ta σ H fun x H1=>Q (.bl (!decide (x=.bo))) H1
theorem RelV.Bf {x:V} {v:Value} (r:RelV x v):(v==Value.none)=decide (x=.bo):=by
 cases x with
 | bo=>cases r;rfl
 | bl _=>cases r;rfl
 | int _=>obtain⟨t,rfl⟩:=r;rfl
 | str _=>obtain⟨t,rfl⟩:=r;rfl
 | C9 _=>obtain⟨t,rfl⟩:=r;rfl
 | flt _=>obtain⟨t,rfl⟩:=r;rfl
 | ref _=>cases r;rfl
 | ty _=>cases r;rfl
theorem sZ {j pos'} (ha:PE X a ta):PC X .Is a (.Constant .none j pos') (tIsN ta):=by
 intro pins s σ H Q I h
 refine eS (ha pins s σ H _ I h) fun v s1 ⟨x,H1,I1,r1,q1⟩=>?_
 exact Constant_none (is_none_gen ⟨.bl _,H1,I1,by rw[r1.Bf];rfl,q1⟩)
theorem HC {j pos'} (ha:PE X a ta):PC X .IsNot a (.Constant .none j pos') (tNotN ta):=by
 intro pins s σ H Q I h
 refine eS (ha pins s σ H _ I h) fun v s1 ⟨x,H1,I1,r1,q1⟩=>?_
 exact Constant_none (isnot_none_gen ⟨.bl _,H1,I1,by rw[r1.Bf];rfl,q1⟩)
inductive BlP (x:V) (Q:Bool->Prop):Prop|mk (c:Bool):x=.bl c->Q c->BlP x Q
def tB (t:TE):TT:=fun σ H Q=>t σ H fun x H1=>BlP x fun c=>Q c H1
theorem qz {op:CmpOp} {t:TE} (h:PC X op a b t) (h1:behindInMarks op b=false:=by first|exact Bg _ (by decide) (by decide)|rfl):PE X (.Compare a [op] [b] pos) t:=fun pins s σ H Q I hw=>wpAny_Compare1 (h pins s σ H Q I hw) h1
theorem aO {op:CmpOp} {t:TE} (h:PC X op a b t) (h1:behindInMarks op b=false:=by first|exact Bg _ (by decide) (by decide)|rfl):PT X (.Compare a [op] [b] pos) (tB t):=by
 intro pins s σ H Q I hw
 refine wpAny_isTrue_Compare1 (eS (h pins s σ H _ I hw) fun v s1 h1=>eS h1 fun u s2 h2=>eS h2 fun c s3 ⟨x,H1,I1,r1,q1⟩=>?_) h1
 obtain⟨d,rfl,q⟩:=q1
 cases r1
 exact wpAny_truthy_bool ⟨H1,I1,q⟩
theorem fW {e:Expr} {t:TE} (h:PE X e t) (he:∀whole,isTrue e X.env whole=(do let v <-whole;standAt e.pos;holding [v] (truthy v)):=by intro _;rfl):PT X e (tB t):=by
 intro pins s σ H Q I hw
 refine isTrue_plain (eS (h pins s σ H _ I hw) fun v s1 ⟨x,H1,I1,r1,q1⟩=>?_) (he _)
 obtain⟨d,rfl,q⟩:=q1
 cases r1
 exact wpAny_truthy_bool ⟨H1,I1,q⟩
variable {tA tB':TT} {rest:List Expr}
def tAnd (t u:TT):TT:=fun σ H Q=>t σ H fun c H1=>if c=true then u σ H1 Q else Q false H1
def tOr (t u:TT):TT:=fun σ H Q=>t σ H fun c H1=>if c=true then Q true H1 else u σ H1 Q
def tNot (t:TT):TT:=fun σ H Q=>t σ H fun c H1=>Q (!c) H1
theorem ud (ha:PT X a tA):PW X (.BoolOp .And [a] pos) tA:=by
 intro wh pins s σ H Q I h
 refine isTrue_and (eS (ha pins s σ H Q I h) fun c s1 e=>?_)
 cases c with
 | true=>exact isTrue_and_nil e
 | false=>exact e
theorem sY (ha:PT X a tA):PW X (.BoolOp .Or [a] pos) tA:=by
 intro wh pins s σ H Q I h
 refine isTrue_or (eS (ha pins s σ H Q I h) fun c s1 e=>?_)
 cases c with
 | false=>exact isTrue_or_nil e
 | true=>exact e
theorem xt (ha:PT X a tA) (hb:PW X (.BoolOp .And (b::rest) pos) tB'):PW X (.BoolOp .And (a::b::rest) pos) (tAnd tA tB'):=by
 intro wh pins s σ H Q I h
 refine isTrue_and (eS (ha pins s σ H _ I h) fun c s1 ⟨H1,I1,q1⟩=>?_)
 cases c with
 | true=>exact hb wh pins s1 σ H1 Q I1 q1
 | false=>exact⟨H1,I1,q1⟩
theorem xr (ha:PT X a tA) (hb:PW X (.BoolOp .Or (b::rest) pos) tB'):PW X (.BoolOp .Or (a::b::rest) pos) (tOr tA tB'):=by
 intro wh pins s σ H Q I h
 refine isTrue_or (eS (ha pins s σ H _ I h) fun c s1 ⟨H1,I1,q1⟩=>?_)
 cases c with
 | true=>exact⟨H1,I1,q1⟩
 | false=>exact hb wh pins s1 σ H1 Q I1 q1
theorem nq (ha:PT X a tA):PT X (.UnaryOp .Not a pos) (tNot tA):=by
 intro pins s σ H Q I h
 exact isTrue_not (ha pins s σ H (fun c H1=>Q (!c) H1) I h)
def tAndV (ta tb:TE):TE:=fun σ H Q=>ta σ H fun x H1=>BlP x fun c=>if c=true then tb σ H1 Q else Q (.bl false) H1
def tOrV (ta tb:TE):TE:=fun σ H Q=>ta σ H fun x H1=>BlP x fun c=>if c=true then Q (.bl true) H1 else tb σ H1 Q
theorem Cy {op} {t:TE} (h:PE X a t):PE X (.BoolOp op [a] pos) t:=fun pins s σ H Q I hw=>BoolOp_one (h pins s σ H Q I hw)
theorem FX (ha:PE X a ta) (hb:PE X (.BoolOp .And (b::rest) pos) tb):PE X (.BoolOp .And (a::b::rest) pos) (tAndV ta tb):=by
 intro pins s σ H Q I h
 refine BoolOp_and (eS (ha pins s σ H _ I h) fun v s1 ⟨x,H1,I1,r1,q1⟩=>?_)
 obtain⟨c,rfl,q1⟩:=q1
 cases r1
 refine wpAny_truthy_bool ?_
 cases c with
 | true=>exact hb pins s1 σ H1 Q I1 q1
 | false=>exact⟨.bl false,H1,I1,rfl,q1⟩
theorem pe_or (ha:PE X a ta) (hb:PE X (.BoolOp .Or (b::rest) pos) tb):PE X (.BoolOp .Or (a::b::rest) pos) (tOrV ta tb):=by
 intro pins s σ H Q I h
 refine BoolOp_or (eS (ha pins s σ H _ I h) fun v s1 ⟨x,H1,I1,r1,q1⟩=>?_)
 obtain⟨c,rfl,q1⟩:=q1
 cases r1
 refine wpAny_truthy_bool ?_
 cases c with
 | false=>exact hb pins s1 σ H1 Q I1 q1
 | true=>exact⟨.bl true,H1,I1,rfl,q1⟩
def tIf (t:TT) (ta tb:TE):TE:=fun σ H Q=>t σ H fun c H1=>if c=true then ta σ H1 Q else tb σ H1 Q
theorem uh {c:Expr} (hc:PT X c tA) (ha:PE X a ta) (hb:PE X b tb):PE X (.IfExp c a b pos) (tIf tA ta tb):=by
 intro pins s σ H Q I h
 refine wpAny_IfExp (eS (hc pins s σ H _ I h) fun d s1 ⟨H1,I1,q1⟩=>?_)
 cases d with
 | true=>exact ha pins s1 σ H1 Q I1 q1
 | false=>exact hb pins s1 σ H1 Q I1 q1
end
end L2
namespace L2
open PySem PySem.Spec PyProof.Rows
def bM (K:PySem.W.Frag) (H:Hp) (a:Addr) (xs:List V):Prop :=
 Rd H a (.lst xs) \/
  ∃(o:Obj) (its:Array Value) (n:Nat),K.lookup a=some o/\o.cls=.type "list" /\ o.dict=none/\o.data=.seq its n/\its.size<=sizeLine/\Vals xs its.toList
def dM (K:PySem.W.Frag) (H:Hp) (a:Addr) (xs:List V):Prop :=
 Rd H a (.tup xs) \/
  ∃(o:Obj) (its:Array Value) (n:Nat),K.lookup a=some o/\o.cls=.type "tuple" /\ o.data=.seq its n/\its.size<=sizeLine/\Vals xs its.toList
def absV:Value->Option V
 | .none=>some .bo
 | .bool b=>some (.bl b)
 | .int i _=>some (.int i)
 | .str x _=>some (.str x)
 | .bytes b _=>some (.C9 b)
 | .float b _=>some (.flt b)
 | .ref a=>some (.ref a)
 | .type n=>some (.ty n)
 | _=>none
theorem RelV.abs {x:V} {u:Value} (r:RelV x u):absV u=some x:=by
 cases x with
 | bo=>cases r;rfl
 | bl _=>cases r;rfl
 | int _=>obtain⟨t,rfl⟩:=r;rfl
 | str _=>obtain⟨t,rfl⟩:=r;rfl
 | C9 _=>obtain⟨t,rfl⟩:=r;rfl
 | flt _=>obtain⟨t,rfl⟩:=r;rfl
 | ref _=>cases r;rfl
 | ty _=>cases r;rfl
theorem RelV.inj {x y:V} {u:Value} (r:RelV x u) (q:RelV y u):x=y:=Option.some.inj (r.abs.symm.trans q.abs)
theorem Vals.inj:∀{xs ys:List V} {us:List Value},Vals xs us->Vals ys us->xs=ys
 | _,_,_,.nil,.nil=>rfl
 | _,_,_,.cons r t,.cons r' t'=>by rw[r.inj r',Vals.inj t t']
section
variable {X:Cx} {pins:List (Addr×Obj)} {σ:St} {H:Hp} {s:Shared} {a:Addr} {xs ys:List V}
theorem bM.of {K:PySem.W.Frag} (h:H a=some (.lst xs)):bM K H a xs:=.inl (.inl h)
theorem dM.of {K:PySem.W.Frag} (h:H a=some (.tup xs)):dM K H a xs:=.inl (.inl h)
theorem Inv.list (I:Inv X pins σ H s) (h:bM X.K H a xs):∃its:List Value,Vals xs its/\PlainL s.heap a its.toArray/\xs.length<=sizeLine:=by
 rcases h with h|⟨o,its,n,hk,hc,hd,hs,hz,r⟩
 ·obtain⟨z,its,n,r,e⟩:=h.ok I.dz
  exact⟨its,r,⟨_,n,e,rfl,rfl,rfl⟩,z⟩
 ·refine⟨its.toList,r,⟨o,n,I.y9 a o hk,hc,hd,by simpa using hs⟩,?_⟩
  have e:=r.length
  simp only[Array.length_toList] at e
  omega
theorem Inv.tuple (I:Inv X pins σ H s) (h:dM X.K H a xs):∃its:List Value,Vals xs its/\IsTup s.heap a its.toArray/\xs.length<=sizeLine:=by
 rcases h with h|⟨o,its,n,hk,hc,hs,hz,r⟩
 ·obtain⟨z,its,r,p⟩:=h.ok I.dz
  exact⟨its,r,p,z⟩
 ·refine⟨its.toList,r,⟨o,I.y9 a o hk,hc,n,by simpa using hs⟩,?_⟩
  have e:=r.length
  simp only[Array.length_toList] at e
  omega
theorem Inv.Bn (I:Inv X pins σ H s) (h:bM X.K H a xs) (h':bM X.K H a ys):xs=ys:=by
 obtain⟨its,r,⟨o,n,e,_,_,d⟩,_⟩:=I.list h
 obtain⟨its',r',⟨o',n',e',_,_,d'⟩,_⟩:=I.list h'
 rw[e] at e';cases e'
 rw[d] at d'
 injection d' with d1 _
 have:its=its':=by simpa using congrArg Array.toList d1
 subst this
 exact r.inj r'
theorem Inv.Ep (I:Inv X pins σ H s) (h:dM X.K H a xs) (h':dM X.K H a ys):xs=ys:=by
 obtain⟨its,r,⟨o,e,_,n,d⟩,_⟩:=I.tuple h
 obtain⟨its',r',⟨o',e',_,n',d'⟩,_⟩:=I.tuple h'
 rw[e] at e';cases e'
 rw[d] at d'
 injection d' with d1 _
 have:its=its':=by simpa using congrArg Array.toList d1
 subst this
 exact r.inj r'
end
abbrev Cx.wj (X:Cx) (E:Value->Shared->Prop):Cx:={X with xe:=E}
abbrev Cx.nox (X:Cx):Cx:=X.wj fun _ _=>False
theorem Cx.Ok.wj {X:Cx} (ok:X.Ok) (E:Value->Shared->Prop):(X.wj E).Ok :=
 ⟨ok.mod,ok.kind,ok.glob,ok.blt,ok.above,ok.inj,ok.has,ok.JR,ok.hd,ok.frames,ok.stk,ok.exf,ok.bs,ok.GF,ok.CI,ok.CV,ok.uE,ok.HR⟩
theorem Cx.Ok.oE {X:Cx} {E:Value->Shared->Prop} (ok:(X.wj E).Ok):X.Ok :=
 ⟨ok.mod,ok.kind,ok.glob,ok.blt,ok.above,ok.inj,ok.has,ok.JR,ok.hd,ok.frames,ok.stk,ok.exf,ok.bs,ok.GF,ok.CI,ok.CV,ok.uE,ok.HR⟩
section
variable {X:Cx} {pins:List (Addr×Obj)} {σ:St} {H:Hp} {s:Shared} {E:Value->Shared->Prop}
theorem Inv.wj (I:Inv X pins σ H s) (E:Value->Shared->Prop):Inv (X.wj E) pins σ H s:=⟨I.ok.wj E,I.os,I.bare,I.base,I.loc,I.cell,I.free,I.lY,I.pin,I.dz,I.len⟩
theorem Inv.oE (I:Inv (X.wj E) pins σ H s):Inv X pins σ H s:=⟨I.ok.oE,I.os,I.bare,I.base,I.loc,I.cell,I.free,I.lY,I.pin,I.dz,I.len⟩
theorem SP.oE {D:Ends} {f:Flow} {s':Shared} (h:SP (X.wj E) pins D f s'):SP X pins D f s':=by
 cases f with
 | next=>obtain⟨σ',H',I,q⟩:=h;exact⟨σ',H',I.oE,q⟩
 | brk=>obtain⟨σ',H',I,q⟩:=h;exact⟨σ',H',I.oE,q⟩
 | cont=>obtain⟨σ',H',I,q⟩:=h;exact⟨σ',H',I.oE,q⟩
 | ret u=>obtain⟨v,σ',H',I,r,q⟩:=h;exact⟨v,σ',H',I.oE,r,q⟩
theorem Ce.nox {st:List Stmt} {t:TS} (h:Ce X.nox st t):Ce X st t:=fun pins s σ H D I hw =>
 wpAny_mono (h pins s σ H D (I.wj _) hw) (fun _ _ q=>q.oE) fun _ _ z=>False.elim z
end
section
variable {X:Cx} {st:Stmt} {rest:List Stmt} {t u:TS} {e:Expr} {te:TE} {pos:Pos}
def tNext:TS:=fun D σ H=>D.nx σ H
def tSeq (t u:TS):TS:=fun D σ H=>t {D with nx:=u D} σ H
theorem aT:Ce X [] tNext:=fun _ _ σ H _ I h=>wpAny_execs_nil ⟨σ,H,I,h⟩
theorem ah (h1:PS X st t) (h2:Ce X rest u):Ce X (st::rest) (tSeq t u):=by
 intro pins s σ H D I h
 refine wpAny_execs_cons (eS (h1 pins s σ H {D with nx:=u D} I h) fun f s1 q=>?_)
 cases f with
 | next =>
  obtain⟨σ',H',I',q⟩:=q
  exact h2 pins s1 σ' H' D I' q
 | ret v=>exact q
 | brk=>exact q
 | cont=>exact q
theorem ak (h1:PS X st t):Ce X [st] t:=by
 intro pins s σ H D I h
 refine wpAny_execs_cons (eS (h1 pins s σ H D I h) fun f s1 q=>?_)
 cases f with
 | next=>exact wpAny_execs_nil q
 | ret v=>exact q
 | brk=>exact q
 | cont=>exact q
theorem Inv.quiet {pins:List (Addr×Obj)} {σ:St} {H:Hp} {s:Shared} (I:Inv X pins σ H s):interactive X.env=false:=by simp[interactive,I.ok.kind]
def tDrop (te:TE):TS:=fun D σ H=>te σ H fun _ H1=>D.nx σ H1
theorem aI (he:PE X e te) (hs:swapsWith e none pos.line X.env=pure false:=by rfl):PS X (.Expr e pos) (tDrop te):=by
 intro pins s σ H D I h
 exact wpAny_Expr_any (eS (he pins s σ H _ I h) fun v s1 ⟨x,H1,I1,r1,q1⟩=>⟨σ,H1,I1,q1⟩) I.quiet hs
def tRet (te:TE):TS:=fun D σ H=>te σ H D.rt
theorem aF (he:PE X e te):PS X (.Return (some e) pos) (tRet te):=by
 intro pins s σ H D I h
 exact wpAny_Return_some (eS (he pins s σ H _ I h) fun v s1 ⟨x,H1,I1,r1,q1⟩=>⟨x,σ,H1,I1,r1,q1⟩)
def tRetN:TS:=fun D _ H=>D.rt .bo H
theorem Ds:PS X (.Return none pos) tRetN:=fun _ _ σ H _ I h=>wpAny_Return_none ⟨.bo,σ,H,I,rfl,h⟩
def tIfS (c:TT) (t u:TS):TS:=fun D σ H=>c σ H fun b H1=>if b=true then t D σ H1 else u D σ H1
theorem aW {c:Expr} {a b:List Stmt} {tc:TT} (hc:PT X c tc) (ha:Ce X a t) (hb:Ce X b u):PS X (.If c a b pos) (tIfS tc t u):=by
 intro pins s σ H D I h
 refine wpAny_If (eS (hc pins s σ H _ I h) fun d s1 ⟨H1,I1,q1⟩=>?_)
 cases d with
 | true=>exact ha pins s1 σ H1 D I1 q1
 | false=>exact hb pins s1 σ H1 D I1 q1
end
abbrev TG:=V->St->Hp->(St->Hp->Prop)->Prop
abbrev JW:=List V->St->Hp->(St->Hp->Prop)->Prop
def PG (X:Cx) (target:Expr) (t:TG):Prop :=
 ∀(pins:List (Addr×Obj)) (s:Shared) (σ:St) (H:Hp) (v:V) (u:Value) (Q:St->Hp->Prop),Inv X pins σ H s->RelV v u->t v σ H Q ->
  wpAny (model X.prog X.w) X.A (assign target X.env u) (fun _ s'=>∃σ' H',Inv X pins σ' H' s'/\Q σ' H') X.xe s
def PGs (X:Cx) (ts:List Expr) (t:JW):Prop :=
 ∀(pins:List (Addr×Obj)) (s:Shared) (σ:St) (H:Hp) (vs:List V) (us:List Value) (Q:St->Hp->Prop),Inv X pins σ H s->Vals vs us->t vs σ H Q ->
  wpAny (model X.prog X.w) X.A (assignInOrder ((assignEach ts X.env).map (·.2)) us) (fun _ s'=>∃σ' H',Inv X pins σ' H' s'/\Q σ' H') X.xe s
abbrev TIp:=V->V->Hp->VK->Prop
def PIp (X:Cx) (op:Operator) (t:TIp):Prop :=
 ∀(pins:List (Addr×Obj)) (s:Shared) (σ:St) (H:Hp) (x y:V) (v u:Value) (Q:VK),Inv X pins σ H s->RelV x v->RelV y u->t x y H Q ->
  wpAny (model X.prog X.w) X.A (inplaceOp op v u) (EP X pins σ Q) X.xe s
section
variable {X:Cx} {pos:Pos}
def Gs (i:Nat):TG:=fun v σ H Q=>Q (σ.set i (some v)) H
theorem gv {i:Nat} {x:Str} (hN:X.N.Nodup) (hi:X.N[i]?=some x) (hx:Loc X.env.scope x) (hf:X.fn x=true\/X.env.scope.names.lookup x=some .local:=by first|exact .inl rfl|exact .inr rfl|assumption):PG X (.Name x pos) (Gs i):=by
 intro pins s σ H v u Q I r h
 exact wpAny_assign_Name (xc I hN hi hx r (fun s' I'=>⟨_,H,I',h⟩) hf)
def gNil:JW:=fun vs σ H Q=>vs=[]/\Q σ H
def gCons (t:TG) (u:JW):JW:=fun vs σ H Q=>∃v r,vs=v::r/\t v σ H fun σ' H'=>u r σ' H' Q
theorem Hz:PGs X [] gNil:=by
 intro pins s σ H vs us Q I r h
 obtain⟨e,h⟩:=h
 subst e
 cases r
 exact assignInOrder_nil ⟨σ,H,I,h⟩
theorem A0 {e:Expr} {es:List Expr} {t:TG} {u:JW} (h1:PG X e t) (h2:PGs X es u)
  (hs:(assignEach (e::es) X.env).map (·.2)=assign e X.env::(assignEach es X.env).map (·.2):=by rfl):PGs X (e::es) (gCons t u):=by
 intro pins s σ H vs us Q I r h
 obtain⟨v,vr,e1,h⟩:=h
 subst e1
 cases r with
 | cons r rr =>
  rw[hs]
  refine assignInOrder_cons (eS (h1 pins s σ H _ _ _ I r h) fun _ s1 ⟨σ1,H1,I1,q1⟩=>?_)
  exact h2 pins s1 σ1 H1 _ _ Q I1 rr q1
def gTup (K:PySem.W.Frag) (n:Nat) (t:JW):TG:=fun v σ H Q=>∃a xs,v=.ref a/\dM K H a xs/\xs.length=n/\t xs σ H Q
theorem Jz {es:List Expr} {k:Nat} {t:JW} {n:Nat} (hc:X.calm=true) (h:PGs X es t)
  (hn:(assignEach es X.env).length=n:=by rfl) (hst:(assignEach es X.env).findIdx? (·.1)=none:=by rfl):PG X (.Tuple es k pos) (gTup X.K n t):=by
 intro pins s σ H v u Q I r hw
 obtain⟨a,xs,e1,hq,hl,hw⟩:=hw
 subst e1
 cases r
 obtain⟨its,rv,ht,hz⟩:=I.tuple hq
 refine assign_Tuple_tuple (I.ok.hd hc) ht (by simp[hn,<-hl,rv.length]) hst fun h' hx=>?_
 have I1:Inv X pins σ H {s with heap:=h'}:=I.kept (t':=s.toks) fun b o e=>hx b o (Nat.ne_of_lt (Heap.lt_size e)) e
 exact h pins _ σ H xs _ Q I1 (by simpa using rv) hw
def tAsg (te:TE) (g:TG):TS:=fun D σ H=>te σ H fun x H1=>g x σ H1 D.nx
theorem aX {i:Nat} {x:Str} {e:Expr} {te:TE} {pos':Pos} (hN:X.N.Nodup) (hi:X.N[i]?=some x) (hx:Loc X.env.scope x) (he:PE X e te) (hs:swapsWith e (some (.Name x pos')) pos.line X.env=pure false:=by rfl) (hf:X.fn x=true\/X.env.scope.names.lookup x=some .local:=by first|exact .inl rfl|exact .inr rfl|assumption) :
  PS X (.Assign [.Name x pos'] e pos) (tAsg te (Gs i)):=by
 intro pins s σ H D I h
 refine wpAny_Assign_Name (eS (he pins s σ H _ I h) fun v s1 ⟨y,H1,I1,r1,q1⟩=>?_) hs
 exact xc I1 hN hi hx r1 (fun s2 I2=>⟨_,H1,I2,q1⟩) hf
def tAug (i:Nat) (te:TE) (ti:TIp):TS:=fun D σ H=>∃x,σ[i]?=some (some x)/\te σ H fun y H1=>ti x y H1 fun z H2=>D.nx (σ.set i (some z)) H2
theorem FO {i:Nat} {x:Str} {e:Expr} {te:TE} {op:Operator} {ti:TIp} {pos':Pos} (hN:X.N.Nodup) (hi:X.N[i]?=some x) (hx:Loc X.env.scope x) (he:PE X e te) (ho:PIp X op ti) (hf:X.fn x=true\/X.env.scope.names.lookup x=some .local:=by first|exact .inl rfl|exact .inr rfl|assumption) :
  PS X (.AugAssign (.Name x pos') op e pos) (tAug i te ti):=by
 intro pins s σ H D I h
 obtain⟨v,e1,h⟩:=h
 obtain⟨m,hn,hl⟩:=I.loc
 have vis:Vis X.env.scope x:=by rcases hx with k|k;exact .inl k;exact .inr (.inl k)
 obtain⟨u,r,l⟩:=hl i x v hi e1 vis
 refine wpAny_AugAssign_Name ?_
 have go:wpAny (model X.prog X.w) X.A (eval e X.env) (fun w s₂=>wpAny (model X.prog X.w) X.A (inplaceOp op u w) (fun r s₃=>wpAny (model X.prog X.w) X.A (storeName X.env x r) (fun _=>SP X pins D .next) X.xe s₃) X.xe s₂) X.xe s:=by
  refine eS (he pins s σ H _ I h) fun w s1 ⟨y,H1,I1,r1,q1⟩=>?_
  refine eS (ho pins s1 σ H1 v y u w _ I1 r r1 q1) fun z s2 ⟨zv,H2,I2,r2,q2⟩=>?_
  exact xc I2 hN hi hx r2 (fun s3 I3=>⟨_,H2,I3,q2⟩) hf
 rcases l with⟨hk,hm⟩|⟨hk,c,hc,hcell⟩
 ·exact wpAny_loadName_local I.ok.kind hk hn hm go
 ·rcases hk with hk|hk
  ·exact wpAny_loadName_cell I.ok.kind hk hc hcell go
  ·rcases hx with k|k
   ·have:X.env.scope.names.lookup x=some .free:=hk
    rw[k] at this;cases this
   ·have:X.env.scope.names.lookup x=some .free:=hk
    rw[k] at this;cases this
def ipI (f:Int->Int->Int):TIp:=fun x y H Q=>∃i j,x=.int i/\y=.int j/\Q (.int (f i j)) H
theorem F9:PIp X .Add (ipI fun i j=>i+j):=by
 intro pins s σ H x y v u Q I r1 r2 h
 obtain⟨i,j,e1,e2,q⟩:=h
 subst e1;subst e2
 obtain⟨t,rfl⟩:=r1
 obtain⟨t',rfl⟩:=r2
 exact iadd_int ⟨.int _,H,I.tok _,⟨_,rfl⟩,q⟩
end
section
variable {X:Cx} {pos:Pos}
def IX (c:TT) (tb:TS):TS:=fun D σ H=>∃W:Nat->St->Hp->Prop,(∃m,W m σ H)/\∀m σ H,W m σ H ->
 c σ H fun b H1=>if b=true then ∃N:St->Hp->Prop,(∀σ' H',N σ' H'->∃m',m'<m/\W m' σ' H')/\tb {D with nx:=N,ct:=N,bk:=D.nx} σ H1 else D.nx σ H1
theorem qu {c:Expr} {body:List Stmt} {tc:TT} {tb:TS} (hp:PassesOwn (model X.prog X.w) X.A X.env X.xe) (hc:PT X c tc) (hb:Ce X body tb):PS X (.While c body [] pos) (IX tc tb):=by
 intro pins s σ H D I h
 obtain⟨W,⟨m0,w0⟩,turn⟩:=h
 refine wpAny_While (codeAny_whileLoop (fun n s'=>∃σ' H',Inv X pins σ' H' s'/\W n σ' H') ?_ m0 ⟨σ,H,I,w0⟩)
 rintro n s1 ⟨σ1,H1,I1,w1⟩
 refine wpAny_passesOwn hp (eS (hc pins s1 σ1 H1 _ I1 (turn n σ1 H1 w1)) fun b s2 ⟨H2,I2,q2⟩=>?_)
 cases b with
 | true =>
  obtain⟨N,hN,q2⟩:=q2
  rw[if_pos rfl]
  refine wpAny_passesOwn hp (eS (hb pins s2 σ1 H2 _ I2 q2) fun f s3 q3=>?_)
  cases f with
  | next =>
   obtain⟨σ3,H3,I3,n3⟩:=q3
   obtain⟨m',hm,w3⟩:=hN σ3 H3 n3
   exact⟨m',hm,σ3,H3,I3,w3⟩
  | cont =>
   obtain⟨σ3,H3,I3,n3⟩:=q3
   obtain⟨m',hm,w3⟩:=hN σ3 H3 n3
   exact⟨m',hm,σ3,H3,I3,w3⟩
  | brk=>exact q3
  | ret v=>exact q3
 | false =>
  rw[if_neg Bool.false_ne_true]
  exact wpAny_execs_nil ⟨σ1,H2,I2,q2⟩
end
structure It where
 go:Nat->Hp->Prop
 GY:Nat->Hp->V->Hp->Prop
 stop:Nat->Hp->Prop
def yt (X:Cx) (pins:List (Addr×Obj)) (H:Hp) (b:Addr):Prop :=
 H b=none/\b≠X.env.locals/\b∉X.fs/\(b∈X.ex\/X.xo.heap.objs.size<=b)/\(∀x c,X.env.cells.lookup x=some c->c≠b)/\∀p∈X.pn++pins,p.1≠b
theorem Inv.E8 {X:Cx} {pins:List (Addr×Obj)} {σ:St} {H H':Hp} {s:Shared} {b:Addr} (I:Inv X pins σ H s) (hb:s.heap.objs.size<=b) (hn:H' b=none):yt X pins H' b:=by
 refine⟨hn,Nat.ne_of_gt (Nat.lt_of_lt_of_le I.lt hb),I.nofs hb,.inr (Nat.le_trans I.sz hb),fun x c e z=>?_,fun p hp z=>?_⟩
 ·obtain⟨v,q⟩:=I.cell x c e
  exact absurd (Nat.lt_of_lt_of_le q.lt (by rw[z];exact hb)) (Nat.lt_irrefl _)
 ·exact absurd (Nat.lt_of_lt_of_le (Heap.lt_size (I.pin p hp).1) (by rw[z];exact hb)) (Nat.lt_irrefl _)
structure Turn (P:Program) (w:World) (K:PySem.W.Frag) (tg:Expr) (J:It) (fp:List Addr) (it:Addr) (tn:Nat->Heap->Prop):Prop where
 mem:it∈fp
 obj:∀i h,tn i h->∀b∈fp,∃o,h.get? b=some o/\∀v,o.data≠.cell v
 keep:∀i h h',tn i h->(∀b∈fp,∀o,h.get? b=some o->h'.get? b=some o)->tn i h'
 item:∀(X:Cx),X.prog=P->X.w=w->X.K=K->X.calm=true->∀(i:Nat) (pins:List (Addr×Obj)) (s:Shared) (σ:St) (H:Hp) (E:Value->Shared->Prop),Inv X pins σ H s->(∀b∈fp,yt X pins H b)->tn i s.heap->J.go i H ->
  wpAny (model P w) X.A (pyNext (.ref it)) (fun r s1=>∃u,r=some u /\
   wpAny (model P w) X.A (letOwnedTupleGo tg (.ref it) u) (fun _ s2=>∃x H',Inv X pins σ H' s2/\RelV x u/\J.GY i H x H'/\tn (i+1) s2.heap/\∀b∈fp,H' b=none) E s1) E s
 done:∀(X:Cx),X.prog=P->X.w=w->X.K=K->X.calm=true->∀(i:Nat) (pins:List (Addr×Obj)) (s:Shared) (σ:St) (H:Hp) (E:Value->Shared->Prop),Inv X pins σ H s->(∀b∈fp,yt X pins H b)->tn i s.heap->J.stop i H ->
  wpAny (model P w) X.A (pyNext (.ref it)) (fun r s1=>r=none/\Inv X pins σ H s1) E s
 self:∀(A:Around) (i:Nat) (s:Shared) (Q:Value->Shared->Prop) (E:Value->Shared->Prop),tn i s.heap->Q (.ref it) s->wpAny (model P w) A (pyIter (.ref it)) Q E s
abbrev TI:=St->Hp->(It->Hp->Prop)->Prop
def PIE (X:Cx) (pins:List (Addr×Obj)) (σ:St) (tg:Expr) (R:It->Hp->Prop) (itv:Value) (s2:Shared):Prop :=
 ∃(it:Addr) (fp:List Addr) (tn:Nat->Heap->Prop) (J:It) (H':Hp),itv=.ref it/\Inv X pins σ H' s2/\Turn X.prog X.w X.K tg J fp it tn/\tn 0 s2.heap/\(∀b∈fp,yt X pins H' b)/\R J H'
def PI (X:Cx) (tg iter:Expr) (wi:TI):Prop :=
 ∀(pins:List (Addr×Obj)) (s:Shared) (σ:St) (H:Hp) (R:It->Hp->Prop),Inv X pins σ H s->wi σ H R ->
  wpAny (model X.prog X.w) X.A (eval iter X.env) (fun v s1=>wpAny (model X.prog X.w) X.A (pyIter v) (PIE X pins σ tg R) X.xe s1) X.xe s
theorem DI {M:Model} {A:Around} {E:Value->Shared->Prop} {s:Shared} {tg:Expr} {it:Addr} {u:Value} {o:Obj} {n:String} {vs:Array Value} {Q:Unit->Shared->Prop} (ho:s.heap.get? it=some o) (hc:o.cls=.type n) (hd:o.data=.fields vs)
  (hn:["enumerate","zip","dict_itemiterator","dict_reverseitemiterator","odict_iterator","itertools.zip_longest","itertools.pairwise"].contains n=false) (hQ:Q () s):wpAny M A (letOwnedTupleGo tg (.ref it) u) Q E s:=by
 unfold letOwnedTupleGo
 cases tg<;>first
  | exact wpAny_pure hQ
  | (cases u<;>first
    | exact wpAny_pure hQ
    | (refine wpAny_bind (wpAny_load ho ?_); rw[hc,hd]; show wpAny M A (if (["enumerate","zip","dict_itemiterator","dict_reverseitemiterator","odict_iterator","itertools.zip_longest","itertools.pairwise"].contains n&&vs[0]?==some (rawInt _))=true then _ else _) Q E s; rw[if_neg (by intro h;rw[hn,Bool.false_and] at h;cases h)]; exact wpAny_pure hQ))
def IL (K:PySem.W.Frag) (a:Addr):It :=
 ⟨fun i H=>∃xs x,bM K H a xs/\xs[i]?=some x,fun i H x H'=>H'=H/\∀xs,bM K H a xs->xs[i]?=some x,fun i H=>∃xs,bM K H a xs/\xs.length<=i⟩
def Itt (K:PySem.W.Frag) (a:Addr):It :=
 ⟨fun i H=>∃xs x,dM K H a xs/\xs[i]?=some x,fun i H x H'=>H'=H/\∀xs,dM K H a xs->xs[i]?=some x,fun i H=>∃xs,dM K H a xs/\xs.length<=i⟩
def JX (lo:Int) (n:Nat):It:=⟨fun i _=>i<n,fun i H x H'=>H'=H/\x=.int (lo+i),fun i _=>n<=i⟩
theorem En {P:Program} {w:World} {K:PySem.W.Frag} {tg:Expr} (a it:Addr):Turn P w K tg (IL K a) [it] it (fun i h=>h.IsListIter it a i) where
 mem:=by simp
 obj:=fun i h st b hb=>by
  have e:b=it:=by simpa using hb
  subst e
  obtain⟨o,e,c,d⟩:=st
  exact⟨o,e,fun v z=>by rw[d] at z;cases z⟩
 keep:=fun i h h' st k=>st.at fun o e=>k it (by simp) o e
 item:=by
  intro X hP hw hK hc i pins s σ H E I hf st hg
  subst hP hw hK
  obtain⟨xs,x,hq,hx⟩:=hg
  obtain⟨its,rv,p,hz⟩:=I.list hq
  obtain⟨u,hu,ru⟩:=rv.get hx
  obtain⟨f0,f1,f2,f3,f4,f5⟩:=hf it (by simp)
  refine wpAny_pyNext_list_item st p.isList (x:=u) (by simpa using hu) fun h' st' sb=>?_
  have I1:Inv X pins σ H {s with heap:=h'}:=I.turned (t':=s.toks) (fun b o hb e=>(sb.2 b hb).trans e) f0 f1 f3 f4 f5
  obtain⟨o,e,c,d⟩:=id st'
  exact⟨u,rfl,DI (s:={s with heap:=h'}) e c d (by decide) ⟨x,H,I1,ru,⟨rfl,fun ys hy=>by rw[I.Bn hy hq];exact hx⟩,st',fun b hb=>(hf b hb).1⟩⟩
 done:=by
  intro X hP hw hK hc i pins s σ H E I hf st hg
  subst hP hw hK
  obtain⟨xs,hq,hx⟩:=hg
  obtain⟨its,rv,p,hz⟩:=I.list hq
  obtain⟨f0,f1,f2,f3,f4,f5⟩:=hf it (by simp)
  have hl:=rv.length
  exact wpAny_pyNext_list_end (I.ok.hd hc) st p.isList (by simp;omega) fun h' eb=>⟨rfl,I.turned (t':=s.toks) (fun b o hb e=>eb b o hb e) f0 f1 f3 f4 f5⟩
 self:=fun _ _ _ _ _ st h=>wpAny_pyIter_listiter st h
theorem Cj {P:Program} {w:World} {K:PySem.W.Frag} {tg:Expr} (a it:Addr):Turn P w K tg (Itt K a) [it] it (fun i h=>h.IsTupleIter it a i) where
 mem:=by simp
 obj:=fun i h st b hb=>by
  have e:b=it:=by simpa using hb
  subst e
  obtain⟨o,e,c,d⟩:=st
  exact⟨o,e,fun v z=>by rw[d] at z;cases z⟩
 keep:=fun i h h' st k=>st.at fun o e=>k it (by simp) o e
 item:=by
  intro X hP hw hK hc i pins s σ H E I hf st hg
  subst hP hw hK
  obtain⟨xs,x,hq,hx⟩:=hg
  obtain⟨its,rv,p,hz⟩:=I.tuple hq
  obtain⟨u,hu,ru⟩:=rv.get hx
  obtain⟨f0,f1,f2,f3,f4,f5⟩:=hf it (by simp)
  refine wpAny_pyNext_tuple_item st (show s.heap.IsTuple a its.toArray from p) (x:=u) (by simpa using hu) fun h' st' sb=>?_
  have I1:Inv X pins σ H {s with heap:=h'}:=I.turned (t':=s.toks) (fun b o hb e=>(sb.2 b hb).trans e) f0 f1 f3 f4 f5
  obtain⟨o,e,c,d⟩:=id st'
  exact⟨u,rfl,DI (s:={s with heap:=h'}) e c d (by decide) ⟨x,H,I1,ru,⟨rfl,fun ys hy=>by rw[I.Ep hy hq];exact hx⟩,st',fun b hb=>(hf b hb).1⟩⟩
 done:=by
  intro X hP hw hK hc i pins s σ H E I hf st hg
  subst hP hw hK
  obtain⟨xs,hq,hx⟩:=hg
  obtain⟨its,rv,p,hz⟩:=I.tuple hq
  obtain⟨f0,f1,f2,f3,f4,f5⟩:=hf it (by simp)
  have hl:=rv.length
  exact wpAny_pyNext_tuple_end (I.ok.hd hc) st (show s.heap.IsTuple a its.toArray from p) (by simp;omega) fun h' eb=>⟨rfl,I.turned (t':=s.toks) (fun b o hb e=>eb b o hb e) f0 f1 f3 f4 f5⟩
 self:=fun _ _ _ _ _ st h=>wpAny_pyIter_tupleiter st h
theorem Ck {P:Program} {w:World} {K:PySem.W.Frag} {tg:Expr} (it:Addr) (lo:Int) (n:Nat):Turn P w K tg (JX lo n) [it] it (fun i h=>IsRangeIter h it (lo+(i:Nat)*1) ((n:Int)-(i:Nat)) 1) where
 mem:=by simp
 obj:=fun i h st b hb=>by
  have e:b=it:=by simpa using hb
  subst e
  exact⟨_,st,fun v z=>by
   have z':Data.fields _=Data.cell v:=z
   cases z'⟩
 keep:=fun i h h' st k=>k it (by simp) _ st
 item:=by
  intro X hP hw hK hc i pins s σ H E I hf st hg
  subst hP hw hK
  obtain⟨f0,f1,f2,f3,f4,f5⟩:=hf it (by simp)
  have W:=Walks.range (prog:=X.prog) (w:=X.w) (I.ok.hd hc) it lo 1 n
  refine W.item i s _ _ hg st fun v h' tk hv st' kk=>?_
  obtain⟨t,rfl⟩:=hv
  have I1:Inv X pins σ H {s with heap:=h',toks:=tk}:=I.turned (fun b o hb e=>kk b o (by simpa using hb) e) f0 f1 f3 f4 f5
  refine⟨_,rfl,DI (s:={s with heap:=h',toks:=tk}) (n := "range_iterator") st' rfl rfl (by decide) ⟨.int (lo+i),H,I1,⟨t,?_⟩,⟨rfl,rfl⟩,st',fun b hb=>(hf b hb).1⟩⟩
  rw[Int.mul_one]
 done:=by
  intro X hP hw hK hc i pins s σ H E I hf st hg
  subst hP hw hK
  obtain⟨f0,f1,f2,f3,f4,f5⟩:=hf it (by simp)
  exact wpAny_pyNext_range_end (I.ok.hd hc) st (by have:n<=i:=hg;omega) fun h' eb=>⟨rfl,I.turned (t':=s.toks) (fun b o hb e=>eb b o hb e) f0 f1 f3 f4 f5⟩
 self:=fun _ _ _ _ _ st h=>wpAny_pyIter_rangeiter st h
end L2
namespace L2
open PySem PySem.Spec PyProof.Rows
section
variable {X:Cx} {tg:Expr}
def iList (K:PySem.W.Frag) (tl:TE):TI:=fun σ H R=>tl σ H fun x H1=>∃a,x=.ref a/\(∃xs,bM K H1 a xs)/\R (IL K a) H1
def iTup (K:PySem.W.Frag) (tl:TE):TI:=fun σ H R=>tl σ H fun x H1=>∃a,x=.ref a/\(∃xs,dM K H1 a xs)/\R (Itt K a) H1
theorem rB {l:Expr} {tl:TE} (hl:PE X l tl):PI X tg l (iList X.K tl):=by
 intro pins s σ H R I h
 refine eS (hl pins s σ H _ I h) fun v s1 ⟨x,H1,I1,r1,q1⟩=>?_
 obtain⟨a,e,⟨xs,hq⟩,q⟩:=q1
 subst e
 cases r1
 obtain⟨its,rv,p,hz⟩:=I1.list hq
 refine wpAny_pyIter_list p.isList ?_
 refine⟨s1.heap.objs.size,[s1.heap.objs.size],_,_,H1,rfl,I1.kept (t':=s1.toks) fun b o e=>Heap.get?_push_of_some _ e,En a _,⟨_,Heap.get?_push_size _ rfl,rfl,rfl⟩,fun b hb=>?_,q⟩
 have e:b=s1.heap.objs.size:=by simpa using hb
 subst e
 exact I1.E8 (Nat.le_refl _) (I1.dz.fresh (Nat.le_refl _))
theorem Jy {l:Expr} {tl:TE} (hl:PE X l tl):PI X tg l (iTup X.K tl):=by
 intro pins s σ H R I h
 refine eS (hl pins s σ H _ I h) fun v s1 ⟨x,H1,I1,r1,q1⟩=>?_
 obtain⟨a,e,⟨xs,hq⟩,q⟩:=q1
 subst e
 cases r1
 obtain⟨its,rv,p,hz⟩:=I1.tuple hq
 refine wpAny_pyIter_tuple (show s1.heap.IsTuple a its.toArray from p) ?_
 refine⟨s1.heap.objs.size,[s1.heap.objs.size],_,_,H1,rfl,I1.kept (t':=s1.toks) fun b o e=>Heap.get?_push_of_some _ e,Cj a _,⟨_,Heap.get?_push_size _ rfl,rfl,rfl⟩,fun b hb=>?_,q⟩
 have e:b=s1.heap.objs.size:=by simpa using hb
 subst e
 exact I1.E8 (Nat.le_refl _) (I1.dz.fresh (Nat.le_refl _))
theorem AS {pins:List (Addr×Obj)} {σ:St} {H:Hp} {s:Shared} {R:It->Hp->Prop} {E:Value->Shared->Prop} {lo hi:Int} {t u v:Tok} {tk:Nat} (I:Inv X pins σ H s) (h1 : -(2 ^ 62)<=lo) (h2:lo<2 ^ 62) (h3 : -(2 ^ 62)<=hi) (h4:hi<2 ^ 62)
  (q:R (JX lo (hi-lo).toNat) H):wpAny (model X.prog X.w) X.A (pyIter (.ref s.heap.objs.size)) (PIE X pins σ tg R) E {s with heap:=s.heap.push {cls:=.type "range",data:=.fields #[.int lo t,.int hi u,.int 1 v]},toks:=tk}:=by
 refine wpAny_pyIter_range (IsRange.new ..) (small_one h1 h2 h3 h4) ?_
 have I1:Inv X pins σ H {s with heap:=s.heap.push {cls:=.type "range",data:=.fields #[.int lo t,.int hi u,.int 1 v]},toks:=tk}:=I.kept fun b o e=>Heap.get?_push_of_some _ e
 refine⟨(s.heap.push {cls:=.type "range",data:=.fields #[.int lo t,.int hi u,.int 1 v]}).objs.size,[(s.heap.push {cls:=.type "range",data:=.fields #[.int lo t,.int hi u,.int 1 v]}).objs.size],_,_,H,rfl,
  I1.kept (t':=tk) fun b o e=>Heap.get?_push_of_some _ e,Ck _ lo (hi-lo).toNat,?_,fun b hb=>?_,q⟩
 ·have e1:lo+((0:Nat):Int)*1=lo:=by simp
  have e2:(((hi-lo).toNat:Nat):Int)-((0:Nat):Int)=Builtin.Range.rangeSize lo hi 1:=by rw[rangeSize_one];split<;>omega
  show IsRangeIter _ _ (lo+((0:Nat):Int)*1) ((((hi-lo).toNat:Nat):Int)-((0:Nat):Int)) 1
  rw[e1,e2]
  exact Heap.get?_push_size _ rfl
 ·have e:b=(s.heap.push {cls:=.type "range",data:=.fields #[.int lo t,.int hi u,.int 1 v]}).objs.size:=by simpa using hb
  subst e
  exact I1.E8 (Nat.le_refl _) (I1.dz.fresh (Nat.le_refl _))
def iRng1 (ta:TA):TI:=fun σ H R=>ta σ H fun vs H1=>∃j:Int,vs=[.int j] /\ -(2 ^ 62)<=j/\j<2 ^ 62/\R (JX 0 j.toNat) H1
def iRng2 (ta:TA):TI:=fun σ H R=>ta σ H fun vs H1=>∃i j:Int,vs=[.int i,.int j]/\(-(2 ^ 62)<=i/\i<2 ^ 62 /\ -(2 ^ 62)<=j/\j<2 ^ 62)/\R (JX i (j-i).toNat) H1
theorem EL {a:Expr} {ta:TA} {p pos:Pos} (hg:Gl X "range") (hm:X.mg "range" = none) (ha:PA X [a] ta) (hs:starEach [a] X.env=[(false,eval a X.env)]:=by rfl):PI X tg (.Call (.Name "range" p) [a] [] pos) (iRng1 ta):=by
 intro pins s σ H R I h
 refine Call_ (xK I hg hm boot_range (PyProof.Rows.callWith_type1 (eS (ha pos pins s σ H _ I h) fun us s1 ⟨vs,H1,I1,r1,q1⟩=>?_) hs rfl))
 obtain⟨j,e,q1,q2,q⟩:=q1
 subst e
 cases r1 with
 | cons r rr =>
  cases rr
  obtain⟨t,rfl⟩:=r
  exact call_range_1 (AS I1 (by omega) (by omega) q1 q2 (by simpa using q))
theorem EK {a b:Expr} {ta:TA} {p pos:Pos} (hg:Gl X "range") (hm:X.mg "range" = none) (ha:PA X [a,b] ta) (hs:starEach [a,b] X.env=[(false,eval a X.env),(false,eval b X.env)]:=by rfl) (hs2:starEach [b] X.env=[(false,eval b X.env)]:=by rfl) :
  PI X tg (.Call (.Name "range" p) [a,b] [] pos) (iRng2 ta):=by
 intro pins s σ H R I h
 refine Call_ (xK I hg hm boot_range (PyProof.Rows.callWith_type1 (eS (ha pos pins s σ H _ I h) fun us s1 ⟨vs,H1,I1,r1,q1⟩=>?_) (by rw[hs,hs2]) (by rw[hs2];rfl)))
 obtain⟨i,j,e,⟨q1,q2,q3,q4⟩,q⟩:=q1
 subst e
 cases r1 with
 | cons r rr =>
  cases rr with
  | cons r' rr =>
   cases rr
   obtain⟨t,rfl⟩:=r
   obtain⟨t',rfl⟩:=r'
   exact call_range_2 (AS I1 q1 q2 q3 q4 q)
def tFor (wi:TI) (g:TG) (tb:TS):TS:=fun D σ H=>wi σ H fun J H1=>∃W:Nat->Nat->St->Hp->Prop,(∃m,W 0 m σ H1)/\∀i m σ H,W i m σ H ->
 (J.stop i H/\D.nx σ H)\/(J.go i H/\∃N:St->Hp->Prop,(∀σ' H',N σ' H'->∃m',m'<m/\W (i+1) m' σ' H')/\∀x H',J.GY i H x H'->g x σ H' fun σ2 H2=>tb {D with nx:=N,ct:=N,bk:=D.nx} σ2 H2)
def xu (fp:List Addr) (h:Heap):List (Addr×Obj):=fp.filterMap fun b=>(h.get? b).map fun o=>(b,o)
theorem tw {fp:List Addr} {h:Heap} {b:Addr} {o:Obj} (hb:b∈fp) (e:h.get? b=some o):(b,o)∈xu fp h:=List.mem_filterMap.mpr ⟨b,hb,by rw[e];rfl⟩
theorem ET {fp:List Addr} {h:Heap} {p:Addr×Obj} (hp:p∈xu fp h):p.1∈fp/\h.get? p.1=some p.2:=by
 obtain⟨b,hb,e⟩:=List.mem_filterMap.mp hp
 cases q:h.get? b with
 | none=>rw[q] at e;cases e
 | some o =>
  rw[q] at e
  have e':(b,o)=p:=Option.some.inj e
  subst e'
  exact⟨hb,q⟩
theorem Inv.pinned {pins:List (Addr×Obj)} {σ:St} {H:Hp} {s:Shared} {fp:List Addr} (I:Inv X pins σ H s) (hf:∀b∈fp,yt X pins H b) (ho:∀b∈fp,∃o,s.heap.get? b=some o/\∀v,o.data≠.cell v):Inv X (pins++xu fp s.heap) σ H s :=
 I.Du fun p hp=>(List.mem_append.mp hp).elim (fun z=>I.pin p (List.mem_append_right _ z)) fun z=>by
  obtain⟨hb,e⟩:=ET z
  obtain⟨f0,f1,f2,_⟩:=hf p.1 hb
  obtain⟨o,e',d⟩:=ho p.1 hb
  rw[e] at e';cases e'
  exact⟨e,f0,f1,f2,d⟩
theorem Inv.tV {pins pl:List (Addr×Obj)} {σ:St} {H:Hp} {s:Shared} (I:Inv X (pins++pl) σ H s):Inv X pins σ H s:=I.Du fun p hp=>I.pin p (List.mem_append_right _ (List.mem_append_left _ hp))
theorem lL {iter:Expr} {body:List Stmt} {wi:TI} {g:TG} {tb:TS} {pos:Pos} (hp:PassesOwn (model X.prog X.w) X.A X.env X.xe) (hc:X.calm=true) (hi:PI X tg iter wi) (hg:PG X tg g) (hb:Ce X body tb)
  (hs:∀x,foldedSetIterable iter X.env x=pure x:=by intro _;rfl):PS X (.For tg iter body [] pos) (tFor wi g tb):=by
 intro pins s σ H D I h
 refine wpAny_For (eS (hi pins s σ H _ I h) fun v s1 h1=>eS h1 fun itv s2 h2=>?_) hs
 obtain⟨it,fp,tn,J,H2,e,I2,T,st2,f2,W,⟨m0,w0⟩,turn⟩:=h2
 subst e
 have stat:∀{H':Hp},(∀b∈fp,H' b=none)->∀b∈fp,yt X pins H' b:=fun hn b hb=>⟨hn b hb,(f2 b hb).2⟩
 refine codeAny_forLoop_any (fun n s'=>∃i σ' H',Inv X pins σ' H' s'/\tn i s'.heap/\(∀b∈fp,H' b=none)/\W i n σ' H') ?_ m0 ⟨0,σ,H2,I2,st2,fun b hb=>(f2 b hb).1,w0⟩
 rintro n s3 ⟨i,σ3,H3,I3,st3,fr3,w3⟩
 rcases turn i n σ3 H3 w3 with⟨stop,qn⟩|⟨go,N,hN,step⟩
 ·refine wpAny_passesOwn hp (eS (T.done X rfl rfl rfl hc i pins s3 σ3 H3 X.xe I3 (stat fr3) st3 stop) fun r s4 ⟨hr,I4⟩=>?_)
  subst hr
  exact wpAny_execs_nil ⟨σ3,H3,I4,qn⟩
 ·refine wpAny_passesOwn hp (eS (T.item X rfl rfl rfl hc i pins s3 σ3 H3 X.xe I3 (stat fr3) st3 go) fun r s4 ⟨u,hr,h4⟩=>?_)
  subst hr
  refine wpAny_passesOwn hp (eS h4 fun _ s5 ⟨x,H5,I5,r5,y5,st5,fr5⟩=>?_)
  have I5':=I5.pinned (stat fr5) (T.obj _ _ st5)
  refine wpAny_passesOwn hp (eS (hg _ s5 σ3 H5 x u _ I5' r5 (step x H5 y5)) fun _ s6 ⟨σ6,H6,I6,q6⟩=>?_)
  refine wpAny_passesOwn hp (eS (hb _ s6 σ6 H6 _ I6 q6) fun f s7 q7=>?_)
  have again:∀{σ7:St} {H7:Hp},Inv X (pins++xu fp s5.heap) σ7 H7 s7->N σ7 H7->∃m,m<n/\∃i σ' H',Inv X pins σ' H' s7/\tn i s7.heap/\(∀b∈fp,H' b=none)/\W i m σ' H':=fun {σ7 H7} I7 n7=>by
   obtain⟨m',hm,w7⟩:=hN σ7 H7 n7
   refine⟨m',hm,i+1,σ7,H7,I7.tV,T.keep _ _ _ st5 fun b hb o e=>(I7.pin (b,o) (List.mem_append_right _ (List.mem_append_right _ (tw hb e)))).1,fun b hb=>?_,w7⟩
   obtain⟨o,e,d⟩:=T.obj _ _ st5 b hb
   exact(I7.pin (b,o) (List.mem_append_right _ (List.mem_append_right _ (tw hb e)))).2.1
  cases f with
  | next=>obtain⟨σ7,H7,I7,n7⟩:=q7;exact again I7 n7
  | cont=>obtain⟨σ7,H7,I7,n7⟩:=q7;exact again I7 n7
  | brk=>obtain⟨σ7,H7,I7,q7⟩:=q7;exact⟨σ7,H7,I7.tV,q7⟩
  | ret v=>obtain⟨x7,σ7,H7,I7,r7,q7⟩:=q7;exact⟨x7,σ7,H7,I7.tV,r7,q7⟩
end
theorem qO {K:PySem.W.Frag} {a:Addr} {xs:List V} {g:TG} {tb:TS} {D:Ends} {σ:St} {H:Hp} (Pv:Nat->St->Hp->Prop) (h0:Pv 0 σ H) (hl:∀i σ H,i<=xs.length->Pv i σ H->bM K H a xs)
  (hs:∀i x σ H,xs[i]?=some x->Pv i σ H->g x σ H fun σ2 H2=>tb {D with nx:=Pv (i+1),ct:=Pv (i+1),bk:=D.nx} σ2 H2) (hd:∀σ H,Pv xs.length σ H->D.nx σ H) :
  ∃W:Nat->Nat->St->Hp->Prop,(∃m,W 0 m σ H)/\∀i m σ H,W i m σ H ->
   ((IL K a).stop i H/\D.nx σ H)\/((IL K a).go i H/\∃N:St->Hp->Prop,(∀σ' H',N σ' H'->∃m',m'<m/\W (i+1) m' σ' H')/\∀x H',(IL K a).GY i H x H'->g x σ H' fun σ2 H2=>tb {D with nx:=N,ct:=N,bk:=D.nx} σ2 H2):=by
 refine⟨fun i m σ H=>m=xs.length-i/\i<=xs.length/\Pv i σ H,⟨xs.length,by simp,Nat.zero_le _,h0⟩,?_⟩
 rintro i m σ H ⟨rfl,hi,p⟩
 have q:=hl i σ H hi p
 by_cases hlt:i<xs.length
 ·refine .inr ⟨⟨xs,xs[i],q,by simp[hlt]⟩,Pv (i+1),fun σ' H' p'=>⟨xs.length-(i+1),by omega,rfl,hlt,p'⟩,fun x H' y=>?_⟩
  obtain⟨e,y⟩:=y
  subst e
  exact hs i x σ _ (y xs q) p
 ·have e:i=xs.length:=by omega
  subst e
  exact .inl ⟨⟨xs,q,Nat.le_refl _⟩,hd σ H p⟩
theorem HS {K:PySem.W.Frag} {a:Addr} {xs:List V} {g:TG} {tb:TS} {D:Ends} {σ:St} {H:Hp} (Pv:Nat->St->Hp->Prop) (h0:Pv 0 σ H) (hl:∀i σ H,i<=xs.length->Pv i σ H->dM K H a xs)
  (hs:∀i x σ H,xs[i]?=some x->Pv i σ H->g x σ H fun σ2 H2=>tb {D with nx:=Pv (i+1),ct:=Pv (i+1),bk:=D.nx} σ2 H2) (hd:∀σ H,Pv xs.length σ H->D.nx σ H) :
  ∃W:Nat->Nat->St->Hp->Prop,(∃m,W 0 m σ H)/\∀i m σ H,W i m σ H ->
   ((Itt K a).stop i H/\D.nx σ H)\/((Itt K a).go i H/\∃N:St->Hp->Prop,(∀σ' H',N σ' H'->∃m',m'<m/\W (i+1) m' σ' H')/\∀x H',(Itt K a).GY i H x H'->g x σ H' fun σ2 H2=>tb {D with nx:=N,ct:=N,bk:=D.nx} σ2 H2):=by
 refine⟨fun i m σ H=>m=xs.length-i/\i<=xs.length/\Pv i σ H,⟨xs.length,by simp,Nat.zero_le _,h0⟩,?_⟩
 rintro i m σ H ⟨rfl,hi,p⟩
 have q:=hl i σ H hi p
 by_cases hlt:i<xs.length
 ·refine .inr ⟨⟨xs,xs[i],q,by simp[hlt]⟩,Pv (i+1),fun σ' H' p'=>⟨xs.length-(i+1),by omega,rfl,hlt,p'⟩,fun x H' y=>?_⟩
  obtain⟨e,y⟩:=y
  subst e
  exact hs i x σ _ (y xs q) p
 ·have e:i=xs.length:=by omega
  subst e
  exact .inl ⟨⟨xs,q,Nat.le_refl _⟩,hd σ H p⟩
theorem zg {lo:Int} {n:Nat} {g:TG} {tb:TS} {D:Ends} {σ:St} {H:Hp} (Pv:Nat->St->Hp->Prop) (h0:Pv 0 σ H)
  (hs:∀i σ H,i<n->Pv i σ H->g (.int (lo+i)) σ H fun σ2 H2=>tb {D with nx:=Pv (i+1),ct:=Pv (i+1),bk:=D.nx} σ2 H2) (hd:∀σ H,Pv n σ H->D.nx σ H) :
  ∃W:Nat->Nat->St->Hp->Prop,(∃m,W 0 m σ H)/\∀i m σ H,W i m σ H ->
   ((JX lo n).stop i H/\D.nx σ H)\/((JX lo n).go i H/\∃N:St->Hp->Prop,(∀σ' H',N σ' H'->∃m',m'<m/\W (i+1) m' σ' H')/\∀x H',(JX lo n).GY i H x H'->g x σ H' fun σ2 H2=>tb {D with nx:=N,ct:=N,bk:=D.nx} σ2 H2):=by
 refine⟨fun i m σ H=>m=n-i/\i<=n/\Pv i σ H,⟨n,by simp,Nat.zero_le _,h0⟩,?_⟩
 rintro i m σ H ⟨rfl,hi,p⟩
 by_cases hlt:i<n
 ·refine .inr ⟨hlt,Pv (i+1),fun σ' H' p'=>⟨n-(i+1),by omega,rfl,hlt,p'⟩,fun x H' y=>?_⟩
  obtain⟨e,y⟩:=y
  subst e y
  exact hs i σ _ hlt p
 ·have e:i=n:=by omega
  subst e
  exact .inl ⟨Nat.le_refl _,hd σ H p⟩
end L2
namespace L2
open PySem PySem.Spec PyProof.Rows
abbrev R2:=V->V->Hp->VK->Prop
def De (X:Cx) (f:Value->Value->Sem Value) (r:R2):Prop :=
 ∀(pins:List (Addr×Obj)) (s:Shared) (σ:St) (H:Hp) (x y:V) (v u:Value) (Q:VK),Inv X pins σ H s->RelV x v->RelV y u->r x y H Q ->
  wpAny (model X.prog X.w) X.A (f v u) (EP X pins σ Q) X.xe s
def zN (X:Cx) (f:Value) (r:List V->Hp->VK->Prop):Prop :=
 ∀(pins:List (Addr×Obj)) (s:Shared) (σ:St) (H:Hp) (xs:List V) (us:List Value) (Q:VK),Inv X pins σ H s->Vals xs us->r xs H Q ->
  wpAny (model X.prog X.w) X.A (call f us) (EP X pins σ Q) X.xe s
def tOp (r:R2) (ta tb:TE):TE:=fun σ H Q=>ta σ H fun x H1=>tb σ H1 fun y H2=>r x y H2 Q
def rI (C:Int->Int->Prop) (g:Int->Int->V):R2:=fun x y H Q=>∃i j,x=.int i/\y=.int j/\C i j/\Q (g i j) H
def rI0 (g:Int->Int->V):R2:=fun x y H Q=>GS x y fun i j=>Q (g i j) H
section
variable {X:Cx} {a b c:Expr} {ta tb tc:TE} {pos:Pos}
theorem JU (ha:PE X a ta) (hb:PE X b tb) {pins:List (Addr×Obj)} {s:Shared} {σ:St} {H:Hp} {R:V->V->Hp->Prop} (I:Inv X pins σ H s)
  (h:ta σ H fun x H1=>tb σ H1 fun y H2=>R x y H2) {Q:Value->Shared->Prop} {f:Value->Value->Sem Value}
  (hf:∀v u s2 x y H2,Inv X pins σ H2 s2->RelV x v->RelV y u->R x y H2->wpAny (model X.prog X.w) X.A (f v u) Q X.xe s2) :
  wpAny (model X.prog X.w) X.A (eval a X.env) (fun v s₁=>wpAny (model X.prog X.w) X.A (eval b X.env) (fun u s₂=>wpAny (model X.prog X.w) X.A (f v u) Q X.xe s₂) X.xe s₁) X.xe s:=by
 refine eS (ha pins s σ H _ I h) fun v s1 ⟨x,H1,I1,r1,q1⟩=>?_
 refine eS (hb pins s1 σ H1 _ I1 q1) fun u s2 ⟨y,H2,I2,r2,q2⟩=>?_
 exact hf v u s2 x y H2 I2 r1 r2 q2
theorem eT {op:Operator} {r:R2} (ho:De X (binaryOp op) r) (ha:PE X a ta) (hb:PE X b tb):PE X (.BinOp a op b pos) (tOp r ta tb):=by
 intro pins s σ H Q I h
 exact wpAny_BinOp (JU ha hb I h fun v u s2 x y H2 I2 rx ry q=>ho pins s2 σ H2 x y v u Q I2 rx ry q)
theorem opI {f:Value->Value->Sem Value} {C:Int->Int->Prop} {g:Int->Int->Int}
  (rule:∀(i j:Int) (t u:Tok) (s:Shared) (Q:Value->Shared->Prop) (E:Value->Shared->Prop),C i j->Q (.int (g i j) s.toks) {s with toks:=s.toks+1}->wpAny (model X.prog X.w) X.A (f (.int i t) (.int j u)) Q E s) :
  De X f (rI C fun i j=>.int (g i j)):=by
 intro pins s σ H x y v u Q I rx ry h
 obtain⟨i,j,rfl,rfl,hc,q⟩:=h
 obtain⟨t,rfl⟩:=rx
 obtain⟨t',rfl⟩:=ry
 exact rule i j t t' s _ _ hc ⟨.int (g i j),H,I.tok _,⟨_,rfl⟩,q⟩
theorem opI0 {f:Value->Value->Sem Value} {g:Int->Int->Int}
  (rule:∀(i j:Int) (t u:Tok) (s:Shared) (Q:Value->Shared->Prop) (E:Value->Shared->Prop),Q (.int (g i j) s.toks) {s with toks:=s.toks+1}->wpAny (model X.prog X.w) X.A (f (.int i t) (.int j u)) Q E s) :
  De X f (rI0 fun i j=>.int (g i j)):=by
 intro pins s σ H x y v u Q I rx ry h
 obtain⟨i,j,rfl,rfl,q⟩:=h
 obtain⟨t,rfl⟩:=rx
 obtain⟨t',rfl⟩:=ry
 exact rule i j t t' s _ _ ⟨.int (g i j),H,I.tok _,⟨_,rfl⟩,q⟩
def J0 (i j:Int):Prop:=(-(2 ^ 64)<i/\i<2 ^ 64)\/(-(2 ^ 64)<j/\j<2 ^ 64)
theorem J0.ok {i j:Int} (h:J0 i j):IntMulOk i j:=by
 rcases h with⟨h1,h2⟩|⟨h1,h2⟩
 ·exact .of_left (intBits_le_64 h1 h2)
 ·exact .of_right (intBits_le_64 h1 h2)
theorem oV:De X (binaryOp .Add) (rI0 fun i j=>.int (i+j)):=opI0 fun _ _ _ _ _ _ _ q=>add_int q
theorem tj:De X (binaryOp .Sub) (rI0 fun i j=>.int (i-j)):=opI0 fun _ _ _ _ _ _ _ q=>sub_int q
theorem JD:De X (binaryOp .Mult) (rI J0 fun i j=>.int (i*j)):=opI fun _ _ _ _ _ _ _ hc q=>mul_int q hc.ok
theorem JE:De X (binaryOp .Mod) (rI (fun _ j=>0<j) fun i j=>.int (i % j)):=opI fun i j _ _ _ _ _ hc q=>by
 have h1:(0:Int)<j:=hc
 exact mod_int' (by omega) (by rw[Int.fmod_eq_emod_of_nonneg i (by omega)];exact q)
end
def scal:V->V->Bool
 | .bo,.bo=>true|.bo,.int _=>true|.int _,.bo=>true|.bo,.bl _=>true|.bl _,.bo=>true|.bo,.str _=>true|.str _,.bo=>true
 | .int _,.int _=>true|.bl _,.bl _=>true|.str _,.str _=>true|.C9 _,.C9 _=>true
 | .int _,.str _=>true|.str _,.int _=>true|.bl _,.str _=>true|.str _,.bl _=>true
 | _,_=>false
def rEq:R2:=fun x y H Q=>scal x y=true/\Q (.bl (decide (x=y))) H
theorem HV {i j:Int}:decide (V.int i=V.int j)=(i==j):=by
 rw[Bool.eq_iff_iff]
 simp
theorem JP {i j:Bool}:decide (V.bl i=V.bl j)=(i==j):=by
 rw[Bool.eq_iff_iff]
 simp
theorem HU {i j:Str}:decide (V.str i=V.str j)=(i==j):=by
 rw[Bool.eq_iff_iff]
 simp
theorem HW {i j:Array UInt8}:decide (V.C9 i=V.C9 j)=(i.toList==j.toList):=by
 rw[Bool.eq_iff_iff]
 cases i
 cases j
 simp
section
variable {X:Cx} {a b c:Expr} {ta tb tc:TE} {pos:Pos}
theorem gZ {pins:List (Addr×Obj)} {σ:St} {H:Hp} {s:Shared} {Q:VK} {k k':Bool} (I:Inv X pins σ H s) (q:Q (.bl k) H) (e:k=k'):EP X pins σ Q (.bool k') s:=by
 subst e
 exact⟨.bl k,H,I,rfl,q⟩
theorem FZ:De X (compareOp .Eq) rEq:=by
 intro pins s σ H x y v u Q I rx ry h
 obtain⟨hs,q⟩:=h
 cases x with
 | bo =>
  cases rx
  cases y with
  | bo=>cases ry;exact PySem.EqNone.eq_none_none (gZ I q (by simp))
  | bl j=>cases ry;exact PySem.EqNone.eq_none_bool (gZ I q (by simp))
  | int j=>obtain⟨t',rfl⟩:=ry;exact PySem.EqNone.eq_none_int (gZ I q (by simp))
  | str j=>obtain⟨t',rfl⟩:=ry;exact PySem.EqNone.eq_none_str (gZ I q (by simp))
  | _=>exact absurd (show false=true from hs) Bool.false_ne_true
 | bl i =>
  cases rx
  cases y with
  | bo=>cases ry;exact PySem.EqNone.eq_bool_none (gZ I q (by simp))
  | bl j=>cases ry;exact eq_bool (gZ I q JP)
  | str j=>obtain⟨t',rfl⟩:=ry;exact PySem.EqMixed.eq_bool_str (gZ I q (by simp))
  | _=>exact absurd (show false=true from hs) Bool.false_ne_true
 | int i =>
  obtain⟨t,rfl⟩:=rx
  cases y with
  | bo=>cases ry;exact PySem.EqNone.eq_int_none (gZ I q (by simp))
  | int j=>obtain⟨t',rfl⟩:=ry;exact eq_int (gZ I q HV)
  | str j=>obtain⟨t',rfl⟩:=ry;exact PySem.EqMixed.eq_int_str (gZ I q (by simp))
  | _=>exact absurd (show false=true from hs) Bool.false_ne_true
 | str i =>
  obtain⟨t,rfl⟩:=rx
  cases y with
  | bo=>cases ry;exact PySem.EqNone.eq_str_none (gZ I q (by simp))
  | bl j=>cases ry;exact PySem.EqMixed.eq_str_bool (gZ I q (by simp))
  | int j=>obtain⟨t',rfl⟩:=ry;exact PySem.EqMixed.eq_str_int (gZ I q (by simp))
  | str j=>obtain⟨t',rfl⟩:=ry;exact eq_str (gZ I q HU)
  | _=>exact absurd (show false=true from hs) Bool.false_ne_true
 | C9 i =>
  obtain⟨t,rfl⟩:=rx
  cases y with
  | C9 j=>obtain⟨t',rfl⟩:=ry;exact PySem.W.eq_bytes (gZ I q HW)
  | _=>exact absurd (show false=true from hs) Bool.false_ne_true
 | _=>cases y<;>exact absurd (show false=true from hs) Bool.false_ne_true
theorem vh (b:Expr) {op:CmpOp} (h:op≠.In:=by decide) (h2:op≠.NotIn:=by decide):behindInMarks op b=false:=by
 have e1:(op==CmpOp.In)=false:=by cases op<;>first|rfl|exact absurd rfl h
 have e2:(op==CmpOp.NotIn)=false:=by cases op<;>first|rfl|exact absurd rfl h2
 cases b<;>simp[behindInMarks,e1,e2]
theorem HB {op:CmpOp} {r:R2} (ho:De X (compareOp op) r) (ha:PE X a ta) (hb:PE X b tb) (hm:behindInMarks op b=false):PE X (.Compare a [op] [b] pos) (tOp r ta tb):=by
 intro pins s σ H Q I h
 exact wpAny_Compare1 (JU ha hb I h fun v u s2 x y H2 I2 rx ry q=>ho pins s2 σ H2 x y v u Q I2 rx ry q) hm
def tTest (t:TE):TT:=fun σ H Q=>t σ H fun x H'=>BlP x fun k=>Q k H'
theorem ue {op:CmpOp} {r:R2} (ho:De X (compareOp op) r) (ha:PE X a ta) (hb:PE X b tb) (hm:behindInMarks op b=false):PT X (.Compare a [op] [b] pos) (tTest (tOp r ta tb)):=by
 intro pins s σ H Q I h
 refine wpAny_isTrue_Compare1 (eS (ha pins s σ H _ I h) fun v s1 ⟨x,H1,I1,r1,q1⟩=>eS (hb pins s1 σ H1 _ I1 q1) fun u s2 ⟨y,H2,I2,r2,q2⟩ =>
  eS (ho pins s2 σ H2 x y v u _ I2 r1 r2 q2) fun c s3 ⟨z,H3,I3,r3,k,e,q3⟩=>?_) hm
 subst e
 cases r3
 exact wpAny_truthy_bool ⟨H3,I3,q3⟩
theorem CO:(sizeLine:Nat)<2 ^ 63:=by rw[sizeLine_eq];decide
theorem vals1 {x:V} {us:List Value} (r:Vals [x] us):∃u,us=[u]/\RelV x u:=by
 cases r with
 | cons r1 r2=>cases r2;exact⟨_,rfl,r1⟩
end
end L2
namespace L2
open PySem PySem.Spec PyProof.Rows
structure Df (h:Heap) (x dx C:Addr) (mA:Str->Option Value):Prop where
 obj:h.get? x=some (PySem.W.instObj C dx)
 ns:h.Ns1 dx mA
 ne:dx≠x
theorem EW {h:Heap} {dx:Addr} {mA:Str->Option Value} (n:h.Ns1 dx mA):∃od,h.get? dx=some od/\∀name,PySem.W.lookIn name od=some (mA name):=by
 obtain⟨o,es,ep,ho,hd,hk,_,hm⟩:=n
 refine⟨o,ho,fun name=>?_⟩
 have e:=hm name
 unfold nsFind findBy at e
 rw[<-Array.find?_toList] at e
 unfold PySem.W.lookIn
 rw[hd]
 dsimp only
 split
 ·rename_i y q
  rw[q] at e
  exact congrArg some e
 ·rename_i q
  rw[q] at e
  have a:es.toList.any (·.refKey)=false:=by
   rw[List.any_eq_false]
   intro y hy
   obtain⟨z,t,hkey⟩:=hk y (Array.mem_toList_iff.mp hy)
   simp[DictEntry.refKey,hkey]
  have a':¬es.toList.any (·.refKey)=true:=by rw[a];exact Bool.false_ne_true
  rw[if_neg a']
  exact congrArg some e
theorem Df.look {h:Heap} {x dx C:Addr} {mA:Str->Option Value} (I:Df h x dx C mA):∃od,PySem.W.InstAt h x (PySem.W.instObj C dx) C (some od)/\∀name,PySem.W.lookIn name od=some (mA name) :=
 let ⟨od,ho,hl⟩:=EW I.ns
 ⟨od,⟨I.obj,rfl,rfl,ho⟩,hl⟩
section
variable {prog:Program} {w:World} {A:Around} {E:Value->Shared->Prop} {s:Shared} {K:PySem.W.Frag} {x dx C f:Addr} {mA:Str->Option Value} {name:Str} {v:Value}
theorem get_map {expr:Bool} {Q:Value->Shared->Prop} (X:K.In s.heap) (I:Df s.heap x dx C mA) (hg:PySem.W.plainGet K C name=true) (hh:PySem.W.hasDictIn K C=true)
  (ha:PySem.W.findIn K (.ref C) name=some none) (hv:mA name=some v) (hv':PySem.W.handedIn v=true) (h:Q v {s with toks:=s.toks+1}) :
  wpAny (model prog w) A (getAttr (.ref x) name expr) Q E s:=by
 obtain⟨od,J,hl⟩:=I.look
 exact PySem.W.get_value X J (PySem.W.plainGet_of hg).1 (PySem.W.findObj_own hh ha rfl (by rw[hl,hv])) hv' h
theorem Gk {pl:Sem Bool} {Q:Value×List Value->Shared->Prop} (X:K.In s.heap) (I:Df s.heap x dx C mA) (hg:PySem.W.plainGet K C name=true)
  (hf:PySem.W.findIn K (.ref C) name=some (some (.ref f))) (ht:PySem.W.isFn K (.ref f)=true) (hv:mA name=none) (h:Q (.ref f,[.ref x]) s) :
  wpAny (model prog w) A (getMethod (.ref x) name pl) Q E s:=by
 obtain⟨od,J,hl⟩:=I.look
 exact PySem.W.method_fn X J (PySem.W.plainGet_of hg).1 (PySem.W.plainGet_of hg).2 hf (beq_iff_eq.mp ht) (by show(PySem.W.lookIn name od).map (·.isSome)=some false;rw[hl,hv];rfl) h
theorem Hm {ns:List Str} {Q:Unit->Shared->Prop} (X:K.In s.heap) (I:Df s.heap x dx C mA)
  (hs:PySem.W.findIn K (.ref C) "__setattr__" = some (some (.builtin "object.__setattr__"))) (hp:PySem.W.plainOver K C=true) (ht:PySem.W.takerIn K C name=some none) (hh:PySem.W.hasDictIn K C=true)
  (hw:PySem.Within mA ns) (hsz:ns.length<=sizeLine)
  (h:∀h',Df h' x dx C (fun y=>if y=name then some v else mA y)->Heap.SameBut dx s.heap h'->Q () {s with heap:=h',toks:=s.toks+2}) :
  wpAny (model prog w) A (setAttr (.ref x) name v) Q E s:=by
 obtain⟨od,J,hl⟩:=I.look
 refine PySem.W.set_plain X J hs (PySem.W.osa_open (s:={s with toks:=s.toks+1}) (r:=none) X J hp ht fun b=>?_)
 obtain⟨cd,hc,hd'⟩:=PySem.W.any_some hh
 have hx:s.heap.get? x=some ⟨.ref C,some dx,.plain,#[]⟩:=I.obj
 refine wpAny_bind (wpAny_pure (wpAny_bind (wpAny_bind (wpAny_loadPart hx (wpAny_bind (PySem.W.Looks.here (s:={s with toks:=s.toks+1}) (PySem.W.looks_clsIn X hc) ?_))))))
 rw[hd']
 refine wpAny_pure (a:=some dx) (wpAny_bind (wpAny_pure (wpAny_bind ?_)))
 refine wpAny_nsSet1 (s:={s with toks:=s.toks+1}) I.ns fun h' hn2 hs2=>?_
 obtain⟨oD,esD,epD,hoD,hdD,hcD⟩:=hn2.count (PySem.Within.cons name v hw)
 refine wpAny_bind (wpAny_lookBehind hoD (by rw[hdD];exact pastItsLine_dict (Nat.le_trans hcD (by rw[List.length_cons];omega))) ?_)
 exact wpAny_pure (h _ ⟨(hs2.2 _ (Ne.symm I.ne)).trans I.obj,hn2,I.ne⟩ hs2)
theorem F6 {R:Result->Shared->Prop} {vs:List Value} {kw:List (Str×Value)} (X:K.In s.heap) (hm:PySem.W.makesIn K C=true)
  (hi:PySem.W.findIn K (.ref C) "__init__" = some (some (.ref f))) (hf:PySem.W.typeIn K (.ref f)=some (.type "function"))
  (h:codeAny (model prog w) (A.under (.builtin "type.__call__" ⟨.ref C::vs,kw⟩)) (.call (.ref f) ⟨.ref (s.heap.objs.size+1)::vs,kw⟩) (PySem.W.InitBack (s.heap.objs.size+1) R)
   {s with heap:=(s.heap.push PySem.W.emptyDict).push (PySem.W.instObj C s.heap.objs.size)}) :
  codeAny (model prog w) A (.call (.ref C) ⟨vs,kw⟩) R s:=by
 obtain⟨hh,g,d,t,os⟩:=s
 exact PySem.W.make_core (PySem.W.makes_of X hm) (PySem.W.looks_findIn X hi) (fun self=>PySem.W.bind_fn X self hf) (.inl rfl) h
end
def lK (f:Str) (v:V):List (Str×V)->List (Str×V)
 | []=>[(f,v)]
 | (g,x)::r=>if g=f then (g,v)::r else (g,x)::lK f v r
theorem vL (f g:Str) (v:V):∀fs:List (Str×V),(lK f v fs).lookup g=if g=f then some v else fs.lookup g
 | []=>by
  show List.lookup g [(f,v)]=_
  by_cases h:g=f
  ·have hb:(g==f)=true:=beq_iff_eq.mpr h
   simp only[List.lookup,hb,if_pos h]
  ·have hb:(g==f)=false:=beq_eq_false_iff_ne.mpr h
   simp only[List.lookup,hb,if_neg h]
 | (k,x)::r=>by
  have ih:=vL f g v r
  rw[show lK f v ((k,x)::r)=(if k=f then (k,v)::r else (k,x)::lK f v r) from rfl]
  by_cases hk:k=f
  ·rw[if_pos hk]
   by_cases h:g=k
   ·have hb:(g==k)=true:=beq_iff_eq.mpr h
    simp only[List.lookup,hb,if_pos (h.trans hk)]
   ·have hb:(g==k)=false:=beq_eq_false_iff_ne.mpr h
    simp only[List.lookup,hb,if_neg (fun e:g=f=>h (e.trans hk.symm))]
  ·rw[if_neg hk]
   by_cases h:g=k
   ·have hb:(g==k)=true:=beq_iff_eq.mpr h
    simp only[List.lookup,hb,if_neg (fun e:g=f=>hk (h.symm.trans e))]
   ·have hb:(g==k)=false:=beq_eq_false_iff_ne.mpr h
    simp only[List.lookup,hb]
    exact ih
theorem vi (f:Str) (v:V):∀fs:List (Str×V),f∈(lK f v fs).map (·.1)/\∀g,g∈fs.map (·.1)->g∈(lK f v fs).map (·.1)
 | []=>⟨by simp[lK],fun g h=>by simp at h⟩
 | (k,x)::r=>by
  obtain⟨i1,i2⟩:=vi f v r
  rw[show lK f v ((k,x)::r)=(if k=f then (k,v)::r else (k,x)::lK f v r) from rfl]
  by_cases hk:k=f
  ·rw[if_pos hk]
   subst hk
   exact⟨by simp,fun g h=>by simpa using h⟩
  ·rw[if_neg hk]
   refine⟨?_,fun g h=>?_⟩
   ·rw[List.map_cons]
    exact List.mem_cons_of_mem _ i1
   ·rw[List.map_cons] at h ⊢
    rcases List.mem_cons.mp h with e|e
    ·exact List.mem_cons.mpr (.inl e)
    ·exact List.mem_cons_of_mem _ (i2 g e)
theorem vM (f:Str) (v:V):∀fs:List (Str×V),(lK f v fs).length<=fs.length+1
 | []=>by simp[lK]
 | (k,x)::r=>by
  have ih:=vM f v r
  rw[show lK f v ((k,x)::r)=(if k=f then (k,v)::r else (k,x)::lK f v r) from rfl]
  by_cases hk:k=f
  ·rw[if_pos hk,List.length_cons,List.length_cons];omega
  ·rw[if_neg hk,List.length_cons,List.length_cons];omega
theorem uL.some_of {v:V} {o:Option Value} (r:uL (some v) o):∃u,o=some u/\RelV v u:=by
 cases o with
 | none=>exact(show False from r).elim
 | some u=>exact⟨u,rfl,r⟩
theorem uL.none_of {o:Option Value} (r:uL none o):o=none:=by
 cases o with
 | none=>rfl
 | some u=>exact(show False from r).elim
theorem E3 {v:V} {u:Value} (r:RelV v u):PySem.W.handedIn u=true:=by
 cases v with
 | bo=>cases (show u=Value.none from r);rfl
 | bl b=>cases (show u=Value.bool b from r);rfl
 | int i=>obtain⟨t,e⟩:=(show ∃t,u=Value.int i t from r);cases e;rfl
 | str x=>obtain⟨t,e⟩:=(show ∃t,u=Value.str x t from r);cases e;rfl
 | C9 b=>obtain⟨t,e⟩:=(show ∃t,u=Value.bytes b t from r);cases e;rfl
 | flt b=>obtain⟨t,e⟩:=(show ∃t,u=Value.float b t from r);cases e;rfl
 | ref a=>cases (show u=Value.ref a from r);rfl
 | ty n=>cases (show u=Value.type n from r);rfl
section
variable {P:Program} {w:World} {H H':Hp} {h h':Heap} {a C dx:Addr} {fs fs':List (Str×V)}
theorem Aj (dz:p9 P w H h) (e:H a=some (.ins C dx fs)):∃mA,Df h a dx C mA/\(∀f,uL (fs.lookup f) (mA f))/\PySem.Within mA (fs.map (·.1))/\fs.length<=1000/\H dx=some (.own a):=by
 obtain⟨d,z,ne,ob,mA,n,r,q⟩:=(show eU P w H h a (.ins C dx fs) from dz a _ e)
 exact⟨mA,⟨ob,n,ne⟩,r,q,z,d⟩
end
structure Cf (K:PySem.W.Frag) (C:Addr):Prop where
 pg:PySem.W.plainGet K C Str.empty=true
 hd:PySem.W.hasDictIn K C=true
 po:PySem.W.plainOver K C=true
 sa:PySem.W.findIn K (.ref C) "__setattr__" = some (some (.builtin "object.__setattr__"))
theorem Cf.get {K:PySem.W.Frag} {C:Addr} (c:Cf K C) (f:Str):PySem.W.plainGet K C f=true:=c.pg
def aZ (K:PySem.W.Frag) (C:Addr) (f:Str):Prop:=PySem.W.findIn K (.ref C) f=some none
theorem aZ.taker {K:PySem.W.Frag} {C:Addr} {f:Str} (n:aZ K C f):PySem.W.takerIn K C f=some none:=by
 unfold PySem.W.takerIn
 rw[show PySem.W.findIn K (.ref C) f=some none from n]
 rfl
structure Meth (K:PySem.W.Frag) (C:Addr) (m:Str) (f:Addr):Prop where
 at_:PySem.W.findIn K (.ref C) m=some (some (.ref f))
 fn:PySem.W.isFn K (.ref f)=true
 kp:PySem.W.keepIn K (.ref f)=true
section
variable {X:Cx} {pins:List (Addr×Obj)} {σ:St} {H:Hp} {s:Shared} {a C dx:Addr} {fs:List (Str×V)} {f:Str} {v:V} {A:Around} {E:Value->Shared->Prop}
theorem xW {b:Bool} {Q:Value->Shared->Prop} (I:Inv X pins σ H s) (e:H a=some (.ins C dx fs)) (c:Cf X.K C) (n:aZ X.K C f) (l:fs.lookup f=some v)
  (h:∀u s',Inv X pins σ H s'->RelV v u->Q u s'):wpAny (model X.prog X.w) A (getAttr (.ref a) f b) Q E s:=by
 obtain⟨mA,O,r,_,_,_⟩:=Aj I.dz e
 obtain⟨u,hu,ru⟩:=uL.some_of (v:=v) (o:=mA f) (by rw[<-l];exact r f)
 exact get_map I.y9 O (c.get f) c.hd n hu (E3 ru) (h u _ (I.tok _) ru)
theorem xV {m:Str} {g:Addr} {pl:Sem Bool} {Q:Value×List Value->Shared->Prop} (I:Inv X pins σ H s) (e:H a=some (.ins C dx fs)) (c:Cf X.K C) (k:Meth X.K C m g) (l:fs.lookup m=none)
  (h:Q (.ref g,[.ref a]) s):wpAny (model X.prog X.w) A (getMethod (.ref a) m pl) Q E s:=by
 obtain⟨mA,O,r,_,_,_⟩:=Aj I.dz e
 have hn:mA m=none:=uL.none_of (by rw[<-l];exact r m)
 exact Gk I.y9 O (c.get m) k.at_ k.fn hn h
theorem xg {y:V} {u:Value} {Q:Unit->Shared->Prop} (I:Inv X pins σ H s) (e:H a=some (.ins C dx fs)) (c:Cf X.K C) (n:aZ X.K C f) (hl:fs.length<1000) (ry:RelV y u)
  (h:∀s',Inv X pins σ (upd H a (.ins C dx (lK f y fs))) s'->Q () s'):wpAny (model X.prog X.w) A (setAttr (.ref a) f u) Q E s:=by
 obtain⟨mA,O,r,wi,_,ho⟩:=Aj I.dz e
 have hz:(fs.map (·.1)).length<=sizeLine:=by rw[List.length_map,sizeLine_eq];omega
 refine Hm I.y9 O c.sa c.po n.taker c.hd wi hz fun h' O' sb=>h _ ?_
 have hd:∃o,h'.get? dx=some o:=let ⟨o,_,_,e',_⟩:=O'.ns;⟨o,e'⟩
 refine I.write (x:=a) (e:=dx) (by rw[e];exact True.intro) (.inr ho) (fun b q hb z=>(sb.2 b hb).trans z) hd ?_
 refine⟨by rw[aE O.ne];exact ho,?_,O.ne,O'.obj,_,O'.ns,fun g=>?_,fun g hg=>?_⟩
 ·have:=vM f y fs;omega
 ·show uL ((lK f y fs).lookup g) (if g=f then some u else mA g)
  rw[vL]
  by_cases q:g=f
  ·rw[if_pos q,if_pos q];exact ry
  ·rw[if_neg q,if_neg q];exact r g
 ·by_cases q:g=f
  ·rw[q];exact(vi f y fs).1
  ·refine(vi f y fs).2 g (wi g fun z=>hg ?_)
   show(if g=f then some u else mA g)=none
   rw[if_neg q];exact z
theorem Inv.made (I:Inv X pins σ H s):Inv X pins σ (upd (upd H s.heap.objs.size (.own (s.heap.objs.size+1))) (s.heap.objs.size+1) (.ins C s.heap.objs.size []))
  {s with heap:=(s.heap.push PySem.W.emptyDict).push (PySem.W.instObj C s.heap.objs.size)}:=by
 have e1:(s.heap.push PySem.W.emptyDict).get? s.heap.objs.size=some PySem.W.emptyDict:=Heap.get?_push_size s.heap rfl
 have e2:((s.heap.push PySem.W.emptyDict).push (PySem.W.instObj C s.heap.objs.size)).get? (s.heap.objs.size+1)=some (PySem.W.instObj C s.heap.objs.size):=by
  have:=Heap.get?_push_size (s.heap.push PySem.W.emptyDict) (o:=PySem.W.instObj C s.heap.objs.size) rfl
  rwa [Heap.size_push] at this
 have e3:(s.heap.push PySem.W.emptyDict).Ns s.heap.objs.size (fun _=>none):=⟨PySem.W.emptyDict,#[],_,e1,rfl,(fun e he=>absurd he (by simp)),fun _=>rfl⟩
 have I1:=I.laid (a:=s.heap.objs.size) (o:=.own (s.heap.objs.size+1)) (h':=s.heap.push PySem.W.emptyDict) (t':=s.toks) (fun b u q=>Heap.get?_push_of_some _ q) (Nat.le_refl _) ⟨_,e1⟩
 refine I1.laid (a:=s.heap.objs.size+1) (o:=.ins C s.heap.objs.size []) (t':=s.toks) (fun b u q=>Heap.get?_push_of_some _ q) (Nat.le_of_eq (Heap.size_push _ _)) ?_
 have ne:s.heap.objs.size≠s.heap.objs.size+1:=Nat.ne_of_lt (Nat.lt_succ_self _)
 refine⟨by rw[aE ne,ae],Nat.zero_le _,ne,e2,fun _=>none,(Heap.Ns1.of_empty e3).at fun o q=>Heap.get?_push_of_some _ q,fun _=>True.intro,fun y hy=>absurd rfl hy⟩
theorem Ia {prog:Program} {w:World} {env:Env} {e:Expr} {f:Str} {pos:Pos} {s:Shared} {Q:Value->Shared->Prop} (hb:attributeBase e f env (eval e env)=eval e env)
  (h:wpAny (model prog w) A (eval e env) (fun o s₁=>wpAny (model prog w) A (getAttr o f true) Q E s₁) E s):wpAny (model prog w) A (eval (.Attribute e f pos) env) Q E s :=
 Attribute_any_ h (by rw[arm_eval_Attribute,hb])
end
inductive FldP (K:PySem.W.Frag) (f:Str) (x:V) (H:Hp) (Q:V->Prop):Prop|mk (a C dx:Addr) (fs:List (Str×V)) (v:V):x=.ref a->H a=some (.ins C dx fs)->Cf K C->aZ K C f->fs.lookup f=some v->Q v->FldP K f x H Q
def tFld (K:PySem.W.Frag) (ta:TE) (f:Str):TE:=fun σ H Q=>ta σ H fun x H1=>FldP K f x H1 fun v=>Q v H1
inductive PutP (K:PySem.W.Frag) (f:Str) (x y:V) (H:Hp) (Q:Hp->Prop):Prop|mk (a C dx:Addr) (fs:List (Str×V)):x=.ref a->H a=some (.ins C dx fs)->Cf K C->aZ K C f->fs.length<1000->Q (upd H a (.ins C dx (lK f y fs)))->PutP K f x y H Q
def sFld (K:PySem.W.Frag) (ta tv:TE) (f:Str):TS:=fun D σ H=>tv σ H fun y H1=>ta σ H1 fun x H2=>PutP K f x y H2 (D.nx σ)
def InOp (X:Cx) (op:Operator) (rd:V->V->Hp->VK->Prop):Prop :=
 ∀(pins:List (Addr×Obj)) (s:Shared) (σ:St) (H:Hp) (x y:V) (u v:Value) (Q:VK),Inv X pins σ H s->RelV x u->RelV y v->rd x y H Q->wpAny (model X.prog X.w) X.A (inplaceOp op u v) (EP X pins σ Q) X.xe s
def Hr (K:PySem.W.Frag) (ta tv:TE) (rd:V->V->Hp->VK->Prop) (f:Str):TS:=fun D σ H=>ta σ H fun x H1=>∃a C dx fs v,x=.ref a/\H1 a=some (.ins C dx fs)/\Cf K C/\aZ K C f/\fs.lookup f=some v /\
 tv σ H1 fun y H2=>rd v y H2 fun z H3=>∃dx' fs',H3 a=some (.ins C dx' fs')/\fs'.length<1000/\D.nx σ (upd H3 a (.ins C dx' (lK f z fs')))
section
variable {X:Cx} {o e value:Expr} {f:Str} {pos pos' tpos:Pos} {ta tv:TE}
theorem az (he:PE X e ta) (hb:attributeBase e f X.env (eval e X.env)=eval e X.env):PE X (.Attribute e f pos) (tFld X.K ta f):=by
 intro pins s σ H Q I h
 refine Ia hb (eS (he pins s σ H _ I h) fun u s1 ⟨x,H1,I1,rx,a,C,dx,fs,v,ex,ea,c,n,l,q⟩=>?_)
 subst ex
 obtain rfl:u=Value.ref a:=rx
 exact xW I1 ea c n l fun u' s2 I2 ru=>⟨v,H1,I2,ru,q⟩
theorem aY (ha:PE X o ta) (hv:PE X value tv) (hs:swapsWith value (some (.Attribute o f pos')) pos.line X.env=pure false):PS X (.Assign [.Attribute o f pos'] value pos) (sFld X.K ta tv f):=by
 intro pins s σ H D I h
 refine plainObj_wpAny_Assign_Attribute (eS (hv pins s σ H _ I h) fun u s1 ⟨y,H1,I1,ry,q⟩=>eS (ha pins s1 σ H1 _ I1 q) fun ov s2 ⟨x,H2,I2,rx,a,C,dx,fs,ex,ea,c,n,l,q2⟩=>?_) hs
 subst ex
 obtain rfl:ov=Value.ref a:=rx
 exact xg I2 ea c n l ry fun s3 I3=>⟨σ,_,I3,q2⟩
theorem u6 {op:Operator} {rd:V->V->Hp->VK->Prop} (ha:PE X o ta) (hv:PE X value tv) (hop:InOp X op rd):PS X (.AugAssign (.Attribute o f tpos) op value pos) (Hr X.K ta tv rd f):=by
 intro pins s σ H D I h
 refine wpAny_AugAssign_AttributeAny (eS (ha pins s σ H _ I h) fun ov s1 ⟨x,H1,I1,rx,a,C,dx,fs,v,ex,ea,c,n,l,q⟩=>?_)
 subst ex
 obtain rfl:ov=Value.ref a:=rx
 refine xW I1 ea c n l fun u s2 I2 ru=>eS (hv pins s2 σ H1 _ I2 q) fun w3 s3 ⟨y,H2,I3,ry,q3⟩=>eS (hop pins s3 σ H2 v y u w3 _ I3 ru ry q3) fun w4 s4 ⟨z,H3,I4,rz,dx',fs',ea',l',q4⟩=>?_
 exact xg I4 ea' c n l' rz fun s5 I5=>⟨σ,_,I5,q4⟩
def rAdd:V->V->Hp->VK->Prop:=fun x y H Q=>GS x y fun i j=>Q (.int (i+j)) H
theorem CS:InOp X .Add rAdd:=by
 rintro pins s σ H x y u v Q I rx ry ⟨i,j,rfl,rfl,q⟩
 obtain⟨t,rfl⟩:=(show ∃t,u=Value.int i t from rx)
 obtain⟨t',rfl⟩:=(show ∃t',v=Value.int j t' from ry)
 exact PyProof.Rows.iadd_int ⟨.int (i+j),H,I.tok _,⟨_,rfl⟩,q⟩
end
section
variable {X:Cx} {pins:List (Addr×Obj)} {σ:St} {H:Hp} {s:Shared} {A:Around} {E:Value->Shared->Prop} {Q:Value->Shared->Prop} {c:Value} {b:Bool}
end
end L2
namespace L2
open PySem PySem.Spec PyProof.Rows
structure iJ (k:Nat) (A:Around):Prop where
 hd:A.handled=none
 dp:A.depth+3*k+5<recursionLimit
 un:A.units+16*k+200<cLine
theorem iJ.mono {j k:Nat} {A:Around} (r:iJ k A) (h:j<=k):iJ j A:=⟨r.hd,by have:=r.dp;omega,by have:=r.un;omega⟩
theorem iJ.deeper {k:Nat} {A:Around} (r:iJ (k+1) A) (env:Env):iJ k (A.deeper env) :=
 ⟨r.hd,by have:=r.dp;show A.depth+1+3*k+5<_;omega,by have:=r.un;show A.units+3+16*k+200<_;omega⟩
theorem CL {A:Around} {C:Addr} {us:List Value} {kw:List (Str×Value)}:(A.under (.builtin "type.__call__" ⟨.ref C::us,kw⟩)).depth=A.depth+1:=by
 first|rfl|simp[Around.under,Code.weight,Code.isCreation,Code.isGuard,Code.isCaller,Code.frames,Code.isFrame,guardIds]
theorem CK {A:Around} {C:Addr} {us:List Value} {kw:List (Str×Value)}:(A.under (.builtin "type.__call__" ⟨.ref C::us,kw⟩)).units=A.units+1:=by
 first|rfl|simp[Around.under,Code.cUnits,Code.frames,Code.isFrame]
theorem iJ.make {k:Nat} {A:Around} (r:iJ (k+1) A) (C:Addr) (us:List Value) (kw:List (Str×Value)):iJ k (A.under (.builtin "type.__call__" ⟨.ref C::us,kw⟩)) :=
 ⟨r.hd,by have:=r.dp;rw[CL];omega,by have:=r.un;rw[CK];omega⟩
theorem iJ.depth {k:Nat} {A:Around} (r:iJ k A):A.depth<recursionLimit:=by have:=r.dp;omega
theorem iJ.units {k:Nat} {A:Around} (r:iJ k A):A.units+64<cLine:=by have:=r.un;omega
def IZ:TA:=fun _ H Q=>Q [] H
def tCons (ta:TE) (tr:TA):TA:=fun σ H Q=>ta σ H fun x H1=>tr σ H1 fun xs H2=>Q (x::xs) H2
section
variable {X:Cx} {e:Expr} {es:List Expr} {te:TE} {t:TA} {pos:Pos}
theorem ag:PA X [] IZ:=fun _ _ _ _ H Q I h=>Calls.spliced_nil ⟨[],H,I,.nil,h⟩
theorem aa (ha:PE X e te) (hr:PA X es t) (hs:starEach (e::es) X.env=(false,eval e X.env)::starEach es X.env:=by rfl):PA X (e::es) (tCons te t):=by
 intro pos pins s σ H Q I h
 rw[hs]
 show wpAny _ _ (spliced ((false,eval e X.env)::backTo pos (starEach es X.env))) _ _ s
 refine Calls.spliced_cons (eS (ha pins s σ H _ I h) fun u s1 ⟨x,H1,I1,r1,q1⟩=>?_)
 exact eS (hr pos pins s1 σ H1 _ I1 q1) fun us s2 ⟨xs,H2,I2,r2,q2⟩=>⟨x::xs,H2,I2,.cons r1 r2,q2⟩
def tTup (t:TA):TE:=fun σ H Q=>t σ H fun xs H1=>xs.length<=sizeLine/\∀p,H1 p=none->Q (.ref p) (upd H1 p (.tup xs))
def tLst (t:TA):TE:=fun σ H Q=>t σ H fun xs H1=>xs.length<=sizeLine/\∀p,H1 p=none->Q (.ref p) (upd H1 p (.lst xs))
theorem bR {x1} (h:PA X es t):PE X (.Tuple es x1 pos) (tTup t):=by
 intro pins s σ H Q I hq
 refine wpAny_Tuple_spliced (eS (h pos pins s σ H _ I hq) fun us s1 ⟨xs,H1,I1,r,z,q⟩=>⟨by rw[<-r.length];exact z,?_⟩)
 have hf:H1 s1.heap.objs.size=none:=I1.dz.fresh (Nat.le_refl _)
 refine⟨.ref s1.heap.objs.size,upd H1 s1.heap.objs.size (.tup xs),I1.laid (t':=s1.toks) (fun b u e=>Heap.get?_push_of_some _ e) (Nat.le_refl _) ?_,rfl,q _ hf⟩
 exact⟨z,us,r,⟨_,Heap.get?_push_size _ rfl,rfl,_,rfl⟩⟩
theorem bf (h:PA X es t):PE X (.List es pos) (tLst t):=by
 intro pins s σ H Q I hq
 refine wpAny_List_spliced (eS (h pos pins s σ H _ I hq) fun us s1 ⟨xs,H1,I1,r,z,q⟩=>⟨by rw[<-r.length];exact z,?_⟩)
 have hf:H1 s1.heap.objs.size=none:=I1.dz.fresh (Nat.le_refl _)
 refine⟨.ref s1.heap.objs.size,upd H1 s1.heap.objs.size (.lst xs),I1.laid (t':=s1.toks) (fun b u e=>Heap.get?_push_of_some _ e) (Nat.le_refl _) ?_,rfl,q _ hf⟩
 exact⟨z,us,0,r,Heap.get?_push_size _ rfl⟩
end
abbrev Sp:=List V->Hp->VK->XK->Prop
abbrev B9:=List Env->Hp->Shared->XK->Value->Shared->Prop
structure Dg (P:Program) (w:World) (K:PySem.W.Frag) (mg:Str->Option Value) (base:Heap) (A:Around) (outer:List Env) (s:Shared) (H:Hp):Prop where
 frames:A.frames=some outer
 mod:Mod K mg base
 bs:∀b o,base.get? b=some o->s.heap.get? b=some o/\H b=none
 GF:base.objs.size<=s.heap.objs.size
 uE:s.heap.FunFrames base outer
 HR:∀b∈rU outer,H b=none
 dz:p9 P w H s.heap
 bare:AllBare s.gens
def CE (outer:List Env) (P:Program) (w:World) (H:Hp) (s:Shared) (Q:VK) (u:Value) (s':Shared):Prop :=
 ∃v H',s'.os=s.os/\AllBare s'.gens/\Un (rU outer) [] H H' s.heap s'.heap/\p9 P w H' s'.heap/\RelV v u/\Q v H'
def CR (CX:B9) (outer:List Env) (P:Program) (w:World) (H:Hp) (s:Shared) (Q:VK) (E:XK) (r:Result) (s':Shared):Prop :=
 match r with
 | .ok (.ret u)=>CE outer P w H s Q u s'
 | .ok _=>False
 | .error e=>CX outer H s E e s'
structure aS (P:Program) (w:World) (K:PySem.W.Frag) (mg:Str->Option Value) (base:Heap) (CX:B9) (k:Nat) (f:Addr) (fd:FuncData) (ps:List Str) (sp:Sp):Prop where
 len:∀vs H Q E,sp vs H Q E->vs.length=ps.length
 run:∀(A:Around) (outer:List Env) (s:Shared) (H:Hp) (args:Args) (us:List Value) (vs:List V) (Q:VK) (E:XK),iJ k A->Dg P w K mg base A outer s H->BindsTo s fd args (ps.zip us)->Vals vs us->sp vs H Q E ->
  codeAny (model P w) A (.call (.ref f) args) (CR CX outer P w H s Q E) s
theorem aS.mono {P:Program} {w:World} {K:PySem.W.Frag} {mg:Str->Option Value} {base:Heap} {CX:B9} {j k:Nat} {f:Addr} {fd:FuncData} {ps:List Str} {sp:Sp} (F:aS P w K mg base CX j f fd ps sp) (h:j<=k) :
  aS P w K mg base CX k f fd ps sp:=⟨F.len,fun A outer s H args us vs Q E hr=>F.run A outer s H args us vs Q E (hr.mono h)⟩
theorem aS.imp {P:Program} {w:World} {K:PySem.W.Frag} {mg:Str->Option Value} {base:Heap} {CX:B9} {k:Nat} {f:Addr} {fd:FuncData} {ps:List Str} {sp sp':Sp} (F:aS P w K mg base CX k f fd ps sp)
  (h:∀vs H Q E,sp' vs H Q E->sp vs H Q E):aS P w K mg base CX k f fd ps sp' :=
 ⟨fun vs H Q E q=>F.len vs H Q E (h _ _ _ _ q),fun A outer s H args us vs Q E hr he hb hv hs=>F.run A outer s H args us vs Q E hr he hb hv (h _ _ _ _ hs)⟩
theorem Dg.make {P:Program} {w:World} {K:PySem.W.Frag} {mg:Str->Option Value} {base:Heap} {A:Around} {outer:List Env} {s:Shared} {H:Hp} (e:Dg P w K mg base A outer s H) (C:Addr) (us:List Value) (kw:List (Str×Value)) :
  Dg P w K mg base (A.under (.builtin "type.__call__" ⟨.ref C::us,kw⟩)) outer s H:=⟨by first|exact e.frames|(simpa [Around.under,Code.envs,Code.isFrame,pushEnvs] using e.frames),e.mod,e.bs,e.GF,e.uE,e.HR,e.dz,e.bare⟩
section
variable {X:Cx} {pins:List (Addr×Obj)} {σ:St} {H:Hp} {s s':Shared}
theorem Inv.env0 (I:Inv X pins σ H s):Dg X.prog X.w X.K X.mg X.base X.A X.stack s H :=
 ⟨I.ok.frames,I.ok.mod,I.bs,Nat.le_trans I.ok.GF I.sz,I.stack,I.zQ,I.dz,I.bare⟩
theorem Inv.after {Q:VK} {u:Value} (I:Inv X pins σ H s) (h:CE X.stack X.prog X.w H s Q u s'):EP X pins σ Q u s':=by
 obtain⟨v,H',os,bare,un,dz,r,q⟩:=h
 obtain⟨hh,g,d,t,os'⟩:=s'
 obtain rfl:os'=s.os:=os
 exact⟨v,H',I.call (h':=hh) (g':=g) (d':=d) (t':=t) (ch:=[]) un dz bare (fun b z=>absurd z (by simp)),r,q⟩
end
def tCall (sp:Sp) (dvs:List V) (E:XK) (t:TA):TE:=fun σ H Q=>t σ H fun vs H1=>sp (vs++dvs) H1 Q E
inductive MethP (C:Addr) (m:Str) (x:V) (H:Hp) (Q:Prop):Prop|mk (a dx:Addr) (fs:List (Str×V)):x=.ref a->H a=some (.ins C dx fs)->fs.lookup m=none->Q->MethP C m x H Q
def Il (C:Addr) (m:Str) (sp:Sp) (dvs:List V) (E:XK) (ta:TE) (t:TA):TE:=fun σ H Q=>ta σ H fun x H1=>MethP C m x H1 (t σ H1 fun vs H2=>sp (x::(vs++dvs)) H2 Q E)
def Im (C:Addr) (sp:Sp) (dvs:List V) (E:XK) (t:TA):TE:=fun σ H Q=>t σ H fun vs H1=>∀x dx,H1 x=none->H1 dx=none->dx≠x ->
 sp (.ref x::(vs++dvs)) (upd (upd H1 dx (.own x)) x (.ins C dx [])) (fun v H2=>v=.bo/\Q (.ref x) H2) E
def Binds (K:PySem.W.Frag) (fd:FuncData) (ps:List Str) (ds:List Value):Prop :=
 ∀(s:Shared) (us:List Value),K.In s.heap->(us++ds).length=ps.length->BindsTo s fd ⟨us,[]⟩ (ps.zip (us++ds))
theorem Binds.all {K:PySem.W.Frag} {fd:FuncData} {ps:List Str} (h:∀us:List Value,us.length=ps.length->bindArgs fd ⟨us,[]⟩=pure (ps.zip us)):Binds K fd ps []:=fun s us _ hl=>by
 rw[List.append_nil] at hl ⊢
 exact .of_eq (h us hl)
def Passes (CX:B9) (X:Cx) (E:XK):Prop:=∀(pins:List (Addr×Obj)) (σ:St) (H:Hp) (s:Shared) (e:Value) (s':Shared),Inv X pins σ H s->CX X.stack H s E e s'->X.xe e s'
section
variable {X:Cx} {CX:B9} {k:Nat} {f C:Addr} {fd:FuncData} {ps:List Str} {sp:Sp} {dvs:List V} {ds:List Value} {E:XK} {x m:Str} {p pos apos:Pos} {e o:Expr} {es:List Expr} {ta:TE} {t:TA}
theorem zZ {pins:List (Addr×Obj)} {σ:St} {H:Hp} {s:Shared} {Q:VK} {us:List Value} {vs:List V} (F:aS X.prog X.w X.K X.mg X.base CX k f fd ps sp) (hr:iJ k X.A) (hb:Binds X.K fd ps ds) (hd:Vals dvs ds) (hx:Passes CX X E)
  (I:Inv X pins σ H s) (r:Vals vs us) (h:sp (vs++dvs) H Q E):wpAny (model X.prog X.w) X.A (call (.ref f) us) (EP X pins σ Q) X.xe s:=by
 have r2:Vals (vs++dvs) (us++ds):=r.append hd
 have hl:(us++ds).length=ps.length:=by rw[<-r2.length];exact F.len _ _ _ _ h
 refine wpAny_call (codeAny_mono (F.run X.A X.stack s H ⟨us,[]⟩ (us++ds) (vs++dvs) Q E hr I.env0 (hb s us I.y9 hl) r2 h) fun r s' hq=>?_)
 cases r with
 | error e=>exact hx pins σ H s e s' I hq
 | ok fl =>
  cases fl with
  | ret u=>exact I.after hq
  | next=>exact False.elim hq
  | brk=>exact False.elim hq
  | cont=>exact False.elim hq
theorem aV (F:aS X.prog X.w X.K X.mg X.base CX k f fd ps sp) (hr:iJ k X.A) (hg:Gl X x) (hm:X.mg x=some (.ref f)) (hk:PySem.W.keepIn X.K (.ref f)=true) (hb:Binds X.K fd ps ds) (hd:Vals dvs ds) (hx:Passes CX X E)
  (ha:PA X (e::es) t) (hdb:(x==("__debug__" : Str))=false:=by decide) (he:starEach (e::es) X.env=(false,eval e X.env)::starEach es X.env:=by rfl) (hpl:(backTo pos (starEach es X.env)).any (·.1)=false:=by rfl) :
  PE X (.Call (.Name x p) (e::es) [] pos) (tCall sp dvs E t):=by
 intro pins s σ H Q I h
 refine wpAny_Call_Name_kw (mT I hg hm ?_ hdb)
 refine PySem.W.callWith_K (h₀:=X.base) I.ok.mod.kin hk (eS (ha pos pins s σ H _ I h) fun us s1 ⟨vs,H1,I1,r,q⟩=>⟨I1.y9,?_⟩) he hpl
 exact zZ F hr hb hd hx I1 r q
theorem aG {pl:Sem Bool} (he:PE X o ta) (c:Cf X.K C) (hm:Meth X.K C m f) (F:aS X.prog X.w X.K X.mg X.base CX k f fd ps sp) (hr:iJ k X.A) (hb:Binds X.K fd ps ds) (hd:Vals dvs ds) (hx:Passes CX X E) (ha:PA X (e::es) t)
  (hst:starEach (e::es) X.env=(false,eval e X.env)::starEach es X.env:=by rfl) (hpl:(backTo pos (starEach es X.env)).any (·.1)=false:=by rfl)
  (ht:eval (.Call (.Attribute o m apos) (e::es) [] pos) X.env=(do
   let ov <-eval o X.env
   standAt apos.atName
   let (f,first) <-holding [ov] (getMethod ov m pl)
   callWith pos f first (backTo pos (starEach (e::es) X.env)) (backToKw pos (keywordEach [] X.env))):=by rfl) :
  PE X (.Call (.Attribute o m apos) (e::es) [] pos) (Il C m sp dvs E ta t):=by
 intro pins s σ H Q I h
 refine PySem.W.methodCall_KW (pl:=pl) (eS (he pins s σ H _ I h) fun u s1 ⟨x,H1,I1,rx,a,dx,fs,ex,ea,l,q⟩=>?_) ht
 subst ex
 obtain rfl:u=Value.ref a:=rx
 refine xV I1 ea c hm l ?_
 refine PySem.W.callWith_K (first:=[.ref a]) (h₀:=X.base) I.ok.mod.kin hm.kp (eS (ha pos pins s1 σ H1 _ I1 q) fun us s2 ⟨vs,H2,I2,r,q2⟩=>⟨I2.y9,?_⟩) hst hpl
 exact zZ (us:=.ref a::us) (vs:=.ref a::vs) F hr hb hd hx I2 (.cons rfl r) q2
theorem gf {pl:Sem Bool} (he:PE X o ta) (c:Cf X.K C) (hm:Meth X.K C m f) (F:aS X.prog X.w X.K X.mg X.base CX k f fd ps sp) (hr:iJ k X.A) (hb:Binds X.K fd ps ds) (hd:Vals dvs ds) (hx:Passes CX X E)
  (ht:eval (.Call (.Attribute o m apos) [] [] pos) X.env=(do
   let ov <-eval o X.env
   standAt apos.atName
   let (f,first) <-holding [ov] (getMethod ov m pl)
   callWith pos f first (backTo pos (starEach [] X.env)) (backToKw pos (keywordEach [] X.env))):=by rfl) :
  PE X (.Call (.Attribute o m apos) [] [] pos) (Il C m sp dvs E ta IZ):=by
 intro pins s σ H Q I h
 refine PySem.W.methodCall_KW (pl:=pl) (eS (he pins s σ H _ I h) fun u s1 ⟨x,H1,I1,rx,a,dx,fs,ex,ea,l,q⟩=>?_) ht
 subst ex
 obtain rfl:u=Value.ref a:=rx
 refine xV I1 ea c hm l ?_
 exact PySem.W.callWith_K0 (first:=[.ref a]) I1.y9 hm.kp (zZ (us:=[.ref a]) (vs:=[.ref a]) F hr hb hd hx I1 (.cons rfl .nil) q)
structure Mk (K:PySem.W.Frag) (C f:Addr):Prop where
 makes:PySem.W.makesIn K C=true
 init:PySem.W.findIn K (.ref C) "__init__" = some (some (.ref f))
 fn:PySem.W.isFn K (.ref f)=true
 kp:PySem.W.keepIn K (.ref C)=true
theorem AN {pins:List (Addr×Obj)} {σ:St} {H:Hp} {s:Shared} {Q:VK} {us:List Value} {vs:List V} (M:Mk X.K C f) (F:aS X.prog X.w X.K X.mg X.base CX k f fd ps sp) (hr:iJ (k+1) X.A) (hb:Binds X.K fd ps ds) (hd:Vals dvs ds)
  (hx:Passes CX X E) (I:Inv X pins σ H s) (r:Vals vs us)
  (h:∀x dx,H x=none->H dx=none->dx≠x->sp (.ref x::(vs++dvs)) (upd (upd H dx (.own x)) x (.ins C dx [])) (fun v H2=>v=.bo/\Q (.ref x) H2) E) :
  wpAny (model X.prog X.w) X.A (call (.ref C) us) (EP X pins σ Q) X.xe s:=by
 have hq:=h (s.heap.objs.size+1) s.heap.objs.size (I.dz.fresh (Nat.le_succ _)) (I.dz.fresh (Nat.le_refl _)) (Nat.ne_of_lt (Nat.lt_succ_self _))
 have I2:=Inv.made (C:=C) I
 have r2:Vals (V.ref (s.heap.objs.size+1)::(vs++dvs)) (Value.ref (s.heap.objs.size+1)::(us++ds)):=.cons rfl (r.append hd)
 have hl:(Value.ref (s.heap.objs.size+1)::us++ds).length=ps.length:=by
  have e:=r2.length
  rw[F.len _ _ _ _ hq] at e
  exact e.symm
 refine wpAny_call (F6 (f:=f) I.y9 M.makes M.init (beq_iff_eq.mp M.fn) (codeAny_mono (F.run _ X.stack _ _ ⟨Value.ref (s.heap.objs.size+1)::us,[]⟩ (Value.ref (s.heap.objs.size+1)::(us++ds)) _ _ E (hr.make C us [])
  (I2.env0.make C us []) (hb _ (Value.ref (s.heap.objs.size+1)::us) I2.y9 hl) r2 hq) fun r s' hq'=>?_))
 cases r with
 | error e=>exact hx pins σ _ _ e s' I2 hq'
 | ok fl =>
  cases fl with
  | ret u =>
   obtain⟨v,H',I3,rv,ev,q3⟩:=I2.after hq'
   subst ev
   exact⟨rv,⟨V.ref (s.heap.objs.size+1),H',I3,rfl,q3⟩⟩
  | next=>exact False.elim hq'
  | brk=>exact False.elim hq'
  | cont=>exact False.elim hq'
theorem rC (M:Mk X.K C f) (F:aS X.prog X.w X.K X.mg X.base CX k f fd ps sp) (hr:iJ (k+1) X.A) (hg:Gl X x) (hm:X.mg x=some (.ref C)) (hb:Binds X.K fd ps ds) (hd:Vals dvs ds) (hx:Passes CX X E)
  (ha:PA X (e::es) t) (hdb:(x==("__debug__" : Str))=false:=by decide) (he:starEach (e::es) X.env=(false,eval e X.env)::starEach es X.env:=by rfl) (hpl:(backTo pos (starEach es X.env)).any (·.1)=false:=by rfl) :
  PE X (.Call (.Name x p) (e::es) [] pos) (Im C sp dvs E t):=by
 intro pins s σ H Q I h
 refine wpAny_Call_Name_kw (mT I hg hm ?_ hdb)
 refine PySem.W.callWith_K (h₀:=X.base) I.ok.mod.kin M.kp (eS (ha pos pins s σ H _ I h) fun us s1 ⟨vs,H1,I1,r,q⟩=>⟨I1.y9,?_⟩) he hpl
 exact AN M F hr hb hd hx I1 r q
theorem A3 (M:Mk X.K C f) (F:aS X.prog X.w X.K X.mg X.base CX k f fd ps sp) (hr:iJ (k+1) X.A) (hg:Gl X x) (hm:X.mg x=some (.ref C)) (hb:Binds X.K fd ps ds) (hd:Vals dvs ds) (hx:Passes CX X E)
  (hdb:(x==("__debug__" : Str))=false:=by decide):PE X (.Call (.Name x p) [] [] pos) (Im C sp dvs E IZ):=by
 intro pins s σ H Q I h
 refine wpAny_Call_Name_kw (mT I hg hm ?_ hdb)
 exact PySem.W.callWith_K0 I.y9 M.kp (AN (us:=[]) M F hr hb hd hx I .nil h)
end
section
variable {X:Cx} {CX:B9} {k:Nat} {f C:Addr} {fd:FuncData} {ps ks:List Str} {sp:Sp} {E:XK} {x m:Str} {p pos apos kpos:Pos} {e o:Expr} {es:List Expr} {kws:List Keyword} {te ta:TE} {t tk:TA} {nm:Option Str}
variable {g:List Value->List Value->List Value} {gV:List V->List V->List V}
end
structure aD (N P:List Str) (sc:Scope):Prop where
 kind:sc.kind=.function
 co:sc.isCoroutine=false
 gen:sc.isGenerator=false
 nd:N.Nodup
 pre:N.take P.length=P
 par:∀x∈P,sc.names.lookup x=some .local\/sc.names.lookup x=some .cell
 JF:∀y∈sc.names,y.2≠.free
theorem zr {kindOf:Str->Option NameKind} {x:Str}:∀{binds:List (Str×Value)} {m:Str->Option Value},(∀v,(x,v)∉binds)->bindL kindOf binds m x=m x
 | [],_,_=>rfl
 | (n,v)::r,m,h=>by
  unfold bindL
  rw[zr fun w hw=>h w (List.mem_cons_of_mem _ hw)]
  split
  ·have:x≠n:=by rintro rfl;exact h v List.mem_cons_self
   simp[this]
  ·rfl
theorem zu {kindOf:Str->Option NameKind} {x:Str}:∀{binds:List (Str×Value)} {m:Str->Option Value},(∀v,(x,v)∉binds)->bindC kindOf binds m x=m x
 | [],_,_=>rfl
 | (n,v)::r,m,h=>by
  unfold bindC
  rw[zu fun w hw=>h w (List.mem_cons_of_mem _ hw)]
  split
  ·rfl
  ·have:x≠n:=by rintro rfl;exact h v List.mem_cons_self
   simp[this]
theorem zt {kindOf:Str->Option NameKind} {x:Str} {v:Value}:∀{P:List Str} {vs:List Value} {i:Nat} {m:Str->Option Value},P.Nodup->P[i]?=some x->vs[i]?=some v->kindOf x=some .local ->
  bindL kindOf (P.zip vs) m x=some v
 | [],_,_,_,_,h,_,_=>by simp at h
 | _::_,[],_,_,_,_,h,_=>by simp at h
 | p::P,w::vs,0,m,nd,h1,h2,hk=>by
  simp at h1 h2;subst h1;subst h2
  show bindL kindOf ((p,w)::P.zip vs) m p=_
  unfold bindL
  rw[zr fun v hv=>(List.nodup_cons.mp nd).1 (List.of_mem_zip hv).1,if_pos hk]
  simp
 | p::P,w::vs,i+1,m,nd,h1,h2,hk=>by
  show bindL kindOf ((p,w)::P.zip vs) m x=_
  unfold bindL
  exact zt (i:=i) (List.nodup_cons.mp nd).2 (by simpa using h1) (by simpa using h2) hk
theorem zw {kindOf:Str->Option NameKind} {x:Str} {v:Value}:∀{P:List Str} {vs:List Value} {i:Nat} {m:Str->Option Value},P.Nodup->P[i]?=some x->vs[i]?=some v->kindOf x≠some .local ->
  bindC kindOf (P.zip vs) m x=some v
 | [],_,_,_,_,h,_,_=>by simp at h
 | _::_,[],_,_,_,_,h,_=>by simp at h
 | p::P,w::vs,0,m,nd,h1,h2,hk=>by
  simp at h1 h2;subst h1;subst h2
  show bindC kindOf ((p,w)::P.zip vs) m p=_
  unfold bindC
  rw[zu fun v hv=>(List.nodup_cons.mp nd).1 (List.of_mem_zip hv).1,if_neg hk]
  simp
 | p::P,w::vs,i+1,m,nd,h1,h2,hk=>by
  show bindC kindOf ((p,w)::P.zip vs) m x=_
  unfold bindC
  exact zw (i:=i) (List.nodup_cons.mp nd).2 (by simpa using h1) (by simpa using h2) hk
def start (N:List Str) (vs:List V):St:=vs.map some++List.replicate (N.length-vs.length) none
def C1 (CX:B9) (P:Program) (w:World) (K:PySem.W.Frag) (mg:Str->Option Value) (base:Heap) (N:List Str) (qual:Str) (scope:Scope) (f:Addr) (cd:Value) (A:Around) (outer:List Env) (s:Shared) (H:Hp) (E:XK):Cx where
 prog:=P
 w:=w
 K:=K
 mg:=mg
 base:=base
 A:=A.deeper (envOfC qual scope s.heap.objs.size f cd)
 N:=N
 xo:=s
 JY:=H
 env:=envOfC qual scope s.heap.objs.size f cd
 outer:=outer
 stack:=envOfC qual scope s.heap.objs.size f cd::outer
 ex:=[]
 calm:=true
 fn:=fun _=>true
 pn:=[]
 xe:=fun e s'=>wpAny (model P w) (A.deeper (envOfC qual scope s.heap.objs.size f cd)) (leaving (envOfC qual scope s.heap.objs.size f cd) e) (fun _ s''=>CX outer H s E e s'') (fun e' s''=>CX outer H s E e' s'') s'
theorem BB {sc:Scope} {n:Nat} {x:Str} (h:sc.names.lookup x=some .cell):∃c,(cellsFrom n sc.names []).lookup x=some c:=by
 have q:=PySem.W.cellsFrom_some sc.names n [] (.inl h)
 exact Option.isSome_iff_exists.mp q
theorem E1 {CX:B9} {P:Program} {w:World} {K:PySem.W.Frag} {mg:Str->Option Value} {base:Heap} {N ps:List Str} {qual:Str} {scope:Scope} {f:Addr} {cd:Value} {A:Around} {outer:List Env} {s s1:Shared} {H:Hp} {E:XK} {us:List Value} {vs:List V}
  (S:aD N ps scope) (hd:A.handled=none) (e0:Dg P w K mg base A outer s H) (hl:vs.length=ps.length) (r:Vals vs us)
  (x:InCallC s s.heap.objs.size (bindL (envOfC qual scope s.heap.objs.size f cd).kindOf (ps.zip us) fun _=>none) (cellsFrom (s.heap.objs.size+1) scope.names []) (bindC (envOfC qual scope s.heap.objs.size f cd).kindOf (ps.zip us) fun _=>none) s1) :
  Inv (C1 CX P w K mg base N qual scope f cd A outer s H E) [] (start N vs) H s1:=by
 have hpl:ps.length<=N.length:=by have:=congrArg List.length S.pre;rw[List.length_take] at this;omega
 obtain⟨h1,tk,rfl,hk⟩:=x.done
 have noA:∀b:Addr,b∉(C1 CX P w K mg base N qual scope f cd A outer s H E).ex:=fun b z=>absurd (show b∈([]:List Addr) from z) (by simp)
 refine⟨⟨e0.mod,S.kind,rfl,rfl,Nat.le_refl _,fun y z c h1 h2=>?_,fun y hy=>?_,fun y c _ h=>?_,fun _=>hd,Around.frames_deeper e0.frames,.inr ⟨rfl,rfl⟩,fun b z=>absurd z (noA b),e0.bs,e0.GF,fun b _ _=>noA b,fun b z=>absurd z (noA b),e0.uE,e0.HR⟩,
  rfl,e0.bare,Un.kept hk,⟨_,x.toInCall.ns,fun i y v h1 h2 h3=>?_⟩,fun y c h=>⟨_,x.cell y c h⟩,e0.dz.fresh (Nat.le_refl _),fun y c h=>?_,fun p hp=>absurd (show p∈([]:List (Addr×Obj)) from hp) (by simp),e0.dz.kept hk,?_⟩
 ·exact name_of_addr x.apart (PySem.mem_of_lookup h1) (PySem.mem_of_lookup h2)
 ·have hy:scope.names.lookup y=some .cell\/scope.names.lookup y=some .free:=hy
  rcases hy with hy|hy
  ·exact BB hy
  ·exact absurd rfl (S.JF _ (PySem.mem_of_lookup hy))
 ·exact Nat.le_of_lt (x.above y c (PySem.mem_of_lookup h))
 ·have hi:i<vs.length:=by
   unfold start at h2
   by_cases hi:i<vs.length
   ·exact hi
   ·rw[List.getElem?_append_right (by simpa using hi)] at h2
    rw[List.getElem?_replicate] at h2
    split at h2<;>cases h2
  have ha:vs[i]?=some v:=by
   unfold start at h2
   rw[List.getElem?_append_left (by simpa using hi),List.getElem?_map] at h2
   cases e:vs[i]? with
   | none=>rw[e] at h2;cases h2
   | some a=>rw[e] at h2;cases h2;rfl
  obtain⟨u,hu,rv⟩:=r.get ha
  have hp:ps[i]?=some y:=by
   rw[<-S.pre,List.getElem?_take_of_lt (by omega)];exact h1
  have ndP:ps.Nodup:=by rw[<-S.pre];exact S.nd.sublist (List.take_sublist _ _)
  refine⟨u,rv,?_⟩
  rcases S.par y (List.mem_of_getElem? hp) with k|k
  ·exact .inl ⟨k,zt ndP hp hu k⟩
  ·obtain⟨c,e⟩:=BB (n:=s.heap.objs.size+1) k
   refine .inr ⟨.inl k,c,e,?_⟩
   have q:=x.cell y c e
   rw[zw ndP hp hu (by show scope.names.lookup y≠_;rw[k];decide)] at q
   exact q
 ·exact e0.dz.fresh (Nat.le_of_lt (x.above y c (PySem.mem_of_lookup h)))
 ·unfold start
  show _=N.length
  rw[List.length_append,List.length_map,List.length_replicate]
  omega
theorem ID {CX:B9} {P:Program} {w:World} {K:PySem.W.Frag} {mg:Str->Option Value} {base:Heap} {k:Nat} {f:Addr} {name qual:Str} {params:Arguments} {body:List Stmt} {scope:Scope} {dV kV doc pm cdv ct oc:Value} {an od:Option Addr}
  {osl:Array (Option Value)} {N ps:List Str} {sp:Sp} (lk:K.lookup f=some ⟨oc,od,.func (PySem.W.fnOf name qual params body scope dV kV doc pm an cdv ct),osl⟩) (hcd:PySem.W.codeIn K cdv qual=true) (S:aD N ps scope)
  (len:∀vs H Q E,sp vs H Q E->vs.length=ps.length)
  (hbody:∀(A:Around) (outer:List Env) (s:Shared) (H:Hp) (vs:List V) (Q:VK) (E:XK),iJ k (A.deeper (envOfC qual scope s.heap.objs.size f cdv))->sp vs H Q E ->
   ∃t,Ce (C1 CX P w K mg base N qual scope f cdv A outer s H E) body t/\t {nx:=fun _ H'=>Q .bo H',rt:=Q} (start N vs) H) :
  aS P w K mg base CX (k+1) f (PySem.W.fnOf name qual params body scope dV kV doc pm an cdv ct) ps sp:=by
 refine⟨len,fun A outer s H args us vs Q E hr e0 hb r hsp=>?_⟩
 have hl:=len _ _ _ _ hsp
 have KX:K.In s.heap:=e0.mod.kin.keeps fun b o e=>(e0.bs b o e).1
 have lim:s.heap.NoLimit:=e0.mod.nolimit.keeps fun b o e=>(e0.bs b o e).1
 have hkind:∀y∈ps.zip us,scope.names.lookup y.1=some .local\/(scope.names.lookup y.1=some .cell/\((cellsFrom (s.heap.objs.size+1) scope.names []).lookup y.1).isSome=true):=fun⟨n,v⟩ hy=>by
  rcases S.par n (List.of_mem_zip hy).1 with q|q
  ·exact .inl q
  ·exact .inr ⟨q,PySem.W.cellsFrom_some _ _ _ (.inl q)⟩
 refine codeAny_call_function hr.depth (KX _ _ lk) rfl S.co S.gen rfl (PySem.W.codeRec_of KX hcd) (hb _ _ _ _ ?_)
 refine wpAny_newFunctionEnv_cells S.kind hkind fun env he s1 x=>?_
 subst he
 refine⟨lim.keeps x.toInCall.keep,codeAny_func ?_⟩
 obtain⟨t,ht,hq⟩:=hbody A outer s H vs Q E (hr.deeper _) hsp
 have I:Inv (C1 CX P w K mg base N qual scope f cdv A outer s H E) [] (start N vs) H s1:=E1 S hr.hd e0 hl r x
 refine wpAny_mono (ht [] s1 (start N vs) H _ I hq) (fun fl s' hs=>?_) fun e s' hs=>hs
 have fin:∀{σ':St} {H':Hp} {v:V} {u:Value},Inv (C1 CX P w K mg base N qual scope f cdv A outer s H E) [] σ' H' s'->RelV v u->Q v H'->CE outer P w H s Q u s' :=
  fun {σ' H' v u} J rv q=>⟨v,H',J.os,J.bare,J.base,J.dz,rv,q⟩
 cases fl with
 | ret u =>
  obtain⟨v,σ',H',J,rv,q⟩:=hs
  exact fin J rv q
 | next =>
  obtain⟨σ',H',J,q⟩:=hs
  exact fin (v:=V.bo) (u:=Value.none) J rfl q
 | brk =>
  obtain⟨_,_,_,q⟩:=hs
  exact False.elim q
 | cont =>
  obtain⟨_,_,_,q⟩:=hs
  exact False.elim q
end L2
namespace L2
open PySem PySem.Spec PyProof.Rows
section
variable {X:Cx} {x:Str} {p pos:Pos} {e:Expr} {es:List Expr} {t:TA} {id T:String} {r:List V->Hp->VK->Prop}
def tCB (r:List V->Hp->VK->Prop) (t:TA):TE:=fun σ H Q=>t σ H fun vs H1=>r vs H1 Q
theorem a9 (hc:zN X (.builtin id) r) (hg:Gl X x) (hm:X.mg x=none) (hv:bootBuiltins x=some (.builtin id)) (ha:PA X (e::es) t) (hn:x ≠ "__name__" := by decide) (hdb:(x==("__debug__" : Str))=false:=by decide)
  (he:starEach (e::es) X.env=(false,eval e X.env)::starEach es X.env:=by rfl) (hpl:(backTo pos (starEach es X.env)).any (·.1)=false:=by rfl):PE X (.Call (.Name x p) (e::es) [] pos) (tCB r t):=by
 intro pins s σ H Q I h
 refine wpAny_Call_Name_kw (xK I hg hm hv ?_ hn hdb)
 exact PyProof.Rows.callWith_builtin1 (eS (ha pos pins s σ H _ I h) fun us s1 ⟨vs,H1,I1,r1,q1⟩=>hc pins s1 σ H1 vs us Q I1 r1 q1) he hpl
theorem fk (hc:zN X (.type T) r) (hg:Gl X x) (hm:X.mg x=none) (hv:bootBuiltins x=some (.type T)) (ha:PA X (e::es) t) (hn:x ≠ "__name__" := by decide) (hdb:(x==("__debug__" : Str))=false:=by decide)
  (he:starEach (e::es) X.env=(false,eval e X.env)::starEach es X.env:=by rfl) (hpl:(backTo pos (starEach es X.env)).any (·.1)=false:=by rfl):PE X (.Call (.Name x p) (e::es) [] pos) (tCB r t):=by
 intro pins s σ H Q I h
 refine wpAny_Call_Name_kw (xK I hg hm hv ?_ hn hdb)
 exact PyProof.Rows.callWith_type1 (eS (ha pos pins s σ H _ I h) fun us s1 ⟨vs,H1,I1,r1,q1⟩=>hc pins s1 σ H1 vs us Q I1 r1 q1) he hpl
end
end L2
namespace HT
open PySem PyProof.Rows
section
open PySem.SeqAt
open PySem.AutoSeq1 (wpAny_loadPart')
open PySem.MeetsSeq PySem.MeetsSeq2 PySem.MeetsSeq3
end
section
variable {prog:Program} {w:World} {A:Around} {E:Value->Shared->Prop} {s:Shared}
theorem HZ {t b:Addr} {vs ws:List Value} {Q:Value->Shared->Prop} (ht:IsTup s.heap t vs.toArray) (hb:IsTup s.heap b ws.toArray) (hv:vs≠[])
  (h1:ws=[]->Q (.ref t) s) (h2:ws≠[]->Q (.ref s.heap.objs.size) {s with heap:=s.heap.push {cls:=.type "tuple",data:=.seq (vs++ws).toArray}})
  (hsz:vs.length+ws.length<=sizeLine):wpAny (model prog w) A (binaryOp .Add (.ref t) (.ref b)) Q E s:=by
 obtain⟨⟨cls,dd,data,sl⟩,ho,hc,n,hd⟩:=id ht
 obtain⟨⟨cls2,dd2,data2,sl2⟩,ho2,hc2,n2,hd2⟩:=id hb
 simp only at hc hd hc2 hd2
 subst hc hd hc2 hd2
 have e:vs.toArray++ws.toArray=(vs++ws).toArray:=by simp
 by_cases hw:ws=[]
 ·exact concat_meets ⟨_,ho,rfl⟩ ⟨_,ho2,rfl⟩ noFill_tuple_add seq_tuple_add PySem.F.slot_tuple_add PySem.F.entry_tuple_add (PySem.F.args_tuple_add_2 _ _)
   (tuple_addW1 t b vs.toArray ws.toArray n n2 dd dd2 sl sl2 (by simpa using hv) (by simp[hw])) ⟨ho,ho2,h1 hw⟩
 ·refine concat_meets ⟨_,ho,rfl⟩ ⟨_,ho2,rfl⟩ noFill_tuple_add seq_tuple_add PySem.F.slot_tuple_add PySem.F.entry_tuple_add (PySem.F.args_tuple_add_2 _ _)
   (tuple_addW2 t b vs.toArray ws.toArray n n2 dd dd2 sl sl2 (by simpa using hv) (by simpa using hw) (by rw[List.size_toArray,List.size_toArray];exact hsz)) ⟨ho,ho2,?_⟩
  rw[e]
  exact h2 hw
def AL (n d:Nat):Option Int->Nat
 | none=>d
 | some v=>if v<0 then (v+(n:Int)).toNat else min v.toNat n
end
end HT
namespace L2
open PySem PySem.Spec PyProof.Rows
abbrev TO:=St->Hp->(Option Int->Hp->Prop)->Prop
def PO (X:Cx) (e:Option Expr) (t:TO):Prop :=
 ∀(pins:List (Addr×Obj)) (s:Shared) (σ:St) (H:Hp) (Q:Option Int->Hp->Prop),Inv X pins σ H s->t σ H Q ->
  wpAny (model X.prog X.w) X.A (evalPart e X.env) (fun u s'=>∃o H',Inv X pins σ H' s'/\IsPart u o/\Q o H') X.xe s
def GZ:TO:=fun _ H Q=>Q none H
def tPart (t:TE):TO:=fun σ H Q=>t σ H fun x H1=>∃i,x=.int i/\Q (some i) H1
section
variable {X:Cx} {e:Expr} {te:TE} {lo hi:Option Expr} {tl th:TO} {pos p2:Pos}
theorem Hx:PO X none GZ:=by
 intro pins s σ H Q I h
 rw[evalPart_none]
 exact wpAny_pure ⟨none,H,I,.none,h⟩
theorem z4 (h:PE X e te):PO X (some e) (tPart te):=by
 intro pins s σ H Q I hw
 rw[evalPart_some]
 refine eS (h pins s σ H _ I hw) fun u s1 ⟨x,H1,I1,r1,q1⟩=>?_
 obtain⟨i,rfl,q⟩:=q1
 obtain⟨t,rfl⟩:=r1
 exact⟨some i,H1,I1,.int i t,q⟩
def SlR (X:Cx) (r:V->Option Int->Option Int->Hp->VK->Prop):Prop :=
 ∀(pins:List (Addr×Obj)) (s:Shared) (σ:St) (H:Hp) (x:V) (v vl vu:Value) (lo hi:Option Int) (sl:Addr) (Q:VK),Inv X pins σ H s->RelV x v->s.heap.IsSliceOf sl vl vu .none->IsPart vl lo->IsPart vu hi->r x lo hi H Q ->
  ∃T id,typeLookup (.type T) "__getitem__" = pure (some (.builtin id))/\s.TypeIs v T/\wpAny (model X.prog X.w) X.A (getItem v (.ref sl)) (EP X pins σ Q) X.xe s
def tSl (r:V->Option Int->Option Int->Hp->VK->Prop) (te:TE) (tl th:TO):TE:=fun σ H Q=>te σ H fun x H1=>tl σ H1 fun l H2=>th σ H2 fun u H3=>r x l u H3 Q
theorem A2 {r:V->Option Int->Option Int->Hp->VK->Prop} (hr:SlR X r) (he:PE X e te) (hl:PO X lo tl) (hu:PO X hi th):PE X (.Subscript e (.Slice lo hi none p2) pos) (tSl r te tl th):=by
 intro pins s σ H Q I h
 refine Subscript_ (eS (he pins s σ H _ I h) fun v s1 ⟨x,H1,I1,r1,q1⟩=>?_)
 refine wpAny_Slice (eS (hl pins s1 σ H1 _ I1 q1) fun vl s2 ⟨l,H2,I2,pl,q2⟩=>eS (hu pins s2 σ H2 _ I2 q2) fun vu s3 ⟨u,H3,I3,pu,q3⟩=>?_)
 rw[evalPart_none]
 refine wpAny_pure ?_
 have I4:Inv X pins σ H3 {s3 with heap:=s3.heap.push {cls:=.type "slice",data:=.fields #[vl,vu,.none]}}:=I3.kept (t':=s3.toks) fun b ob q=>Heap.get?_push_of_some _ q
 obtain⟨T,id,hT,ht,hg⟩:=hr pins {s3 with heap:=s3.heap.push {cls:=.type "slice",data:=.fields #[vl,vu,.none]}} σ H3 x v vl vu l u s3.heap.objs.size Q I4 r1 (Heap.IsSliceOf.new ..) pl pu q3
 show wpAny (model X.prog X.w) X.A (subscriptTail e (.Slice lo hi none p2) v (.ref s3.heap.objs.size)) (EP X pins σ Q) X.xe {s3 with heap:=s3.heap.push {cls:=.type "slice",data:=.fields #[vl,vu,.none]}}
 exact tail_any (ops:=[.ref s3.heap.objs.size,v]) ht hT hg (by with_unfolding_all rfl)
def yQ (xs:List V) (lo hi:Option Int):List V:=(xs.drop (HT.AL xs.length 0 lo)).take (HT.AL xs.length xs.length hi-HT.AL xs.length 0 lo)
theorem BA (xs:List V) (lo hi:Option Int):(yQ xs lo hi).length<=xs.length:=by
 unfold yQ
 rw[List.length_take,List.length_drop]
 omega
def Ip (K:PySem.W.Frag):R2:=fun x y H Q=>∃a b xs ys,x=.ref a/\y=.ref b/\dM K H a xs/\dM K H b ys/\xs≠[]/\xs.length+ys.length<=sizeLine /\
 (ys=[]->Q (.ref a) H)/\(ys≠[]->∀p,H p=none->Q (.ref p) (upd H p (.tup (xs++ys))))
theorem Vals.wQ {xs:List V} {us:List Value} (r:Vals xs us):us=[]↔xs=[]:=by
 cases r with
 | nil=>simp
 | cons _ _=>simp
theorem wN:De X (binaryOp .Add) (Ip X.K):=by
 intro pins s σ H x y v u Q I rx ry h
 obtain⟨a,b,xs,ys,rfl,rfl,ha,hb,hx,hz,q1,q2⟩:=h
 cases rx
 cases ry
 obtain⟨its,r1,p1,_⟩:=I.tuple ha
 obtain⟨its2,r2,p2,_⟩:=I.tuple hb
 refine HT.HZ p1 p2 (fun z=>hx (r1.wQ.mp z)) (fun z=>⟨.ref a,H,I,rfl,q1 (r2.wQ.mp z)⟩) (fun z=>?_) (by rw[<-r1.length,<-r2.length];exact hz)
 refine⟨.ref s.heap.objs.size,_,I.laid (t':=s.toks) (o:=.tup (xs++ys)) (fun b ob q=>Heap.get?_push_of_some _ q) (Nat.le_refl _) ?_,rfl,q2 (fun w=>z (r2.wQ.mpr w)) _ (I.dz.fresh (Nat.le_refl _))⟩
 exact⟨by rw[List.length_append];exact hz,_,r1.append r2,IsTup.new _ _⟩
end
end L2
namespace L2
open PySem PySem.Spec PyProof.Rows
def IA (n:Nat) (i:Int):Option Nat:=if 0<=i then (if i<n then some i.toNat else none) else if -(n:Int)<=i then some (i+n).toNat else none
def Cd {α:Type} (xs:List α) (i:Int):Option α:=(IA xs.length i).bind fun j=>xs[j]?
theorem DG {n:Nat} {i:Int} {j:Nat} (h:IA n i=some j):seqIndex? i n=some j/\j<n /\ -(n:Int)<=i/\i<n:=by
 unfold IA at h
 by_cases h0:0<=i
 ·rw[if_pos h0] at h
  by_cases h1:i<n
  ·rw[if_pos h1] at h
   have e:i.toNat=j:=Option.some.inj h
   exact⟨by rw[seqIndex_of h0 h1,e],by omega,by omega,h1⟩
  ·rw[if_neg h1] at h;cases h
 ·rw[if_neg h0] at h
  by_cases h1 : -(n:Int)<=i
  ·rw[if_pos h1] at h
   have e:(i+n).toNat=j:=Option.some.inj h
   exact⟨by rw[seqIndex_neg (by omega) h1,e],by omega,h1,by omega⟩
  ·rw[if_neg h1] at h;cases h
theorem DU {α:Type} {xs:List α} {i:Int} {v:α} (h:Cd xs i=some v):∃j,seqIndex? i xs.length=some j/\xs[j]?=some v/\j<xs.length /\ -(xs.length:Int)<=i/\i<xs.length:=by
 unfold Cd at h
 cases e:IA xs.length i with
 | none=>rw[e] at h;cases h
 | some j =>
  rw[e] at h
  obtain⟨h1,h2,h3,h4⟩:=DG e
  exact⟨j,h1,h,h2,h3,h4⟩
theorem Ib {α:Type} {xs:List α} {j:Nat} {v:α} (h:xs[j]?=some v):Cd xs (j:Int)=some v:=by
 have hj:j<xs.length:=(List.getElem?_eq_some_iff.mp h).1
 have e:IA xs.length (j:Int)=some j:=by
  unfold IA
  rw[if_pos (by omega),if_pos (by omega)];simp
 unfold Cd;rw[e];exact h
def Ie (b:Expr):Prop:=∀o i,subscripted b false o i=operate [o,i] (getItem o i)
def IxR (X:Cx) (r:R2):Prop :=
 ∀(value slice:Expr) (pins:List (Addr×Obj)) (s:Shared) (σ:St) (H:Hp) (x y:V) (v u:Value) (Q:VK),Inv X pins σ H s->RelV x v->RelV y u->r x y H Q ->
  subscripted slice false v u=operate [v,u] (getItem v u)->wpAny (model X.prog X.w) X.A (subscriptTail value slice v u) (EP X pins σ Q) X.xe s
def MtR (X:Cx) (id:String) (r:V->List V->Hp->VK->Prop):Prop :=
 ∀(pins:List (Addr×Obj)) (s:Shared) (σ:St) (H:Hp) (x:V) (xs:List V) (v:Value) (us:List Value) (Q:VK),Inv X pins σ H s->RelV x v->Vals xs us->r x xs H Q ->
  wpAny (model X.prog X.w) X.A (call (.builtin id) (v::us)) (EP X pins σ Q) X.xe s
section
variable {X:Cx} {a b:Expr} {ta tb:TE} {pos:Pos}
theorem aK {r:R2} (hr:IxR X r) (ha:PE X a ta) (hb:PE X b tb) (hs:Ie b):PE X (.Subscript a b pos) (tOp r ta tb):=by
 intro pins s σ H Q I h
 exact Subscript_ (JU ha hb I h fun v u s2 x y H2 I2 rx ry q=>hr a b pins s2 σ H2 x y v u Q I2 rx ry q (hs _ _))
inductive IxP (S:Addr->List V->Prop) (x y:V) (Q:V->Prop):Prop|mk (p:Addr) (xs:List V) (i:Int) (v:V):x=.ref p->y=.int i->S p xs->Cd xs i=some v->Q v->IxP S x y Q
def rIxL (K:PySem.W.Frag):R2:=fun x y H Q=>IxP (bM K H) x y fun v=>Q v H
def rIxT (K:PySem.W.Frag):R2:=fun x y H Q=>IxP (dM K H) x y fun v=>Q v H
theorem bI:IxR X (rIxL X.K):=by
 intro value slice pins s σ H x y v u Q I rx ry h hs
 obtain⟨p,xs,i,z,rfl,rfl,hq,he,q⟩:=h
 cases rx
 obtain⟨t,rfl⟩:=ry
 obtain⟨its,r,pl,hz⟩:=I.list hq
 obtain⟨j,h1,h2,h3,h4,h5⟩:=DU he
 obtain⟨w,ew,rw'⟩:=r.get h2
 have hl:=r.length
 have hn:=CO
 have fin:EP X pins σ Q w s:=⟨z,H,I,rw',q⟩
 by_cases h0:0<=i
 ·have hj:i.toNat=j:=by
   rw[seqIndex_of h0 h5] at h1
   exact Option.some.inj h1
  exact item_listR pl.isList h0 (by omega) (by rw[hj];simpa using ew) fin hs
 ·have hj:(i+(its.toArray.size:Int)).toNat=j:=by
   rw[seqIndex_neg (by omega) h4] at h1
   rw[List.size_toArray,<-hl]
   exact Option.some.inj h1
  exact subscriptTail_builtinR (x:=w) pl.isList.typeIs slot_list_getitem.lookup
   (wpAny_getItem_list_neg (Q:=fun r s'=>r=w/\EP X pins σ Q r s') pl.isList (by omega) (by rw[List.size_toArray]<;>omega) (by omega) (by rw[hj];simpa using ew) ⟨rfl,fin⟩) hs
theorem aH:IxR X (rIxT X.K):=by
 intro value slice pins s σ H x y v u Q I rx ry h hs
 obtain⟨p,xs,i,z,rfl,rfl,hq,he,q⟩:=h
 cases rx
 obtain⟨t,rfl⟩:=ry
 obtain⟨its,r,pl,hz⟩:=I.tuple hq
 obtain⟨j,h1,h2,h3,h4,h5⟩:=DU he
 obtain⟨w,ew,rw'⟩:=r.get h2
 have hl:=r.length
 have hn:=CO
 have fin:EP X pins σ Q w s:=⟨z,H,I,rw',q⟩
 exact subscriptTail_builtinR (x:=w) pl.typeIs slot_tuple_getitem.lookup
  (getItem_tuple (j:=j) (Q:=fun r s'=>r=w/\EP X pins σ Q r s') pl (by omega) (by omega) (by rw[List.size_toArray,<-hl];exact h1) (by simpa using ew) ⟨rfl,fin⟩) hs
theorem zR (lo hi:Option Int) (n:Nat):(sliceBounds lo hi none n).1=((HT.AL n 0 lo:Nat):Int)/\(sliceBounds lo hi none n).2.1=((HT.AL n n hi:Nat):Int)/\(sliceBounds lo hi none n).2.2=1:=by
 refine⟨?_,?_,rfl⟩
 ·cases lo with
  | none=>simp[sliceBounds,HT.AL]
  | some i =>
   simp only[sliceBounds,HT.AL,Option.getD_none,show(1:Int)>0 by decide,if_true]
   by_cases h:i<0
   ·simp only[h,if_true]<;>omega
   ·simp only[h,if_false]<;>omega
 ·cases hi with
  | none=>simp[sliceBounds,HT.AL]
  | some i =>
   simp only[sliceBounds,HT.AL,Option.getD_none,show(1:Int)>0 by decide,if_true]
   by_cases h:i<0
   ·simp only[h,if_true]<;>omega
   ·simp only[h,if_false]<;>omega
theorem yD (its:List Value) (lo hi:Option Int):slicePick its.toArray lo hi none=((its.drop (HT.AL its.length 0 lo)).take (HT.AL its.length its.length hi-HT.AL its.length 0 lo)).toArray:=by
 obtain⟨h1,h2,h3⟩:=zR lo hi its.toArray.size
 unfold slicePick
 rw[h1,h2,h3]
 simp only[sliceRange_one,pick_run,List.size_toArray]<;>rfl
def rSlL (K:PySem.W.Frag):V->Option Int->Option Int->Hp->VK->Prop:=fun x lo hi H Q=>∃a xs,x=.ref a/\bM K H a xs/\∀p,H p=none->Q (.ref p) (upd H p (.lst (yQ xs lo hi)))
theorem Dq:SlR X (rSlL X.K):=by
 intro pins s σ H x v vl vu lo hi sl Q I rx hs pl pu h
 obtain⟨a,xs,rfl,hx,q⟩:=h
 cases rx
 obtain⟨its,r,ht,hz⟩:=I.list hx
 have hlen:=r.length
 refine⟨"list",_,slot_list_getitem.lookup,ht.isList.typeIs,?_⟩
 refine wpAny_getItem_list_slice ht.isList hs pl pu .none (by simp) ?_ (by rw[List.size_toArray]<;>omega)
 rw[yD,<-hlen]
 refine⟨.ref s.heap.objs.size,_,I.laid (t':=s.toks) (o:=.lst (yQ xs lo hi)) (fun b ob q=>Heap.get?_push_of_some _ q) (Nat.le_refl _) ?_,rfl,q _ (I.dz.fresh (Nat.le_refl _))⟩
 exact⟨Nat.le_trans (BA xs lo hi) hz,_,0,(r.drop (HT.AL xs.length 0 lo)).take (HT.AL xs.length xs.length hi-HT.AL xs.length 0 lo),Heap.get?_push_size _ rfl⟩
inductive LenP (K:PySem.W.Frag) (xs:List V) (H:Hp) (Q:V->Prop):Prop|mk (p:Addr) (ys:List V):xs=[.ref p]->(bM K H p ys\/dM K H p ys)->Q (.int ys.length)->LenP K xs H Q
theorem aM:zN X (.builtin "len") (fun xs H Q=>LenP X.K xs H fun v=>Q v H):=by
 intro pins s σ H xs us Q I r h
 obtain⟨p,ys,rfl,hq,q⟩:=h
 obtain⟨u,rfl,rx⟩:=vals1 r
 cases rx
 have hn:=CO
 rcases hq with hq|hq
 ·obtain⟨its,r',pl,hz⟩:=I.list hq
  have hlen:=r'.length
  exact Calls.call_len_list pl.isList (by simp only[List.size_toArray]<;>omega) ⟨.int ys.length,H,I.tok _,⟨s.toks+1,by rw[List.size_toArray,hlen]⟩,q⟩
 ·obtain⟨its,r',pl,hz⟩:=I.tuple hq
  have hlen:=r'.length
  exact len_tuple pl (by simp only[List.size_toArray]<;>omega) ⟨.int ys.length,H,I.tok _,⟨s.toks+1,by rw[List.size_toArray,hlen]⟩,q⟩
theorem ff:zN X (.type "list") (fun xs H Q=>∃p ys,xs=[.ref p]/\(bM X.K H p ys\/dM X.K H p ys)/\∀l,H l=none->Q (.ref l) (upd H l (.lst ys))):=by
 intro pins s σ H xs us Q I r h
 obtain⟨p,ys,rfl,hq,q⟩:=h
 obtain⟨u,rfl,rx⟩:=vals1 r
 cases rx
 have fin:∀(its:List Value),Vals ys its->ys.length<=sizeLine->∀(h':Heap) (c':Nat),(∀b o',s.heap.get? b=some o'->h'.get? b=some o') ->
   h'.get? s.heap.objs.size=some {cls:=.type "list",dict:=none,data:=.seq its.toArray c',slots:=#[]}->EP X pins σ Q (.ref s.heap.objs.size) {s with heap:=h'}:=fun its r' hz h' c' kp e =>
  ⟨.ref s.heap.objs.size,_,I.laid (t':=s.toks) kp (Nat.le_refl _) (show eU X.prog X.w _ h' _ (.lst ys) from ⟨hz,its,c',r',e⟩),rfl,q _ (I.dz.fresh (Nat.le_refl _))⟩
 rcases hq with hq|hq
 ·obtain⟨its,r',pl,hz⟩:=I.list hq
  have hlen:=r'.length
  obtain⟨o,ho,hc,n,hd⟩:=pl.isList
  exact call_list_seq p (.inl rfl) ho hc hd (fun h' c' kp e=>fin its r' hz h' c' kp e) (by simp only[List.size_toArray]<;>omega)
 ·obtain⟨its,r',pl,hz⟩:=I.tuple hq
  have hlen:=r'.length
  obtain⟨o,ho,hc,n,hd⟩:=pl
  exact call_list_seq p (.inr rfl) ho hc hd (fun h' c' kp e=>fin its r' hz h' c' kp e) (by simp only[List.size_toArray]<;>omega)
theorem nG:zN X (.type "tuple") (fun xs H Q=>∃p ys,xs=[.ref p]/\((bM X.K H p ys/\∀l,H l=none->Q (.ref l) (upd H l (.tup ys)))\/(dM X.K H p ys/\Q (.ref p) H))):=by
 intro pins s σ H xs us Q I r h
 obtain⟨p,ys,rfl,h⟩:=h
 obtain⟨u,rfl,rx⟩:=vals1 r
 cases rx
 rcases h with⟨hq,q⟩|⟨hq,q⟩
 ·obtain⟨its,r',pl,hz⟩:=I.list hq
  have hlen:=r'.length
  refine call_tuple_list pl.isList (fun h' kp=>?_) (by simp only[List.size_toArray]<;>omega)
  have I1:Inv X pins σ H {s with heap:=h'}:=I.kept (t':=s.toks) kp
  have I2:Inv X pins σ (upd H h'.objs.size (.tup ys)) {s with heap:=h'.push {cls:=.type "tuple",data:=.seq its.toArray}} :=
   I1.laid (t':=s.toks) (fun b o e=>Heap.get?_push_of_some _ e) (Nat.le_refl _) (show eU X.prog X.w _ _ _ (.tup ys) from ⟨hz,its,r',IsTup.new _ _⟩)
  exact⟨.ref h'.objs.size,_,I2,rfl,q _ (I1.dz.fresh (Nat.le_refl _))⟩
 ·obtain⟨its,r',pl,hz⟩:=I.tuple hq
  exact call_tuple_same pl ⟨.ref p,H,I,rfl,q⟩
def tyV (K:PySem.W.Frag) (T:String) (x:V) (H:Hp):Prop:=match x with
 | .str _=>T = "str"
 | .int _=>T = "int"
 | .ref p=>(T = "list" /\ ∃xs,bM K H p xs)\/(T = "tuple" /\ ∃o,K.lookup p=some o/\o.cls=.type "tuple" /\ o.dict=none) \/
   (T = "dict" /\ ((∃kvs,H p=some (.dK kvs))\/∃kvs,H p=some (.dT kvs)))\/(T = "set" /\ ∃S n,H p=some (.set S n))
 | _=>False
theorem Fn {pins:List (Addr×Obj)} {σ:St} {H:Hp} {s:Shared} {T:String} {x:V} {v:Value} (I:Inv X pins σ H s) (r:RelV x v) (ty:tyV X.K T x H) :
  s.TypeIs v T/\∀a,v=.ref a->∃ob,s.heap.get? a=some ob/\ob.dict=none:=by
 cases x with
 | str z =>
  obtain⟨t,rfl⟩:=r
  cases (show T = "str" from ty)
  exact⟨typeIs_str s z t,fun _ e=>nomatch e⟩
 | int i =>
  obtain⟨t,rfl⟩:=r
  cases (show T = "int" from ty)
  exact⟨typeIs_int s i t,fun _ e=>nomatch e⟩
 | ref p =>
  cases r
  rcases ty with⟨rfl,xs,hq⟩|⟨rfl,o,hk,hc,hd⟩|⟨rfl,hk⟩|⟨rfl,S,n,hk⟩
  ·obtain⟨its,_,pl,_⟩:=I.list hq
   refine⟨pl.isList.typeIs,fun a e=>?_⟩
   cases e
   obtain⟨o,n,e,c,hd,_⟩:=pl
   exact⟨o,e,hd⟩
  ·refine⟨⟨o,I.y9 p o hk,hc⟩,fun a e=>?_⟩
   cases e
   exact⟨o,I.y9 _ o hk,hd⟩
  ·have z:∃o,s.heap.get? p=some o/\o.ExactDict:=by
    rcases hk with⟨kvs,hk⟩|⟨kvs,hk⟩
    ·obtain⟨_,_,_,_,o,_,_,e,ex,_⟩:=I.dz p _ hk
     exact⟨o,e,ex⟩
    ·obtain⟨_,_,_,_,o,_,_,e,ex,_⟩:=I.dz p _ hk
     exact⟨o,e,ex⟩
   obtain⟨o,e,ex⟩:=z
   refine⟨⟨o,e,ex.1⟩,fun a e2=>?_⟩
   cases e2
   exact⟨o,e,ex.2.1⟩
  ·obtain⟨o,_,_,_,e,ex,_⟩:=I.dz p _ hk
   refine⟨⟨o,e,ex.1⟩,fun a e2=>?_⟩
   cases e2
   exact⟨o,e,ex.2.1⟩
 | _=>exact False.elim ty
def tBM0 (K:PySem.W.Frag) (T:String) (r:V->List V->Hp->VK->Prop) (to:TE):TE:=fun σ H Q=>to σ H fun x H1=>tyV K T x H1/\r x [] H1 Q
def tBM (K:PySem.W.Frag) (T:String) (r:V->List V->Hp->VK->Prop) (to:TE) (t:TA):TE:=fun σ H Q=>to σ H fun x H1=>tyV K T x H1/\t σ H1 fun xs H2=>r x xs H2 Q
variable {o e:Expr} {es:List Expr} {to:TE} {t:TA} {name:Str} {apos cpos:Pos} {T id:String} {r:V->List V->Hp->VK->Prop}
theorem z7 (pa:PlainAttrs T) (slot:Slot T name id) (hty:typeOf (.builtin id)=pure (.type "method_descriptor")) (hm:MtR X id r) (ho:PE X o to)
  (hbase:attributeBase o name X.env (eval o X.env)=eval o X.env:=by rfl) (hline:(apos.endLine==cpos.line)=true:=by rfl):PE X (.Call (.Attribute o name apos) [] [] cpos) (tBM0 X.K T r to):=by
 intro pins s σ H Q I h
 refine wpAny_Call_method0_late hbase hline (eS (ho pins s σ H _ I h) fun v s1 ⟨x,H1,I1,r1,ty,q1⟩=>?_)
 obtain⟨h1,h2⟩:=Fn I1 r1 ty
 exact⟨T,id,pa,slot,hty,h1,h2,Calls.callWith_builtin rfl (PySem.evalArgs_none (hm pins s1 σ H1 x [] v [] Q I1 r1 .nil q1))⟩
theorem dO (pa:PlainAttrs T) (slot:Slot T name id) (hty:typeOf (.builtin id)=pure (.type "method_descriptor")) (hm:MtR X id r) (ho:PE X o to) (ha:PA X (e::es) t)
  (hbase:attributeBase o name X.env (eval o X.env)=eval o X.env:=by rfl)
  (hfew:((backTo cpos (starEach (e::es) X.env)).all (fun x=>!x.1)&&(backToKw cpos (keywordEach [] X.env)).all (fun x=>x.1.isSome)
   && decide ((e::es).length+([]:List Keyword).length+(if ([]:List Keyword).isEmpty then 0 else 1)<30))=true:=by rfl)
  (hline:(apos.endLine==cpos.line)=true:=by rfl) (hs:starEach (e::es) X.env=(false,eval e X.env)::starEach es X.env:=by rfl) (hplain:(backTo cpos (starEach es X.env)).any (·.1)=false:=by rfl) :
  PE X (.Call (.Attribute o name apos) (e::es) [] cpos) (tBM X.K T r to t):=by
 intro pins s σ H Q I h
 refine wpAny_Call_method_late hbase hfew hline rfl (eS (ho pins s σ H _ I h) fun v s1 ⟨x,H1,I1,r1,ty,q1⟩=>?_)
 obtain⟨h1,h2⟩:=Fn I1 r1 ty
 refine⟨T,id,pa,slot,hty,h1,h2,?_⟩
 have hA:=ha cpos pins s1 σ H1 _ I1 q1
 rw[hs] at hA ⊢
 refine Calls.callWith_builtin (by show(false||(backTo cpos (starEach es X.env)).any (·.1))=false;rw[hplain]<;>rfl) (Calls.evalArgs_plain ?_)
 exact eS hA fun us s2 ⟨vs,H2,I2,r2,q2⟩=>hm pins s2 σ H2 x vs v us Q I2 r1 r2 q2
end
end L2
namespace L2
open PySem PySem.Spec PyProof.Rows
def MtM (X:Cx) (id:String) (r:V->List V->Hp->VK->Prop):Prop :=
 ∀(pins:List (Addr×Obj)) (s:Shared) (σ:St) (H:Hp) (x:V) (xs:List V) (v:Value) (us:List Value) (Q:VK),Inv X pins σ H s->RelV x v->Vals xs us->r x xs H Q ->
  wpAny (model X.prog X.w) X.A (call (.builtin id) (v::us)) (EP X pins σ Q) X.xe s
theorem Vals.one:∀{x:V} {us:List Value},Vals [x] us->∃u,us=[u]/\RelV x u
 | _,_,.cons r .nil=>⟨_,rfl,r⟩
theorem Vals.zero:∀{us:List Value},Vals [] us->us=[]
 | _,.nil=>rfl
theorem Vals.dropLast {xs:List V} {us:List Value} (h:Vals xs us):Vals xs.dropLast us.dropLast:=by
 induction h with
 | nil=>exact .nil
 | cons r t ih =>
  cases t with
  | nil=>exact .nil
  | cons q t'=>exact .cons r ih
theorem Vals.eraseIdx:∀{xs:List V} {us:List Value} (i:Nat),Vals xs us->Vals (xs.eraseIdx i) (us.eraseIdx i)
 | _,_,_,.nil=>.nil
 | _,_,0,.cons _ t=>t
 | _,_,i+1,.cons r t=>.cons r (Vals.eraseIdx i t)
theorem CY {α:Type} (l:List α):l.eraseIdx (l.length-1)=l.dropLast:=by
 induction l with
 | nil=>rfl
 | cons a r ih =>
  cases r with
  | nil=>rfl
  | cons b r =>
   have e:(a::b::r).length-1=((b::r).length-1)+1:=by
    have h1:(a::b::r).length=r.length+2:=rfl
    have h2:(b::r).length=r.length+1:=rfl
    omega
   rw[e,List.eraseIdx_cons_succ,ih]
   all_goals rfl
theorem y6 {α:Type}:∀(l:List α) (i:Nat),(l.eraseIdx i).length<=l.length
 | [],_=>Nat.le_refl _
 | _::_,0=>Nat.le_succ _
 | _::r,i+1=>Nat.succ_le_succ (y6 r i)
section
variable {X:Cx} {pins:List (Addr×Obj)} {σ:St} {H:Hp} {s:Shared} {l b:Addr} {xs ys zs:List V}
theorem Inv.HJ {its its':List Value} {n:Nat} {f:Array Value->Array Value} {t':Nat} (I:Inv X pins σ H s) (hH:H l=some (.lst xs))
  (e:s.heap.get? l=some {cls:=.type "list",data:=.seq its.toArray n}) (hf:f its.toArray=its'.toArray) (hv:Vals ys its') (hz:ys.length<=sizeLine) :
  Inv X pins σ (upd H l (.lst ys)) {s with heap:=s.heap.update l (Obj.mapSeq f),toks:=t'}:=by
 have q:=PySem.IsL.update e f
 rw[hf] at q
 refine I.write (x:=l) (e:=l) (by rw[hH];exact trivial) (.inl rfl) (fun b' u hb hu=>(Heap.get?_update_other s.heap (Obj.mapSeq f) (Ne.symm hb)).trans hu) ⟨_,q⟩ ?_
 exact⟨hz,its',_,hv,q⟩
theorem Inv.lnew {its:List Value} {t':Nat} (I:Inv X pins σ H s) (hv:Vals ys its) (hz:ys.length<=sizeLine) :
  Inv X pins σ (upd H s.heap.objs.size (.lst ys)) {s with heap:=s.heap.push {cls:=.type "list",data:=.seq its.toArray},toks:=t'} :=
 I.laid (fun _ _ q=>Heap.get?_push_of_some _ q) (Nat.le_refl _) ⟨hz,its,0,hv,Heap.get?_push_size _ rfl⟩
theorem Inv.fresh (I:Inv X pins σ H s):H s.heap.objs.size=none:=I.dz.fresh (Nat.le_refl _)
theorem Inv.CM (I:Inv X pins σ H s) (hH:H l=some (.lst xs)):xs.length<=sizeLine/\∃(its:List Value) (n:Nat),Vals xs its/\xs.length=its.length/\s.heap.get? l=some {cls:=.type "list",data:=.seq its.toArray n}:=by
 obtain⟨z,its,n,r,e⟩:=I.dz l _ hH
 exact⟨z,its,n,r,r.length,e⟩
theorem F3 {n:Nat} (h:n<=sizeLine):Builtin.List.listTooLong n=false:=by
 unfold Builtin.List.listTooLong
 exact decide_eq_false (by omega)
end
section
variable {X:Cx}
inductive AppP (x:V) (vs:List V) (H:Hp) (Q:Hp->Prop):Prop|mk (l:Addr) (xs:List V) (y:V):x=.ref l->vs=[y]->H l=some (.lst xs)->xs.length<sizeLine->Q (upd H l (.lst (xs++[y])))->AppP x vs H Q
def Ht:V->List V->Hp->VK->Prop:=fun x vs H Q=>AppP x vs H (Q .bo)
theorem bJ:MtM X "list.append" Ht:=by
 intro pins s σ H x vs v us Q I rx rv h
 obtain⟨l,xs,y,rfl,rfl,hH,hz,q⟩:=h
 cases rx
 obtain⟨u,rfl,ru⟩:=rv.one
 obtain⟨z,its,n,r,hl,e⟩:=I.CM hH
 refine call_meets F.slot_list_append ⟨_,e,rfl⟩ F.entry_list_append (F.args_list_append_2 _ _) (PySem.list_append l its.toArray n u (by rw[List.size_toArray];omega)) ⟨e,?_⟩
 refine⟨.bo,_,I.HJ (its':=its++[u]) hH e (by simp) (r.append (.cons ru .nil)) ?_,rfl,q⟩
 rw[List.length_append,List.length_singleton]
 omega
inductive ExtP (x:V) (vs:List V) (H:Hp) (Q:Hp->Prop):Prop|mk (l b:Addr) (xs zs:List V):x=.ref l->vs=[.ref b]->H l=some (.lst xs)->H b=some (.lst zs)->xs.length+zs.length<=sizeLine->Q (upd H l (.lst (xs++zs)))->ExtP x vs H Q
def Hs:V->List V->Hp->VK->Prop:=fun x vs H Q=>ExtP x vs H (Q .bo)
theorem hR:MtM X "list.extend" Hs:=by
 intro pins s σ H x vs v us Q I rx rv h
 obtain⟨l,b,xs,zs,rfl,rfl,hH,hB,hz,q⟩:=h
 cases rx
 obtain⟨u,rfl,ru⟩:=rv.one
 cases ru
 obtain⟨z,its,n,r,hl,e⟩:=I.CM hH
 obtain⟨z2,its2,n2,r2,hl2,e2⟩:=I.CM hB
 have hsz:its.toArray.size+its2.toArray.size<=sizeLine:=by rw[List.size_toArray,List.size_toArray];omega
 have hlong:¬(!its.toArray.isEmpty&&Builtin.List.listTooLong (its.toArray.size+its2.toArray.size))=true:=by
  rw[F3 hsz,Bool.and_false]
  exact Bool.false_ne_true
 refine call_meets F.slot_list_extend ⟨_,e,rfl⟩ F.entry_list_extend (F.args_list_extend_2 _ _)
  (AutoSeq1.list_extend_list_list_0 l its.toArray n b its2.toArray n2 hlong (by rw[List.size_toArray];omega) (by omega)) ⟨e,e2,?_⟩
 refine⟨.bo,_,I.HJ (its':=its++its2) hH e (by simp) (r.append r2) ?_,rfl,q⟩
 rw[List.length_append]
 omega
def rPop:V->List V->Hp->VK->Prop:=fun x vs H Q=>∃l xs y,x=.ref l/\vs=[]/\H l=some (.lst xs)/\xs[xs.length-1]?=some y/\Q y (upd H l (.lst xs.dropLast))
theorem Ah:MtM X "list.pop" rPop:=by
 intro pins s σ H x vs v us Q I rx rv h
 obtain⟨l,xs,y,rfl,rfl,hH,hy,q⟩:=h
 cases rx
 have hus:=rv.zero
 subst hus
 obtain⟨z,its,n,r,hl,e⟩:=I.CM hH
 obtain⟨u,hu,ru⟩:=r.get hy
 have hy':its.toArray[its.toArray.size-1]?=some u:=by
  show its.toArray[its.length-1]?=some u
  rw[<-Array.getElem?_toList,<-hl]
  exact hu
 refine call_meets F.slot_list_pop ⟨_,e,rfl⟩ F.entry_list_pop (F.args_list_pop_1 _) (MeetsSeq.list_pop_last l its.toArray n u hy' (by rw[List.size_toArray];omega)) ⟨e,?_⟩
 refine⟨y,_,I.HJ (its':=its.dropLast) hH e ?_ r.dropLast ?_,ru,q⟩
 ·show its.toArray.eraseIdxIfInBounds (its.toArray.size-1)=its.dropLast.toArray
  rw[List.size_toArray,List.eraseIdxIfInBounds_toArray,CY]
 ·rw[List.length_dropLast]
  omega
def Jw:V->List V->Hp->VK->Prop:=fun x vs H Q=>∃l xs i k y,x=.ref l/\vs=[.int i]/\H l=some (.lst xs) /\ -(2 ^ 63)<=i/\i<2 ^ 63/\seqIndex? i xs.length=some k/\xs[k]?=some y/\Q y (upd H l (.lst (xs.eraseIdx k)))
theorem Bj:MtM X "list.pop" Jw:=by
 intro pins s σ H x vs v us Q I rx rv h
 obtain⟨l,xs,i,k,y,rfl,rfl,hH,h1,h2,hk,hy,q⟩:=h
 cases rx
 obtain⟨u,rfl,ru⟩:=rv.one
 obtain⟨t,rfl⟩:=ru
 obtain⟨z,its,n,r,hl,e⟩:=I.CM hH
 obtain⟨w,hw,rw'⟩:=r.get hy
 refine call_meets F.slot_list_pop ⟨_,e,rfl⟩ F.entry_list_pop (F.args_list_pop_2 _ _)
  (MeetsSeq.list_pop_at l its.toArray n i t k w (fitsIndex_both h1 h2) (by rw[List.size_toArray,<-hl];exact hk) (by rw[<-Array.getElem?_toList];exact hw) (by rw[List.size_toArray];omega)) ⟨e,?_⟩
 refine⟨y,_,I.HJ (its':=its.eraseIdx k) hH e ?_ (r.eraseIdx k) ?_,rw',q⟩
 ·show its.toArray.eraseIdxIfInBounds k=(its.eraseIdx k).toArray
  rw[List.eraseIdxIfInBounds_toArray]
 ·have:=y6 xs k
  omega
def rCat:R2:=fun x y H Q=>∃l b xs zs,x=.ref l/\y=.ref b/\H l=some (.lst xs)/\H b=some (.lst zs)/\xs.length+zs.length<=sizeLine/\∀p,H p=none->Q (.ref p) (upd H p (.lst (xs++zs)))
theorem z9:De X (binaryOp .Add) rCat:=by
 intro pins s σ H x y v u Q I rx ry h
 obtain⟨l,b,xs,zs,rfl,rfl,hH,hB,hz,q⟩:=h
 cases rx
 cases ry
 obtain⟨z,its,n,r,hl,e⟩:=I.CM hH
 obtain⟨z2,its2,n2,r2,hl2,e2⟩:=I.CM hB
 refine PySem.P.add_list e e2 ?_ (by rw[List.size_toArray,List.size_toArray];omega)
 have ea:its.toArray++its2.toArray=(its++its2).toArray:=by simp
 rw[ea]
 exact⟨.ref _,_,I.lnew (t':=s.toks) (r.append r2) (by rw[List.length_append];omega),rfl,q _ I.fresh⟩
end
section
variable {prog:Program} {w:World} {A:Around} {E:Value->Shared->Prop} {s:Shared}
set_option maxRecDepth 100000 in
end
section
variable {X:Cx}
end
end L2
namespace L2
open PySem PySem.Spec PyProof.Rows
section
variable {prog:Program} {w:World} {A:Around} {E:Value->Shared->Prop} {s:Shared} {l:Addr} {its:List Value} {ns:List Int} {Q:Value->Shared->Prop}
end
section
variable {X:Cx}
end
section
variable {X:Cx}
end
section
variable {X:Cx}
end
section
variable {X:Cx}
end
mutual
inductive Dp (K:PySem.W.Frag) (H:Hp):V->PyData->Prop
 | bo:Dp K H .bo .none
 | bl (b:Bool):Dp K H (.bl b) (.bool b)
 | int (i:Int):Dp K H (.int i) (.int i)
 | str (x:Str):Dp K H (.str x) (.str x)
 | lst {a:Addr} {xs:List V} {ds:List PyData}:bM K H a xs->zM K H xs ds->Dp K H (.ref a) (.list ds)
 | tup {a:Addr} {xs:List V} {ds:List PyData}:dM K H a xs->zM K H xs ds->Dp K H (.ref a) (.tuple ds)
inductive zM (K:PySem.W.Frag) (H:Hp):List V->List PyData->Prop
 | nil:zM K H [] []
 | cons {v:V} {vs:List V} {d:PyData} {ds:List PyData}:Dp K H v d->zM K H vs ds->zM K H (v::vs) (d::ds)
end
section
variable {X:Cx} {pins:List (Addr×Obj)} {σ:St} {H:Hp} {s:Shared}
mutual
theorem Dp.reads (I:Inv X pins σ H s):∀(d:PyData) (v:V) (u:Value),Dp X.K H v d->RelV v u->∃as,Reads s.heap u d as
 | .none,_,_,h,r=>by
  cases h
  cases r
  exact⟨_,Reads.none⟩
 | .bool b,_,_,h,r=>by
  cases h
  cases r
  exact⟨_,Reads.bool b⟩
 | .int i,_,_,h,r=>by
  cases h
  obtain⟨t,rfl⟩:=r
  exact⟨_,Reads.int i t⟩
 | .str x,_,_,h,r=>by
  cases h
  obtain⟨t,rfl⟩:=r
  exact⟨_,Reads.str x t⟩
 | .list ds,_,_,h,r=>by
  cases h with
  | lst hs ha =>
   cases r
   obtain⟨its,rv,⟨o,n,ho,hc,_,hd⟩,_⟩:=I.list hs
   obtain⟨as,hr⟩:=Dp.readsAll I ds _ its ha rv
   exact⟨_,Reads.list ho hc hd hr⟩
 | .tuple ds,_,_,h,r=>by
  cases h with
  | tup hs ha =>
   cases r
   obtain⟨its,rv,⟨o,ho,hc,n,hd⟩,_⟩:=I.tuple hs
   obtain⟨as,hr⟩:=Dp.readsAll I ds _ its ha rv
   exact⟨_,Reads.tuple ho hc hd hr⟩
 | .dict _,_,_,h,_=>by cases h
theorem Dp.readsAll (I:Inv X pins σ H s):∀(ds:List PyData) (vs:List V) (us:List Value),zM X.K H vs ds->Vals vs us->∃as,ReadsAll s.heap us ds as
 | [],_,_,h,r=>by
  cases h
  cases r
  exact⟨_,ReadsAll.nil⟩
 | d::ds,_,_,h,r=>by
  cases h with
  | cons h1 h2 =>
   cases r with
   | cons r1 r2 =>
    obtain⟨as,q1⟩:=Dp.reads I d _ _ h1 r1
    obtain⟨bs,q2⟩:=Dp.readsAll I ds _ _ h2 r2
    exact⟨_,ReadsAll.cons q1 q2⟩
end
end
section
variable {X:Cx}
def rEqD (K:PySem.W.Frag):R2:=fun x y H Q=>∃d e,Dp K H x d/\Dp K H y e/\SeqAt.shaped d=true/\SeqAt.shaped e=true/\Q (.bl (PyData.eqv d e)) H
def rNeD (K:PySem.W.Frag):R2:=fun x y H Q=>∃d e,Dp K H x d/\Dp K H y e/\SeqAt.shaped d=true/\SeqAt.shaped e=true/\Q (.bl (!PyData.eqv d e)) H
theorem FY (hu:X.A.units+64<cLine):De X (compareOp .Eq) (rEqD X.K):=by
 intro pins s σ H x y v u Q I rx ry h
 obtain⟨d,e,hd,he,sd,se,q⟩:=h
 obtain⟨as,r1⟩:=Dp.reads I d x v hd rx
 obtain⟨bs,r2⟩:=Dp.reads I e y u he ry
 exact SeqAt.compareEq_shaped r1 r2 sd se hu ⟨.bl _,H,I,rfl,q⟩
theorem JC (hu:X.A.units+64<cLine):De X (compareOp .NotEq) (rNeD X.K):=by
 intro pins s σ H x y v u Q I rx ry h
 obtain⟨d,e,hd,he,sd,se,q⟩:=h
 obtain⟨as,r1⟩:=Dp.reads I d x v hd rx
 obtain⟨bs,r2⟩:=Dp.reads I e y u he ry
 exact SeqAt.compareNe_shaped r1 r2 sd se hu ⟨.bl _,H,I,rfl,q⟩
end
end L2
namespace L2
open PySem PySem.Spec PyProof.Rows
abbrev GW (h:Heap) (c:Addr) (v:Option Value):Prop:=h.IsCell c v
def relS (scope sc:Scope):Scope :=
 {scope with names:=scope.names.map fun(n,k)=>if (k==.free&&sc.kind==.function&&sc.names.lookup n==some .cell) then (n,.cell) else (n,k)}
def dc (cells:List (Str×Addr)):List (Str×NameKind)->List (Str×Addr)->List (Str×Addr)
 | [],acc=>acc
 | (n,k)::r,acc=>if k==.free then dc cells r ((n,(cells.lookup n).getD 0)::acc) else dc cells r acc
theorem uG (env:Env) (f:Str×NameKind->List (Str×Addr)->Sem (ForInStep (List (Str×Addr))))
  (hf:∀n k c,f (n,k) c=if k==.free then (do let a <-cellOf env n;pure (.yield ((n,a)::c))) else pure (.yield c)) :
  ∀(names:List (Str×NameKind)) (acc:List (Str×Addr)),(∀y∈names,y.2=.free->∃c,env.cells.lookup y.1=some c)->forIn names acc f=pure (dc env.cells names acc)
 | [],acc,_=>by rw[List.forIn_nil];rfl
 | (n,k)::r,acc,h=>by
  rw[List.forIn_cons,hf]
  have ih:=fun acc=>uG env f hf r acc fun y hy=>h y (List.mem_cons_of_mem _ hy)
  unfold dc
  by_cases hk:(k==NameKind.free)=true
  ·rw[if_pos hk,if_pos hk]
   obtain⟨c,hc⟩:=h (n,k) List.mem_cons_self (by simpa using hk)
   have e:cellOf env n=pure c:=by unfold cellOf;rw[hc]
   rw[e]
   have e2:(env.cells.lookup n).getD 0=c:=by rw[hc];rfl
   rw[e2]
   exact ih _
  ·rw[if_neg hk,if_neg hk]
   exact ih _
theorem C2 {scope:Scope} {env:Env} (h:∀y∈scope.names,y.2=.free->∃c,env.cells.lookup y.1=some c):closureFor scope env=pure (dc env.cells scope.names []):=by
 simp only[closureFor]
 rw[uG env _ (fun n k c=>rfl) scope.names [] h]
 rfl
theorem mem_lookup {α:Type}:∀{l:List (Str×α)} {n:Str} {c:α},(n,c)∈l->∃c',l.lookup n=some c'
 | (k,v)::r,n,c,h=>by
  rw[List.lookup_cons]
  cases hb:n==k with
  | true=>exact⟨_,rfl⟩
  | false =>
   rcases List.mem_cons.mp h with e|h
   ·cases e;simp at hb
   ·exact mem_lookup h
theorem mX {cells:List (Str×Addr)}:∀{names:List (Str×NameKind)} {acc:List (Str×Addr)} {n:Str} {c:Addr},(n,c)∈dc cells names acc->(n,c)∈acc\/((n,.free)∈names/\c=(cells.lookup n).getD 0)
 | [],_,_,_,h=>.inl h
 | (m,k)::r,acc,n,c,h=>by
  unfold dc at h
  split at h
  ·rename_i hk
   have hk:k=.free:=by simpa using hk
   rcases mX h with h|⟨h1,h2⟩
   ·rcases List.mem_cons.mp h with e|h
    ·cases e;exact .inr ⟨hk▸List.mem_cons_self,rfl⟩
    ·exact .inl h
   ·exact .inr ⟨List.mem_cons_of_mem _ h1,h2⟩
  ·rcases mX h with h|⟨h1,h2⟩
   ·exact .inl h
   ·exact .inr ⟨List.mem_cons_of_mem _ h1,h2⟩
theorem qR {cells:List (Str×Addr)}:∀{names:List (Str×NameKind)} {acc:List (Str×Addr)} {p:Str×Addr},p∈acc->p∈dc cells names acc
 | [],_,_,h=>h
 | (m,k)::r,acc,p,h=>by
  unfold dc
  split
  ·exact qR (List.mem_cons_of_mem _ h)
  ·exact qR h
theorem qQ {cells:List (Str×Addr)}:∀{names:List (Str×NameKind)} {acc:List (Str×Addr)} {n:Str},(n,.free)∈names->(n,(cells.lookup n).getD 0)∈dc cells names acc
 | (m,k)::r,acc,n,h=>by
  unfold dc
  rcases List.mem_cons.mp h with e|h
  ·cases e
   exact qR List.mem_cons_self
  ·split
   ·exact qQ h
   ·exact qQ h
theorem oq:∀{names:List (Str×NameKind)} {h:Heap} {acc:List (Str×Addr)} {x:Str} {c:Addr},(x,c)∈cellsFrom h.objs.size names acc ->
  (x,c)∈acc\/((x,.cell)∈names/\h.objs.size<=c/\GW (pushCells h names) c none)
 | [],_,_,_,_,h=>.inl h
 | (n,k)::r,h,acc,x,c,hm=>by
  unfold cellsFrom at hm
  unfold pushCells
  split at hm
  ·rename_i hk
   rw[if_pos hk]
   have hk:k=.cell:=by simpa using hk
   rw[<-Heap.size_push h {cls:=.type "cell",data:=.cell none}] at hm
   rcases oq hm with hm|⟨h1,h2,h3⟩
   ·rcases List.mem_cons.mp hm with e|hm
    ·cases e
     exact .inr ⟨hk▸List.mem_cons_self,Nat.le_refl _,_,pushCells_keeps r _ _ _ (Heap.get?_push_size _ rfl),rfl⟩
    ·exact .inl hm
   ·rw[Heap.size_push] at h2
    exact .inr ⟨List.mem_cons_of_mem _ h1,Nat.le_of_succ_le h2,h3⟩
  ·rename_i hk
   rw[if_neg hk]
   rcases oq hm with hm|⟨h1,h2,h3⟩
   ·exact .inl hm
   ·exact .inr ⟨List.mem_cons_of_mem _ h1,h2,h3⟩
theorem rN:∀{names:List (Str×NameKind)} {n:Nat} {acc:List (Str×Addr)} {p:Str×Addr},p∈acc->p∈cellsFrom n names acc
 | [],_,_,_,h=>h
 | (m,k)::r,n,acc,p,h=>by
  unfold cellsFrom
  split
  ·exact rN (List.mem_cons_of_mem _ h)
  ·exact rN h
theorem vk:∀{names:List (Str×NameKind)} {n:Nat} {acc:List (Str×Addr)} {x:Str},(x,.cell)∈names->∃c,(x,c)∈cellsFrom n names acc
 | (m,k)::r,n,acc,x,h=>by
  unfold cellsFrom
  rcases List.mem_cons.mp h with e|h
  ·cases e
   exact⟨n,rN List.mem_cons_self⟩
  ·split
   ·exact vk h
   ·exact vk h
theorem vj:∀{names:List (Str×NameKind)} {h:Heap} {acc:List (Str×Addr)} {x y:Str} {c:Addr},(∀p∈acc,p.2<h.objs.size)->(∀x y c,(x,c)∈acc->(y,c)∈acc->x=y) ->
  (x,c)∈cellsFrom h.objs.size names acc->(y,c)∈cellsFrom h.objs.size names acc->x=y
 | [],_,_,_,_,_,_,hi,h1,h2=>hi _ _ _ h1 h2
 | (n,k)::r,h,acc,x,y,c,hl,hi,h1,h2=>by
  unfold cellsFrom at h1 h2
  split at h1
  ·rename_i hk
   rw[if_pos hk] at h2
   rw[<-Heap.size_push h {cls:=.type "cell",data:=.cell none}] at h1 h2
   refine vj (h:=h.push _) (fun p hp=>?_) (fun x y c a b=>?_) h1 h2
   ·rw[Heap.size_push]
    rcases List.mem_cons.mp hp with rfl|hp
    ·exact Nat.lt_succ_self _
    ·exact Nat.lt_succ_of_lt (hl p hp)
   ·rcases List.mem_cons.mp a with e|a<;>rcases List.mem_cons.mp b with e'|b
    ·cases e;cases e';rfl
    ·cases e;exact absurd (hl _ b) (Nat.lt_irrefl _)
    ·cases e';exact absurd (hl _ a) (Nat.lt_irrefl _)
    ·exact hi _ _ _ a b
  ·rename_i hk
   rw[if_neg hk] at h2
   exact vj hl hi h1 h2
theorem Bh {M:Model} {A:Around} {E:Value->Shared->Prop} {s:Shared} {scope:Scope} {globals:Addr} {closure:List (Str×Addr)} {qual:Str} {func:Option Addr} {code:Value} {around:Env} {builtins:Addr} {Q:Env->Shared->Prop}
  (h:Q (newEnv scope s.heap.objs.size globals (cellsFrom (s.heap.objs.size+1) scope.names closure) qual func code (some around) builtins)
   {s with heap:=pushCells (s.heap.push {cls:=.type "dict",data:=.dict #[]}) scope.names}) :
  wpAny M A (newFunctionEnv scope globals closure [] qual func code (some around) builtins) Q E s:=by
 simp only[newFunctionEnv,Option.isSome_some,if_true]
 refine wpAny_bind (wpAny_alloc ?_)
 refine wpAny_bind (wpAny_layCells _ (fun n k c=>rfl) scope.names closure _ _ ?_)
 rw[show({s with heap:=s.heap.push {cls:=.type "dict",data:=.dict #[]}}:Shared).heap.objs.size=s.heap.objs.size+1 from Heap.size_push ..]
 rw[List.forIn_nil]
 exact wpAny_bind (wpAny_pure (wpAny_pure h))
theorem qM {sc:Scope}:∀{names:List (Str×NameKind)} {x:Str} {k:NameKind},
  (names.map fun(n,k)=>if (k==NameKind.free&&sc.kind==.function&&sc.names.lookup n==some .cell) then (n,NameKind.cell) else (n,k)).lookup x=some k ->
  ∃k',names.lookup x=some k'/\(k=k'\/(k'=.free/\k=.cell))
 | [],_,_,h=>by simp at h
 | (n,k₀)::r,x,k,h=>by
  have ih:=@qM sc r x k
  have h':List.lookup x ((if (k₀==NameKind.free&&sc.kind==.function&&sc.names.lookup n==some .cell)=true then (n,NameKind.cell) else (n,k₀))::(r.map _))=some k:=h
  cases hx:x==n with
  | true =>
   simp only[List.lookup_cons,hx]
   by_cases hc:(k₀==NameKind.free&&sc.kind==.function&&sc.names.lookup n==some .cell)=true
   ·rw[if_pos hc] at h'
    simp only[List.lookup_cons,hx] at h'
    cases h'
    simp only[Bool.and_eq_true,beq_iff_eq] at hc
    exact⟨k₀,rfl,.inr ⟨hc.1.1,rfl⟩⟩
   ·rw[if_neg hc] at h'
    simp only[List.lookup_cons,hx] at h'
    cases h'
    exact⟨_,rfl,.inl rfl⟩
  | false =>
   simp only[List.lookup_cons,hx]
   by_cases hc:(k₀==NameKind.free&&sc.kind==.function&&sc.names.lookup n==some .cell)=true
   ·rw[if_pos hc] at h'
    simp only[List.lookup_cons,hx] at h'
    exact ih h'
   ·rw[if_neg hc] at h'
    simp only[List.lookup_cons,hx] at h'
    exact ih h'
structure Ej (N:List Str) (sc scope:Scope) (own:List (Str×Nat)):Prop where
 kind:scope.kind=.function
 uniq:∀y∈scope.names,scope.names.lookup y.1=some y.2
 ix:∀p∈own,N[p.2]?=some p.1
 free:∀y∈scope.names,y.2=.free->sc.names.lookup y.1=some .cell\/sc.names.lookup y.1=some .free
 own:∀y∈scope.names,y.2=.local\/y.2=.cell->y.1∈own.map (·.1)\/y.1∉N
def wipe (σ:St):List Nat->St
 | []=>σ
 | v::vs=>(wipe σ vs).set v none
theorem qc (σ:St):∀vs:List Nat,(wipe σ vs).length=σ.length
 | []=>rfl
 | v::vs=>by unfold wipe;rw[List.length_set,qc σ vs]
theorem uT {σ:St} {i:Nat} {x:V}:∀{vs:List Nat},(wipe σ vs)[i]?=some (some x)->σ[i]?=some (some x)/\i∉vs
 | [],h=>⟨h,by simp⟩
 | v::vs,h=>by
  unfold wipe at h
  by_cases hi:v=i
  ·subst hi
   by_cases hv:v<(wipe σ vs).length
   ·rw[List.getElem?_set_self hv] at h;cases h
   ·rw[List.getElem?_eq_none (by simpa using hv)] at h;cases h
  ·rw[List.getElem?_set_ne hi] at h
   obtain⟨h1,h2⟩:=uT h
   exact⟨h1,by simp only[List.mem_cons,not_or];exact⟨fun e=>hi e.symm,h2⟩⟩
abbrev Cx.Cc (X:Cx) (s:Shared) (H:Hp) (scope:Scope) (cenv:Env) (fp:List Addr):Cx:={X with xo:=s,JY:=H,env:=cenv,outer:=X.stack,ex:=fp,fn:=fun x=>scope.names.lookup x==some .cell,pn:=[],xe:=fun _ _=>False}
section
variable {X:Cx} {pins:List (Addr×Obj)} {σ:St} {H:Hp} {s:Shared}
theorem BD {scope:Scope} {own:List (Str×Nat)} {fp:List Addr} (I:Inv X pins σ H s) (ok:Ej X.N X.env.scope scope own) (hN:X.N.Nodup) (hfp:∀b∈fp,yt X pins H b/\b<s.heap.objs.size) :
  Inv (X.Cc s H scope (compEnvC scope (cellsFrom (s.heap.objs.size+1) scope.names (dc X.env.cells scope.names [])) s.heap.objs.size X.env) fp) [] (wipe σ (own.map (·.2))) H {s with heap:=pushCells (s.heap.push {cls:=.type "dict",data:=.dict #[]}) scope.names}:=by
 have hfree:∀y∈scope.names,y.2=.free->∃c,X.env.cells.lookup y.1=some c:=fun y hy e=>by
  rcases ok.free y hy e with k|k
  ·exact I.ok.has _ (.inl k)
  ·exact I.ok.has _ (.inr k)
 generalize hcenv:compEnvC scope (cellsFrom (s.heap.objs.size+1) scope.names (dc X.env.cells scope.names [])) s.heap.objs.size X.env=cenv
 have kp:∀b o,s.heap.get? b=some o->(pushCells (s.heap.push {cls:=.type "dict",data:=.dict #[]}) scope.names).get? b=some o:=fun b o e=>pushCells_keeps _ _ _ _ (Heap.get?_push_of_some _ e)
 have hL:cenv.locals=s.heap.objs.size:=by rw[<-hcenv];rfl
 have hcl:cenv.cells=cellsFrom (s.heap.objs.size+1) scope.names (dc X.env.cells scope.names []):=by rw[<-hcenv];rfl
 have hsc:cenv.scope=relS scope X.env.scope:=by rw[<-hcenv];rfl
 rw[<-Heap.size_push s.heap {cls:=.type "dict",data:=.dict #[]}] at hcl
 have cm:∀{y c},(y,c)∈dc X.env.cells scope.names []->X.env.cells.lookup y=some c/\c<s.heap.objs.size:=fun {y c} hm=>by
  rcases mX hm with hm|⟨h1,rfl⟩
  ·cases hm
  ·obtain⟨c,hc⟩:=hfree _ h1 rfl
   rw[hc]
   obtain⟨w,z⟩:=I.cell _ _ hc
   exact⟨rfl,z.lt⟩
 have mem:∀{y c},cenv.cells.lookup y=some c->(X.env.cells.lookup y=some c/\c<s.heap.objs.size)\/(s.heap.objs.size+1<=c/\GW (pushCells (s.heap.push {cls:=.type "dict",data:=.dict #[]}) scope.names) c none):=fun {y c} e=>by
  rw[hcl] at e
  rcases oq (PySem.mem_of_lookup e) with hm|⟨_,h2,h3⟩
  ·exact .inl (cm hm)
  ·rw[Heap.size_push] at h2;exact .inr ⟨h2,h3⟩
 have look:∀{y},scope.names.lookup y=some .free->∃c,cenv.cells.lookup y=some c/\X.env.cells.lookup y=some c:=fun {y} hl=>by
  have hy:(y,NameKind.free)∈scope.names:=PySem.mem_of_lookup hl
  obtain⟨c',e'⟩:=mem_lookup (rN (names:=scope.names) (n:=(s.heap.push {cls:=.type "dict",data:=.dict #[]}).objs.size) (qQ (cells:=X.env.cells) (acc:=[]) hy))
  rw[<-hcl] at e'
  refine⟨c',e',?_⟩
  rw[hcl] at e'
  rcases oq (PySem.mem_of_lookup e') with hm|⟨h1,_,_⟩
  ·exact(cm hm).1
  ·have:=ok.uniq _ h1
   rw[hl] at this;cases this
 have okB:(X.Cc s H scope cenv fp).Ok:=by
  refine⟨I.ok.mod,by show cenv.scope.kind=_;rw[hsc];exact ok.kind,by show cenv.globals=_;rw[<-hcenv];exact I.ok.glob,by show cenv.builtins=_;rw[<-hcenv];exact I.ok.blt,by show s.heap.objs.size<=cenv.locals;rw[hL];exact Nat.le_refl _,
   fun y z c e1 e2=>?_,fun y hy=>?_,fun y c z e=>?_,I.ok.hd,I.ok.frames,.inl rfl,fun b hb=>⟨?_,fun y c e z=>?_⟩,I.bs,Nat.le_trans I.ok.GF I.sz,fun b o e hb=>?_,fun b hb z=>?_,I.stack,I.zQ⟩
  ·have e1:cenv.cells.lookup y=some c:=e1
   have e2:cenv.cells.lookup z=some c:=e2
   rw[hcl] at e1 e2
   refine vj (fun p hp=>?_) (fun y z c a b=>I.ok.inj y z c (cm a).1 (cm b).1) (PySem.mem_of_lookup e1) (PySem.mem_of_lookup e2)
   rw[Heap.size_push]
   exact Nat.lt_succ_of_lt (cm (y:=p.1) (c:=p.2) hp).2
  ·show ∃c,cenv.cells.lookup y=some c
   have key:∀k,cenv.kindOf y=some k->(k=.cell\/k=.free)->∃c,cenv.cells.lookup y=some c:=fun k hk hk'=>by
    unfold Env.kindOf at hk
    rw[hsc] at hk
    obtain⟨k',e,r⟩:=qM hk
    have:k'=.cell\/k'=.free:=by
     rcases r with rfl|⟨rfl,_⟩
     ·exact hk'
     ·exact .inr rfl
    rcases this with rfl|rfl
    ·obtain⟨c,hm⟩:=vk (n:=(s.heap.push {cls:=.type "dict",data:=.dict #[]}).objs.size) (acc:=dc X.env.cells scope.names []) (PySem.mem_of_lookup e)
     obtain⟨c',e'⟩:=mem_lookup hm
     exact⟨c',by rw[hcl];exact e'⟩
    ·obtain⟨c,h1,_⟩:=look e
     exact⟨c,h1⟩
   rcases hy with hy|hy
   ·exact key _ hy (.inl rfl)
   ·exact key _ hy (.inr rfl)
  ·have z:(scope.names.lookup y==some NameKind.cell)=true:=z
   have z:scope.names.lookup y=some .cell:=by simpa using z
   have e:cenv.cells.lookup y=some c:=e
   rw[hcl] at e
   rcases oq (PySem.mem_of_lookup e) with hm|⟨_,h2,_⟩
   ·rcases mX hm with hm|⟨h1,_⟩
    ·cases hm
    ·have q:=ok.uniq _ h1
     rw[z] at q;cases q
   ·rw[Heap.size_push] at h2
    exact Nat.le_of_succ_le h2
  ·show b≠cenv.locals
   rw[hL];exact Nat.ne_of_lt (hfp b hb).2
  ·have e:cenv.cells.lookup y=some c:=e
   rcases mem e with⟨h1,_⟩|⟨h1,_⟩
   ·exact(hfp b hb).1.2.2.2.2.1 y c h1 z
   ·have h2:s.heap.objs.size+1<=b:=by rw[<-z];exact h1
    exact absurd (Nat.lt_of_lt_of_le (hfp b hb).2 (Nat.le_of_succ_le h2)) (Nat.lt_irrefl _)
  ·rcases (hfp b hb).1.2.2.2.1 with z|z
   ·exact I.ok.CI b o e z
   ·exact absurd (Nat.lt_of_lt_of_le (Heap.lt_size e) (Nat.le_trans I.ok.GF z)) (Nat.lt_irrefl _)
  ·rcases List.mem_cons.mp (I.Cm b z) with z|z
   ·exact(hfp b hb).1.2.1 z
   ·exact(hfp b hb).1.2.2.1 z
 refine⟨okB,rfl,I.bare,Un.kept kp,⟨fun _=>none,?_,fun i y av e1 e2 e3=>?_⟩,fun y c e=>?_,?_,fun y c e=>?_,fun p hp=>?_,I.dz.kept kp,by rw[qc];exact I.len⟩
 ·show Heap.Ns _ cenv.locals _
  rw[hL]
  exact Heap.Ns.keeps (Heap.Ns.new ..) fun b o e=>pushCells_keeps _ _ _ _ e
 ·obtain⟨e2,hne⟩:=uT e2
  have hfr:scope.names.lookup y=some .free/\(cenv.kindOf y=some .cell\/cenv.kindOf y=some .free):=by
   have key:∀k,cenv.scope.names.lookup y=some k->k=.local\/k=.cell\/k=.free->scope.names.lookup y=some .free/\(cenv.kindOf y=some .cell\/cenv.kindOf y=some .free):=fun k hk hk'=>by
    have hk0:=hk
    rw[hsc] at hk
    obtain⟨k',e,r⟩:=qM hk
    have no:¬(k'=.local\/k'=.cell):=fun hh=>by
     rcases ok.own _ (PySem.mem_of_lookup e) hh with e'|e'
     ·obtain⟨p,hp,hpy⟩:=List.mem_map.mp e'
      have e3:=ok.ix p hp
      have:p.1=y:=hpy
      rw[this] at e3
      exact hne (List.mem_map.mpr ⟨p,hp,xG hN e3 e1⟩)
     ·exact e' (List.mem_of_getElem? e1)
    rcases r with rfl|⟨rfl,rfl⟩
    ·rcases hk' with rfl|rfl|rfl
     ·exact absurd (.inl rfl) no
     ·exact absurd (.inr rfl) no
     ·exact⟨e,.inr hk0⟩
    ·exact⟨e,.inl hk0⟩
   have e3:Vis cenv.scope y:=e3
   rcases e3 with e3|e3|e3
   ·exact key _ e3 (.inl rfl)
   ·exact key _ e3 (.inr (.inl rfl))
   ·exact key _ e3 (.inr (.inr rfl))
  obtain⟨m,hn,hl⟩:=I.loc
  have hvis:Vis X.env.scope y:=(ok.free _ (PySem.mem_of_lookup hfr.1) rfl).elim (fun k=>.inr (.inl k)) (fun k=>.inr (.inr k))
  obtain⟨w,r,q⟩:=hl i y av e1 e2 hvis
  refine⟨w,r,.inr ⟨hfr.2,?_⟩⟩
  obtain⟨c,h1,h2⟩:=look hfr.1
  rcases q with⟨k,_⟩|⟨_,c',e',z⟩
  ·have k:X.env.scope.names.lookup y=some .local:=k
   rcases ok.free _ (PySem.mem_of_lookup hfr.1) rfl with k'|k'<;>rw[show X.env.scope.names.lookup y=_ from k'] at k<;>cases k
  ·rw[h2] at e';cases e'
   exact⟨c,h1,z.keeps kp⟩
 ·have e:cenv.cells.lookup y=some c:=e
  rcases mem e with⟨h1,_⟩|⟨_,z⟩
  ·obtain⟨w,z⟩:=I.cell y c h1
   exact⟨w,z.keeps kp⟩
  ·exact⟨_,z⟩
 ·show H cenv.locals=none
  rw[hL];exact I.dz.fresh (Nat.le_refl _)
 ·have e:cenv.cells.lookup y=some c:=e
  rcases mem e with⟨h1,_⟩|⟨h1,_⟩
  ·exact I.lY y c h1
  ·exact I.dz.fresh (Nat.le_of_succ_le h1)
 ·exact absurd (show p∈([]:List (Addr×Obj))++[] from hp) (by simp)
theorem JV {E:Value->Shared->Prop} {D:Addr} {xs:List V} {y:V} {v:Value} {Q:Value->Shared->Prop} (I:Inv X pins σ H s) (hD:H D=some (.lst xs)) (hz:xs.length<sizeLine) (r:RelV y v)
  (h:∀s',Inv X pins σ (upd H D (.lst (xs++[y]))) s'->Q .none s'):wpAny (model X.prog X.w) X.A (call (.builtin "list.append") [.ref D,v]) Q E s:=by
 obtain⟨hz',its,n,ri,e⟩:=I.dz D _ hD
 have hl:=ri.length
 refine append_at (hsz:=by rw[List.size_toArray];omega) e fun h' sb ho'=>?_
 refine h {s with heap:=h'} (I.write (t':=s.toks) (by rw[hD];trivial) (.inl rfl) (fun b u hb q=>(sb.2 b hb).trans q) ⟨_,ho'⟩ ⟨by rw[List.length_append];exact hz,its++[v],n+1,ri.append (.cons r .nil),?_⟩)
 rw[ho']
 simp
def PTs (X:Cx) (ifs:List Expr) (t:TT):Prop :=
 ∀(pins:List (Addr×Obj)) (s:Shared) (σ:St) (H:Hp) (Q:Bool->Hp->Prop),Inv X pins σ H s->t σ H Q ->
  wpAny (model X.prog X.w) X.A (forIn ifs true fun c r=>if r=true then do let ok <-isTrue c X.env (eval c X.env);pure (ForInStep.yield ok) else pure (ForInStep.yield r)) (TP X pins σ Q) X.xe s
def tYes:TT:=fun _ H Q=>Q true H
theorem Hu:PTs X [] tYes:=fun _ _ _ H _ I h=>wpAny_tests_nil ⟨H,I,h⟩
end
theorem Er {α:Type} {t:Sem α} {Q Q':α->Shared->Prop} {M:Model} {A:Around} {E:Value->Shared->Prop} {s:Shared} (h:wpAny M A t Q (fun _ _=>False) s) (hQ:∀a s,Q a s->Q' a s):wpAny M A t Q' E s:=wpAny_mono h hQ fun _ _ z=>False.elim z
theorem Ar {prog:Program} {w:World} {A:Around} {R:Result->Shared->Prop} {s:Shared} {elt target iter:Expr} {ifs:List Expr} {scope:Scope} {pos:Pos} {it acc:Value} {env:Env} (I:Nat->Shared->Prop)
  (turn:∀n s,I n s->wpAny (model prog w) A (pyNext it) (fun r s₁=>match r with
   | none=>R (.ok .next) s₁
   | some v=>wpAny (model prog w) A (letOwnedTupleGo target it v) (fun _ s₁'=>wpAny (model prog w) A (assign target env v) (fun _ s₂ =>
     wpAny (model prog w) A (forIn ifs true fun c r=>if r=true then do let ok <-isTrue c env (eval c env);pure (ForInStep.yield ok) else pure (ForInStep.yield r)) (fun ok s₃ =>
      if ok=true then wpAny (model prog w) A (eval elt env) (fun x s₄ =>
       wpAny (model prog w) A (call (.builtin "list.append") [acc,x]) (fun _ s₅=>∃m,m<n/\I m s₅) (notedBy (model prog w) A env fun e s'=>R (.error e) s') s₄) (notedBy (model prog w) A env fun e s'=>R (.error e) s') s₃
      else ∃m,m<n/\I m s₃) (notedBy (model prog w) A env fun e s'=>R (.error e) s') s₂) (notedBy (model prog w) A env fun e s'=>R (.error e) s') s₁') (notedBy (model prog w) A env fun e s'=>R (.error e) s') s₁) (notedBy (model prog w) A env fun e s'=>R (.error e) s') s)
  (n:Nat) (h:I n s) :
  codeAny (model prog w) A (.compLoop (.ListComp elt [⟨target,iter,ifs,0⟩] scope pos) 0 it acc env) R s:=by
 refine codeAny_loop rfl I (fun n s hI=>?_) n h
 show wpAny _ A ((compTurn (.ListComp elt [⟨target,iter,ifs,0⟩] scope pos) 0 it acc env).onRaise (fun x=>do noteFrame x env;theTreesLotGoes x)) _ _ s
 refine wpAny_noted ?_
 rw[compTurn_list]
 refine wpAny_bind (wpAny_standAt (wpAny_bind (wpAny_mono (turn n s hI) (fun r s₁ h₁=>?_) fun _ _ h'=>h')))
 cases r with
 | none=>exact wpAny_pure h₁
 | some v =>
  refine wpAny_bind (wpAny_mono h₁ (fun _ s₁' h₁'=>?_) fun _ _ h'=>h')
  refine wpAny_bind (wpAny_mono h₁' (fun _ s₂ h₂=>wpAny_bind (wpAny_mono h₂ (fun ok s₃ h₃=>?_) fun _ _ h'=>h')) fun _ _ h'=>h')
  cases ok with
  | false=>exact wpAny_pure ⟨rfl,h₃⟩
  | true =>
   exact wpAny_bind (wpAny_bind (wpAny_mono h₃ (fun x s₄ h₄=>wpAny_bind (wpAny_mono h₄ (fun _ s₅ h₅=>wpAny_pure (wpAny_pure ⟨rfl,h₅⟩)) fun _ _ h'=>h')) fun _ _ h'=>h'))
section
variable {X:Cx}
def tLc (wi:TI) (g:TG) (tt:TT) (te:TE) (vs:List Nat):TE:=fun σ H Q=>wi σ H fun J H1=>∀D,H1 D=none->∃W:Nat->Nat->Hp->Prop,(∃m,W 0 m (upd H1 D (.lst [])))/\∀i m H,W i m H ->
 (J.stop i H/\Q (.ref D) H)\/(J.go i H/\∃Nx:Hp->Prop,(∀H',Nx H'->∃m',m'<m/\W (i+1) m' H')/\∀x H',J.GY i H x H'->g x (wipe σ vs) H' fun σ2 H2=>wipe σ2 vs=wipe σ vs/\tt σ2 H2 fun b H3 =>
  if b=true then te σ2 H3 fun y H4=>∃acc,H4 D=some (.lst acc)/\acc.length<sizeLine/\Nx (upd H4 D (.lst (acc++[y]))) else Nx H3)
theorem HL {pins:List (Addr×Obj)} {s:Shared} {σ:St} {H:Hp} {Q:VK} {elt tg iter:Expr} {ifs:List Expr} {scope:Scope} {own:List (Str×Nat)} {pos pos':Pos} {wi:TI} {g:TG} {tt:TT} {te:TE} {use:Option (Value->Sem Unit)} {Qf:Value->Shared->Prop}
  (hc:X.calm=true) (hN:X.N.Nodup) (I:Inv X pins σ H s) (hi:PI X tg iter wi) (ok:Ej X.N X.env.scope scope own)
  (hg:∀(s:Shared) (H:Hp) (C:Addr) (cl:List (Str×Addr)) (fp:List Addr),PG (X.Cc s H scope (compEnvC scope cl C X.env) fp) tg g) (ht:∀(s:Shared) (H:Hp) (C:Addr) (cl:List (Str×Addr)) (fp:List Addr),PTs (X.Cc s H scope (compEnvC scope cl C X.env) fp) ifs tt)
  (he:∀(s:Shared) (H:Hp) (C:Addr) (cl:List (Str×Addr)) (fp:List Addr),PE (X.Cc s H scope (compEnvC scope cl C X.env) fp) elt te) (hs:∀x,foldedSetIterable iter X.env x=pure x)
  (h:tLc wi g tt te (own.map (·.2)) σ H Q)
  (hRR:∀D C s' m H',Inv X pins σ H' s'->Q (.ref D) H'->s'.heap.Ns C m->yt X pins H' C->compPost (model X.prog X.w) X.A X.xe use Qf (.ref D) C (.ok .next) s') :
  wpAny (model X.prog X.w) X.A (comprehension (.ListComp elt [⟨tg,iter,ifs,0⟩] scope pos) scope X.env pos' (newList []) false (eval iter X.env) use) Qf X.xe s:=by
 have hfree:∀y∈scope.names,y.2=.free->∃c,X.env.cells.lookup y.1=some c:=fun y hy e=>by
  rcases ok.free y hy e with k|k
  ·exact I.ok.has _ (.inl k)
  ·exact I.ok.has _ (.inr k)
 refine wpAny_comprehension_free (use:=use) rfl hs (C2 hfree) ok.kind (fun y hy e=>by rw[ok.uniq y hy,e])
  (eS (hi pins s σ H _ I h) fun xv s1 hx=>eS hx fun itv s2 h2=>?_)
 obtain⟨it,fp,tn,J,H2,e,I2,T,st2,f2,q⟩:=h2
 subst e
 refine wpAny_newObj_type (Bh ?_) (by show 0<=sizeLine;decide)
 generalize hD:s2.heap.objs.size=D
 have hDn:H2 D=none:=I2.dz.fresh (Nat.le_of_eq hD)
 obtain⟨W,⟨m0,w0⟩,turn⟩:=q D hDn
 generalize hs3:({s2 with heap:=s2.heap.push {cls:=.type "list",data:=.seq ([]:List Value).toArray}}:Shared)=s3
 have I3:Inv X pins σ (upd H2 D (.lst [])) s3:=by
  rw[<-hs3]
  refine I2.laid (t':=s2.toks) (fun b o e=>Heap.get?_push_of_some _ e) (Nat.le_of_eq hD) ⟨Nat.zero_le _,[],0,.nil,?_⟩
  rw[<-hD]
  exact Heap.get?_push_size _ rfl
 have h3:s3.heap=s2.heap.push {cls:=.type "list",data:=.seq ([]:List Value).toArray}:=by rw[<-hs3]
 have sz:∀b∈fp,b<s2.heap.objs.size:=fun b hb=>by
  obtain⟨o,e,_⟩:=T.obj _ _ st2 b hb
  exact Heap.lt_size e
 have f3:∀b∈fp,yt X pins (upd H2 D (.lst [])) b/\b<s3.heap.objs.size:=fun b hb=>by
  have hlt:=sz b hb
  refine⟨⟨?_,(f2 b hb).2⟩,by rw[h3,Heap.size_push];exact Nat.lt_succ_of_lt hlt⟩
  rw[aE (by rw[<-hD];exact Nat.ne_of_lt hlt)]
  exact(f2 b hb).1
 have st3:tn 0 s3.heap:=T.keep _ _ _ st2 fun b _ o e=>by rw[h3];exact Heap.get?_push_of_some _ e
 have I4:=BD I3 ok hN f3
 have pg:=hg s3 (upd H2 D (.lst [])) s3.heap.objs.size (cellsFrom (s3.heap.objs.size+1) scope.names (dc X.env.cells scope.names [])) fp
 have pt:=ht s3 (upd H2 D (.lst [])) s3.heap.objs.size (cellsFrom (s3.heap.objs.size+1) scope.names (dc X.env.cells scope.names [])) fp
 have pe:=he s3 (upd H2 D (.lst [])) s3.heap.objs.size (cellsFrom (s3.heap.objs.size+1) scope.names (dc X.env.cells scope.names [])) fp
 show codeAny _ _ (.compStart (.ListComp elt [⟨tg,iter,ifs,0⟩] scope pos) 0 (.ref it) (.ref D) (compEnvC scope (cellsFrom (s3.heap.objs.size+1) scope.names (dc X.env.cells scope.names [])) s3.heap.objs.size X.env)) (compPost (model X.prog X.w) X.A X.xe use Qf (.ref D) s3.heap.objs.size) {s3 with heap:=pushCells (s3.heap.push {cls:=.type "dict",data:=.dict #[]}) scope.names}
 have nfp:∀b∈fp,(upd H2 D (.lst [])) b=none:=fun b hb=>(f3 b hb).1.1
 generalize hce:compEnvC scope (cellsFrom (s3.heap.objs.size+1) scope.names (dc X.env.cells scope.names [])) s3.heap.objs.size X.env=ce at I4 pg pt pe ⊢
 have cL:ce.locals=s3.heap.objs.size:=by subst hce;rfl
 generalize hH3:upd H2 D (.lst [])=H3 at I3 I4 pg pt pe w0 nfp f3
 generalize hs4:({s3 with heap:=pushCells (s3.heap.push {cls:=.type "dict",data:=.dict #[]}) scope.names}:Shared)=s4 at I4 ⊢
 have st4:tn 0 s4.heap:=T.keep _ _ _ st3 fun b _ o e=>by rw[<-hs4];exact pushCells_keeps _ _ _ _ (Heap.get?_push_of_some _ e)
 have stat:∀{σ':St} {H':Hp} {s':Shared},Inv (X.Cc s3 H3 scope ce fp) [] σ' H' s'->(∀b∈fp,H' b=none)->∀b∈fp,yt (X.Cc s3 H3 scope ce fp) [] H' b:=fun {σ' H' s'} I' hn b hb =>
  ⟨hn b hb,(I'.ok.exf b hb).1,I'.ok.CV b hb,.inl hb,fun x c e=>(I'.ok.exf b hb).2 x c e,fun p hp=>absurd (show p∈([]:List (Addr×Obj))++[] from hp) (by simp)⟩
 have loop:codeAny (model X.prog X.w) X.A (.compLoop (.ListComp elt [⟨tg,iter,ifs,0⟩] scope pos) 0 (.ref it) (.ref D) ce) (compPost (model X.prog X.w) X.A X.xe use Qf (.ref D) s3.heap.objs.size) s4:=by
  refine Ar (fun n s'=>∃i H',Inv (X.Cc s3 H3 scope ce fp) [] (wipe σ (own.map (·.2))) H' s'/\tn i s'.heap/\(∀b∈fp,H' b=none)/\W i n H') ?_ m0 ⟨0,H3,I4,st4,nfp,w0⟩
  rintro n s5 ⟨i,H5,I5,st5,n5,w5⟩
  rcases turn i n H5 w5 with⟨stop,qq⟩|⟨go,Nx,hNx,step⟩
  ·have td:=T.done (X.Cc s3 H3 scope ce fp) rfl rfl rfl hc i [] s5 _ H5 (fun _ _=>False) I5 (stat I5 n5) st5 stop
   refine Er td fun r s6 ⟨hr,I6⟩=>?_
   subst hr
   have I7:Inv X pins σ H5 s6:=I3.IF (ch:=fp) I6.os I6.base I6.dz I6.bare fun b hb=>⟨(f3 b hb).1.2.2.2.1,(f3 b hb).1.2.1,(f3 b hb).1.2.2.2.2.1,(f3 b hb).1.2.2.2.2.2⟩
   have nC:H5 s3.heap.objs.size=none:=by
    have z:H5 ce.locals=none:=I6.free
    rw[cL] at z
    exact z
   obtain⟨m,hn,_⟩:=I6.loc
   have hn:s6.heap.Ns ce.locals m:=hn
   rw[cL] at hn
   exact hRR D s3.heap.objs.size s6 m H5 I7 qq hn (I3.E8 (Nat.le_refl _) nC)
  ·have ti:=T.item (X.Cc s3 H3 scope ce fp) rfl rfl rfl hc i [] s5 _ H5 (fun _ _=>False) I5 (stat I5 n5) st5 go
   refine Er ti fun r s6 ⟨u,hr,h6⟩=>?_
   subst hr
   refine Er h6 fun _ s7 ⟨x,H7,I7,r7,y7,st7,n7⟩=>?_
   have I7':=I7.pinned (stat I7 n7) (T.obj _ _ st7)
   refine Er (pg _ s7 _ H7 x u _ I7' r7 (step x H7 y7)) fun _ s8 ⟨σ8,H8,I8,hw8,q8⟩=>?_
   refine Er (pt _ s8 σ8 H8 _ I8 q8) fun b s9 ⟨H9,I9,q9⟩=>?_
   have fin:∀{s':Shared} {H':Hp},Inv (X.Cc s3 H3 scope ce fp) ([]++xu fp s7.heap) σ8 H' s'->Nx H'->∃m,m<n/\∃i H',Inv (X.Cc s3 H3 scope ce fp) [] (wipe σ (own.map (·.2))) H' s'/\tn i s'.heap/\(∀b∈fp,H' b=none)/\W i m H':=fun {s' H'} I' nx=>by
    obtain⟨m',hm,w'⟩:=hNx H' nx
    have pin':∀b∈fp,∀o,s7.heap.get? b=some o->s'.heap.get? b=some o/\H' b=none:=fun b hb o e =>
     let z:=I'.pin (b,o) (List.mem_append_right _ (List.mem_append_right _ (tw hb e)))
     ⟨z.1,z.2.1⟩
    have hl:(wipe σ (own.map (·.2))).length=σ8.length:=by rw[<-hw8,qc]
    refine⟨m',hm,i+1,H',(I'.tV (pins:=[])).weak hl (fun j v e=>?_),T.keep _ _ _ st7 fun b hb o e=>(pin' b hb o e).1,fun b hb=>?_,w'⟩
    ·rw[<-hw8] at e
     exact(uT e).1
    ·obtain⟨o,e,_⟩:=T.obj _ _ st7 b hb
     exact(pin' b hb o e).2
   cases b with
   | false =>
    simp only[Bool.false_eq_true,if_false] at q9 ⊢
    exact fin I9 q9
   | true =>
    simp only[if_true] at q9 ⊢
    refine Er (pe _ s9 σ8 H9 _ I9 q9) fun z s10 ⟨yv,H10,I10,r10,acc,hD10,hz10,nx⟩=>?_
    exact JV (X:=X.Cc s3 H3 scope ce fp) I10 hD10 hz10 r10 fun s11 I11=>fin I11 nx
 exact codeAny_compStart_list loop (T.self X.A 0 _ _ _ st4 loop)
theorem pe_lc {elt tg iter:Expr} {ifs:List Expr} {scope:Scope} {own:List (Str×Nat)} {pos:Pos} {wi:TI} {g:TG} {tt:TT} {te:TE} (hc:X.calm=true) (hN:X.N.Nodup) (hi:PI X tg iter wi) (ok:Ej X.N X.env.scope scope own)
  (hg:∀(s:Shared) (H:Hp) (C:Addr) (cl:List (Str×Addr)) (fp:List Addr),PG (X.Cc s H scope (compEnvC scope cl C X.env) fp) tg g) (ht:∀(s:Shared) (H:Hp) (C:Addr) (cl:List (Str×Addr)) (fp:List Addr),PTs (X.Cc s H scope (compEnvC scope cl C X.env) fp) ifs tt)
  (he:∀(s:Shared) (H:Hp) (C:Addr) (cl:List (Str×Addr)) (fp:List Addr),PE (X.Cc s H scope (compEnvC scope cl C X.env) fp) elt te) (hs:∀x,foldedSetIterable iter X.env x=pure x:=by intro _;rfl) :
  PE X (.ListComp elt [⟨tg,iter,ifs,0⟩] scope pos) (tLc wi g tt te (own.map (·.2))):=by
 intro pins s σ H Q I h
 rw[eval_ListComp]
 refine HL hc hN I hi ok hg ht he hs h fun D C s' m H' I' q hn f=>⟨m,hn,fun h'' sb=>?_⟩
 obtain⟨f0,f1,f2,f3,f4,f5⟩:=f
 exact⟨.ref D,H',I'.turned (t':=s'.toks) (fun b o hb e=>(sb.2 b hb).trans e) f0 f1 f3 f4 f5,rfl,q⟩
end
theorem HK {K:PySem.W.Frag} {a:Addr} {xs:List V} {g:TG} {tt:TT} {te:TE} {vs:List Nat} {σ:St} {H1:Hp} {D:Addr} {Qd:Hp->Prop} (Pv:Nat->Hp->Prop) (h0:Pv 0 (upd H1 D (.lst []))) (hl:∀i H,i<=xs.length->Pv i H->bM K H a xs)
  (hs:∀i x H,xs[i]?=some x->Pv i H->g x (wipe σ vs) H fun σ2 H2=>wipe σ2 vs=wipe σ vs/\tt σ2 H2 fun b H3 =>
   if b=true then te σ2 H3 fun y H4=>∃acc,H4 D=some (.lst acc)/\acc.length<sizeLine/\Pv (i+1) (upd H4 D (.lst (acc++[y]))) else Pv (i+1) H3) (hd:∀H,Pv xs.length H->Qd H) :
  ∃W:Nat->Nat->Hp->Prop,(∃m,W 0 m (upd H1 D (.lst [])))/\∀i m H,W i m H ->
   ((IL K a).stop i H/\Qd H)\/((IL K a).go i H/\∃Nx:Hp->Prop,(∀H',Nx H'->∃m',m'<m/\W (i+1) m' H')/\∀x H',(IL K a).GY i H x H'->g x (wipe σ vs) H' fun σ2 H2=>wipe σ2 vs=wipe σ vs/\tt σ2 H2 fun b H3 =>
    if b=true then te σ2 H3 fun y H4=>∃acc,H4 D=some (.lst acc)/\acc.length<sizeLine/\Nx (upd H4 D (.lst (acc++[y]))) else Nx H3):=by
 refine⟨fun i m H=>m=xs.length-i/\i<=xs.length/\Pv i H,⟨xs.length,by simp,Nat.zero_le _,h0⟩,?_⟩
 rintro i m H ⟨rfl,hi,p⟩
 have q:=hl i H hi p
 by_cases hlt:i<xs.length
 ·refine .inr ⟨⟨xs,xs[i],q,by simp[hlt]⟩,Pv (i+1),fun H' p'=>⟨xs.length-(i+1),by omega,rfl,hlt,p'⟩,fun x H' y=>?_⟩
  obtain⟨e,y⟩:=y
  subst e
  exact hs i x _ (y xs q) p
 ·have e:i=xs.length:=by omega
  subst e
  exact .inl ⟨⟨xs,q,Nat.le_refl _⟩,hd H p⟩
def blkC (N:List Str) (sc scope:Scope) (own:List (Str×Nat)):Bool :=
 (match scope.kind with|.function=>true|_=>false)&&(scope.names.all fun y=>decide (scope.names.lookup y.1=some y.2))&&(own.all fun p=>decide (N[p.2]?=some p.1)) &&
  (scope.names.all fun y=>match y.2 with
   | .free=>(match sc.names.lookup y.1 with|some .cell=>true|some .free=>true|_=>false)
   | .local=>decide (y.1∈own.map (·.1))||decide (y.1∉N)
   | .cell=>decide (y.1∈own.map (·.1))||decide (y.1∉N)
   | _=>true)
theorem GG {N:List Str} {sc scope:Scope} {own:List (Str×Nat)} (h:blkC N sc scope own=true):Ej N sc scope own:=by
 unfold blkC at h
 simp only[Bool.and_eq_true,List.all_eq_true,decide_eq_true_eq] at h
 obtain⟨⟨⟨h1,h2⟩,h3⟩,h4⟩:=h
 refine⟨?_,h2,h3,fun y hy e=>?_,fun y hy e=>?_⟩
 ·split at h1
  ·assumption
  ·cases h1
 ·have q:=h4 y hy
  simp only[e] at q
  split at q<;>first|exact .inl (by assumption)|exact .inr (by assumption)|cases q
 ·have q:=h4 y hy
  rcases e with e|e<;>(simp only[e,Bool.or_eq_true,decide_eq_true_eq] at q;exact q)
end L2
namespace L2
open PySem PySem.Spec PyProof.Rows
section
variable {prog:Program} {w:World} {A:Around} {R:Result->Shared->Prop} {s:Shared} {elt t0 i0 t1 i1:Expr} {ifs0 ifs1:List Expr} {scope:Scope} {pos:Pos} {it acc:Value} {env:Env}
end
section
variable {X:Cx}
end
end L2
namespace L2
open PySem PySem.Spec PyProof.Rows
section
variable {κ:Type} [DecidableEq κ]
def qe (kvs:List (κ×V)) (k:κ):Option V:=(kvs.find? fun kv=>decide (kv.1=k)).map (·.2)
theorem Fl {p:κ×V} {r:List (κ×V)} {k:κ} (e:p.1=k):qe (p::r) k=some p.2:=by simp[qe,List.find?_cons,e]
theorem Fm {p:κ×V} {r:List (κ×V)} {k:κ} (e:¬p.1=k):qe (p::r) k=qe r k:=by simp[qe,List.find?_cons,e]
theorem uL.EZ {o:Option V} {u:Option Value} (r:uL o u):o.isSome=u.isSome:=by
 cases o with
 | none=>cases u with
  | none=>rfl
  | some _=>exact(show False from r).elim
 | some _=>cases u with
  | none=>exact(show False from r).elim
  | some _=>rfl
theorem KV.val {kvs:List (κ×V)} {vs:List (κ×Value)} (r:KV kvs vs) (k:κ):uL (qe kvs k) (valueAt vs k):=by
 unfold KV at r
 induction r with
 | nil=>exact True.intro
 | @cons p q ps qs h t ih =>
  obtain⟨h1,h2⟩:=h
  by_cases e:p.1=k
  ·have e':q.1=k:=h1.symm.trans e
   have b:valueAt (q::qs) k=some q.2:=by simp[valueAt,List.find?_cons,e']
   rw[Fl e,b];exact h2
  ·have e':¬q.1=k:=fun z=>e (h1.trans z)
   have b:valueAt (q::qs) k=valueAt qs k:=by simp[valueAt,List.find?_cons,e']
   rw[Fm e,b];exact ih
theorem KV.keys {kvs:List (κ×V)} {vs:List (κ×Value)} (r:KV kvs vs):kvs.map (·.1)=vs.map (·.1):=by
 unfold KV at r
 induction r with
 | nil=>rfl
 | cons h t ih=>rw[List.map_cons,List.map_cons,ih,h.1]
theorem KV.length {kvs:List (κ×V)} {vs:List (κ×Value)} (r:KV kvs vs):kvs.length=vs.length:=Paired.length r
end
theorem F7 {P:Program} {w:World} {k:Key} {u:Value} (r:RelV (kV k) u):(dR P w).is k u=true:=by
 cases k with
 | inl i=>obtain⟨t,e⟩:=(show ∃t,u=Value.int i t from r);subst e;exact Bm P w i t
 | inr x=>obtain⟨t,e⟩:=(show ∃t,u=Value.str x t from r);subst e;exact Bl P w x t
theorem za {P:Program} {w:World}:∀{ks:List Key} {us:List Value},Vals (ks.map kV) us->ItemsAre (dR P w) ks us
 | [],_,r=>by rw[List.map_nil] at r;cases r;exact .nil
 | k::ks,_,r=>by
  rw[List.map_cons] at r
  cases r with
  | cons h t=>exact .cons (F7 h) (za t)
section
variable {P:Program} {w:World} {H:Hp} {h:Heap} {a:Addr}
theorem JI {ks:List Key} (ok:p9 P w H h) (e:H a=some (.tup (ks.map kV))):(tupleKind (dR P w)).is h ks a:=by
 obtain⟨_,its,r,o,h1,h2,n,h3⟩:=(show eU P w H h a (.tup (ks.map kV)) from ok a _ e)
 exact⟨o,its.toArray,n,h1,h2,h3,by simpa using za r⟩
end
section
variable {X:Cx} {pins:List (Addr×Obj)} {σ:St} {H:Hp} {s:Shared} {a:Addr} {y v:V} {u r:Value} {o:Option V} {A:Around} {E:Value->Shared->Prop}
theorem Inv.big (I:Inv X pins σ H s):sysModules<s.heap.objs.size:=by
 have h:mainGlobals<s.heap.objs.size:=(I.mod.glob.keeps I.bk).lt
 exact Nat.lt_trans (by decide) h
theorem HX {h':Heap} {t':Nat} {ob:HO} (I:Inv X pins σ H s) (mu:Mut (H a)) (hs:Heap.SameBut a s.heap h') (he:∃q,h'.get? a=some q) (new:eU X.prog X.w (upd H a ob) h' a ob) :
  Inv X pins σ (upd H a ob) {s with heap:=h',toks:=t'} :=
 I.write (x:=a) (e:=a) mu (.inl rfl) (fun b q hb z=>(hs.2 b hb).trans z) he new
end
section
variable {X:Cx} {pins:List (Addr×Obj)} {σ:St} {H:Hp} {s:Shared} {a:Addr} {kvs:List (Key×V)} {k:Key} {u:Value} {A:Around} {E:Value->Shared->Prop}
end
def Ig (i:Expr):Prop:=∀ov iv,subscripted i false ov iv=operate [ov,iv] (getItem ov iv)
theorem Dk {prog:Program} {w:World} {A:Around} {E:Value->Shared->Prop} {s:Shared} {env:Env} {value slice:Expr} {pos:Pos} {T id:String} {Q:Value->Shared->Prop}
  (hl:typeLookup (.type T) "__getitem__" = pure (some (.builtin id))) (hs:Ig slice)
  (h:wpAny (model prog w) A (eval value env) (fun o s₁=>wpAny (model prog w) A (eval slice env) (fun i s₂=>s₂.TypeIs o T/\wpAny (model prog w) A (getItem o i) Q E s₂) E s₁) E s) :
  wpAny (model prog w) A (eval (.Subscript value slice pos) env) Q E s:=by
 refine Subscript_ (wpAny_mono h (fun o s₁ h₁=>wpAny_mono h₁ (fun i s₂ h₂=>?_) fun _ _ x=>x) fun _ _ x=>x)
 obtain⟨hT,h₂⟩:=h₂
 unfold subscriptTail
 refine wpAny_bind ?_
 rw[getitemInPython_of_ne hT.not_modules]
 refine wpAny_bind (wpAny_specialOf hT hl ?_)
 have fin:wpAny (model prog w) A (subscripted slice false o i) (fun r s₃=>wpAny (model prog w) A (letTemporaryGo value o r >>= fun _=>pure r) Q E s₃) E s₂:=by
  rw[hs o i]
  exact wpAny_operating (wpAny_mono h₂ (fun r s₃ h₃=>wpAny_bind (wpAny_letTemporaryGo (wpAny_pure h₃))) fun _ _ x=>x)
 first
  | exact wpAny_pure (wpAny_bind fin)
  | exact wpAny_bind (wpAny_pure (wpAny_bind fin))
  | exact wpAny_bind fin
section
variable {X:Cx} {o i e value:Expr} {pos pos' tpos:Pos} {td ty tv:TE}
end
section
variable {X:Cx} {pos:Pos}
end
section
variable {X:Cx} {pins:List (Addr×Obj)} {σ:St} {H:Hp} {s:Shared} {a:Addr} {y d:V} {u r:Value} {o:Option V} {A:Around} {E:Value->Shared->Prop}
end
section
variable {X:Cx} {o e f:Expr} {apos cpos:Pos} {td ty tx:TE}
end
section
variable {X:Cx} {pins:List (Addr×Obj)} {σ:St} {H:Hp} {s:Shared} {a:Addr} {kvs:List (Key×V)} {A:Around} {E:Value->Shared->Prop}
end
section
variable {X:Cx} {pins:List (Addr×Obj)} {σ:St} {H:Hp} {s:Shared} {a:Addr} {y:V} {u:Value} {A:Around} {E:Value->Shared->Prop}
end
end L2
namespace L2
open PySem PySem.Spec PyProof.Rows
section
variable {prog:Program} {w:World} {A:Around} {E:Value->Shared->Prop}
end
section
variable {X:Cx}
end
end L2
namespace L2
open PySem PySem.Spec PyProof.Rows
section
variable {X:Cx} {pins:List (Addr×Obj)} {σ:St} {H:Hp} {s:Shared} {h':Heap}
theorem Inv.Em {t':Nat} {ch:List Addr} {T:Addr} {ob:HO} (I:Inv X pins σ H s) (k:∀b o,b∉ch->s.heap.get? b=some o->h'.get? b=some o) (hf:∀b∈ch,yt X pins H b) (hT:s.heap.objs.size<=T)
  (new:eU X.prog X.w (upd H T ob) h' T ob):Inv X pins σ (upd H T ob) {s with heap:=h',toks:=t'}:=by
 have hn:H T=none:=I.dz.fresh hT
 have nit:∀b u,H b=some u->b∉ch:=fun b u e z=>by
  have q:=(hf b z).1
  rw[q] at e;cases e
 refine I.step (g':=s.gens) (d':=s.drawn) (ch:=ch) (fun b hb=>⟨(hf b hb).2.2.2.1,(hf b hb).2.1,(hf b hb).2.2.2.2.1,(hf b hb).2.2.2.2.2⟩) (fun b o _ _ hc e _=>k b o hc e) (fun b o _ _ hc e _=>⟨o.slots,k b o hc e⟩)
  (fun b o _ e n=>?_) (fun b o hc e=>⟨o,k b o hc e⟩) (fun b xs e=>?_) (fun b o u e=>?_) (fun b ps e=>⟨#[],?_⟩) (fun m hm=>?_) (fun b u e=>?_) I.bare
 ·rw[aE (Nat.ne_of_lt (Nat.lt_of_lt_of_le (Heap.lt_size e) hT))];exact n
 ·rw[aE (ay e hn)];exact e
 ·rw[aE (ay e hn)];exact e
 ·rw[aE (ay e hn),e];simp
 ·obtain⟨o,es,ep,ho,r⟩:=hm
  exact⟨o,es,ep,k _ o (fun z=>(hf _ z).2.1 rfl) ho,r⟩
 ·by_cases hb:b=T
  ·subst hb
   rw[ae] at e
   cases e
   exact new
  ·rw[aE hb] at e
   refine(I.dz b u e).Cn (fun c v hc q=>k c v ?_ q) (fun c q=>by rw[aE (ay q hn)];exact q) fun c xs q=>by rw[aE (ay q hn)];exact q
   rcases hc with z|z
   ·rw[z];exact nit b u e
   ·exact nit c _ z
end
section
variable {X:Cx}
theorem FT {tg:Expr} {pins:List (Addr×Obj)} {σ:St} {H:Hp} {s:Shared} {R:It->Hp->Prop} {J:It} {tn:Nat->Heap->Prop} {tk:Nat} (I:Inv X pins σ H s) (o:Obj)
  (T:Turn X.prog X.w X.K tg J [s.heap.objs.size] s.heap.objs.size tn) (st:tn 0 (s.heap.push o)) (q:R J H):PIE X pins σ tg R (.ref s.heap.objs.size) {s with heap:=s.heap.push o,toks:=tk}:=by
 refine⟨s.heap.objs.size,[s.heap.objs.size],tn,J,H,rfl,I.kept fun b ob e=>Heap.get?_push_of_some _ e,T,st,fun b hb=>?_,q⟩
 have e:b=s.heap.objs.size:=by simpa using hb
 subst e
 exact I.E8 (Nat.le_refl _) (I.dz.fresh (Nat.le_refl _))
end
section
variable {X:Cx} {tg:Expr}
end
section
variable {X:Cx} {tg:Expr}
end
def Its (x:Str):It:=⟨fun i _=>i<x.cps.size,fun i H v H'=>H'=H/\∃c,x.cps[i]?=some c/\v=.str ⟨#[c]⟩,fun i _=>x.cps.size<=i⟩
theorem AD {P:Program} {w:World} {K:PySem.W.Frag} {tg:Expr} (it:Addr) (x:Str) (t:Tok) (ty:String) (hty:ty = "str_ascii_iterator" \/ ty = "str_iterator") :
  Turn P w K tg (Its x) [it] it (fun i h=>h.IsStrIter it ty x t i) where
 mem:=by simp
 obj:=fun i h st b hb=>by
  have e:b=it:=by simpa using hb
  subst e
  obtain⟨o,e,c,d⟩:=st
  exact⟨o,e,fun v z=>by rw[d] at z;cases z⟩
 keep:=fun i h h' st k=>let ⟨o,ho,r⟩:=st;⟨o,k it (by simp) o ho,r⟩
 item:=by
  intro X hP hw hK hc i pins s σ H E I hf st hg
  subst hP hw hK
  obtain⟨f0,f1,f2,f3,f4,f5⟩:=hf it (by simp)
  have W:Walks X.prog X.w X.A it [it] [it] x.cps.size (SignAt x) (fun i h=>h.IsStrIter it ty x t i):=by
   rcases hty with e|e
   ·rw[e];exact Walks.strAscii (I.ok.hd hc) it x t
   ·rw[e];exact Walks.strWide (I.ok.hd hc) it x t
  have hno:["enumerate","zip","dict_itemiterator","dict_reverseitemiterator","odict_iterator","itertools.zip_longest","itertools.pairwise"].contains ty=false:=by
   rcases hty with e|e
   ·rw[e];decide
   ·rw[e];decide
  refine W.item i s _ _ hg st fun v h' tk hv st' kk=>?_
  obtain⟨c,u,hcx,rfl⟩:=hv
  have I1:Inv X pins σ H {s with heap:=h',toks:=tk}:=I.turned (fun b o hb e=>kk b o (by simpa using hb) e) f0 f1 f3 f4 f5
  obtain⟨oi,e,cc,dd⟩:=id st'
  exact⟨_,rfl,DI (s:={s with heap:=h',toks:=tk}) e cc dd hno ⟨.str ⟨#[c]⟩,H,I1,⟨u,rfl⟩,⟨rfl,c,hcx,rfl⟩,st',fun b hb=>(hf b hb).1⟩⟩
 done:=by
  intro X hP hw hK hc i pins s σ H E I hf st hg
  subst hP hw hK
  obtain⟨f0,f1,f2,f3,f4,f5⟩:=hf it (by simp)
  have hx:x.cps[i]?=none:=Array.getElem?_eq_none hg
  rcases hty with e|e
  ·rw[e] at st
   exact wpAny_pyNext_ascii_end (I.ok.hd hc) st hx fun h' eb=>⟨rfl,I.turned (t':=s.toks) (fun b o hb e=>eb b o hb e) f0 f1 f3 f4 f5⟩
  ·rw[e] at st
   exact wpAny_pyNext_wide_end (I.ok.hd hc) st hx fun h' eb=>⟨rfl,I.turned (t':=s.toks) (fun b o hb e=>eb b o hb e) f0 f1 f3 f4 f5⟩
 self:=fun A i s Q E st h=>by
  rcases hty with e|e
  ·rw[e] at st;exact wpAny_pyIter_striter_ascii st h
  ·rw[e] at st;exact wpAny_pyIter_striter_wide st h
def iStr (te:TE):TI:=fun σ H R=>te σ H fun v H1=>∃x,v=.str x/\R (Its x) H1
theorem FR {X:Cx} {tg e:Expr} {te:TE} (he:PE X e te):PI X tg e (iStr te):=by
 intro pins s σ H R I h
 refine eS (he pins s σ H _ I h) fun v s1 ⟨y,H1,I1,r1,x,ex,q⟩=>?_
 subst ex
 obtain⟨t,rfl⟩:=r1
 cases ha:x.cps.all (·<128)
 ·exact wpAny_pyIter_wide ha (FT (tk:=s1.toks) I1 _ (AD _ x t "str_iterator" (.inr rfl)) ⟨_,Heap.get?_push_size _ rfl,rfl,rfl⟩ q)
 ·exact wpAny_pyIter_ascii ha (FT (tk:=s1.toks) I1 _ (AD _ x t "str_ascii_iterator" (.inl rfl)) ⟨_,Heap.get?_push_size _ rfl,rfl,rfl⟩ q)
section
variable {prog:Program} {w:World} {A:Around} {E:Value->Shared->Prop} {s:Shared}
end
section
variable {X:Cx} {pins:List (Addr×Obj)} {σ:St} {H:Hp} {s:Shared} {d:Addr} {o:Obj}
end
section
variable {P:Program} {w:World} {K:PySem.W.Frag} {tg:Expr} {d:Addr} {o:Obj} {es:Array DictEntry} {ep:Nat}
end
section
variable {X:Cx} {tg e:Expr} {td:TE} {apos cpos:Pos}
end
def Ite (K:PySem.W.Frag) (a:Addr):It :=
 ⟨fun i H=>∃(xs:List V) (x:V),bM K H a xs/\xs[i]?=some x,fun i H v H'=>∃T x,v=.ref T/\H T=none/\H'=upd H T (.tup [.int (i:Nat),x])/\∀xs,bM K H a xs->xs[i]?=some x,fun i H=>∃xs:List V,bM K H a xs/\xs.length<=i⟩
theorem Eo {P:Program} {w:World} {K:PySem.W.Frag} {elts:List Expr} {kk:Nat} {tpos:Pos} (a e it:Addr) :
  Turn P w K (.Tuple elts kk tpos) (Ite K a) [e,it] e (fun i h=>(∃old,IsEnum h e it ((i:Nat):Int) old)/\h.IsListIter it a i/\e≠it) where
 mem:=by simp
 obj:=fun i h st b hb=>by
  obtain⟨⟨old,he⟩,⟨o,ho,hc,hd⟩,_⟩:=st
  have e':b=e\/b=it:=by simpa using hb
  rcases e' with z|z
  ·rw[z];exact⟨_,he,fun v q=>nomatch q⟩
  ·rw[z];exact⟨o,ho,fun v q=>by rw[hd] at q;cases q⟩
 keep:=fun i h h' st k=>let ⟨⟨old,he⟩,hi,hne⟩:=st;⟨⟨old,k e (by simp) _ he⟩,hi.at fun o q=>k it (by simp) o q,hne⟩
 item:=by
  intro X hP hw hK hc i pins s σ H E I hf st hg
  subst hP hw hK
  obtain⟨⟨old,he⟩,hit,hne⟩:=st
  obtain⟨xs,x,hq,hx⟩:=hg
  obtain⟨its,rv,p,hz⟩:=I.list hq
  obtain⟨u,hu,ru⟩:=rv.get hx
  have hel:e<s.heap.objs.size:=Heap.lt_size he
  have hil:it<s.heap.objs.size:=by obtain⟨_,q,_⟩:=hit;exact Heap.lt_size q
  refine wpAny_pyNext_enum_item he hit p.isList (x:=u) (by simpa using hu) hne fun h' ho hit' hT hsz hk=>?_
  refine⟨_,rfl,wpAny_letOwnedTupleGo_enum (s:={s with heap:=h',toks:=s.toks+1}) ho fun h'' he' sb=>?_⟩
  have hT2:h''.get? s.heap.objs.size=some {cls:=.type "tuple",data:=.seq #[.int i s.toks,u]}:=(sb.2 _ (Nat.ne_of_gt hel)).trans hT
  have new:eU X.prog X.w (upd H s.heap.objs.size (.tup [.int (i:Nat),x])) h'' s.heap.objs.size (.tup [.int (i:Nat),x]) :=
   ⟨by show 2<=sizeLine;decide,[.int i s.toks,u],.cons ⟨_,rfl⟩ (.cons ru .nil),⟨_,hT2,rfl,_,rfl⟩⟩
  have I1:Inv X pins σ (upd H s.heap.objs.size (.tup [.int (i:Nat),x])) {s with heap:=h'',toks:=s.toks+1} :=
   I.Em (ch:=[e,it]) (fun b ob hb q=>(sb.2 b (fun z=>hb (by simp[z]))).trans (hk b ob (fun z=>hb (by simp[z])) (fun z=>hb (by simp[z])) q)) hf (Nat.le_refl _) new
  refine⟨.ref s.heap.objs.size,_,I1,rfl,⟨_,x,rfl,I.dz.fresh (Nat.le_refl _),rfl,fun ys hy=>by rw[I.Bn hy hq];exact hx⟩,⟨⟨u,?_⟩,hit'.at fun o q=>(sb.2 it (Ne.symm hne)).trans q,hne⟩,fun b hb=>?_⟩
  ·have e1:((i+1:Nat):Int)=(i:Int)+1:=by omega
   rw[e1];exact he'
  ·have hb':b<s.heap.objs.size:=by
    have e':b=e\/b=it:=by simpa using hb
    rcases e' with z|z
    ·rw[z];exact hel
    ·rw[z];exact hil
   rw[aE (Nat.ne_of_lt hb')]
   exact(hf b hb).1
 done:=by
  intro X hP hw hK hc i pins s σ H E I hf st hg
  subst hP hw hK
  obtain⟨⟨old,he⟩,hit,hne⟩:=st
  obtain⟨xs,hq,hx⟩:=hg
  obtain⟨its,rv,p,hz⟩:=I.list hq
  obtain⟨f0,f1,f2,f3,f4,f5⟩:=hf it (by simp)
  have hl:=rv.length
  exact wpAny_pyNext_enum_end (I.ok.hd hc) he hit p.isList (by simp;omega) fun h' eb=>⟨rfl,I.turned (t':=s.toks) (fun b o hb q=>eb b o hb q) f0 f1 f3 f4 f5⟩
 self:=fun A i s Q E st h=>let ⟨⟨_,he⟩,_⟩:=st;wpAny_pyIter_enum he h
def iEnum (K:PySem.W.Frag) (ta:TA):TI:=fun σ H R=>ta σ H fun vs H1=>∃a xs,vs=[.ref a]/\bM K H1 a xs/\R (Ite K a) H1
theorem Hy {X:Cx} {e:Expr} {ta:TA} {p pos tpos:Pos} {elts:List Expr} {kk:Nat} (hg:Gl X "enumerate") (hm:X.mg "enumerate" = none) (ha:PA X [e] ta) (hs:starEach [e] X.env=[(false,eval e X.env)]:=by rfl) :
  PI X (.Tuple elts kk tpos) (.Call (.Name "enumerate" p) [e] [] pos) (iEnum X.K ta):=by
 intro pins s σ H R I h
 refine Call_ (xK I hg hm boot_enumerate (PyProof.Rows.callWith_type1 (eS (ha pos pins s σ H _ I h) fun us s1 ⟨vs,H1,I1,r1,q1⟩=>?_) hs rfl))
 obtain⟨a,xs,ex,hq,q⟩:=q1
 subst ex
 cases r1 with
 | cons r rr =>
  cases rr
  cases r
  obtain⟨its,rv,p',hz⟩:=I1.list hq
  refine call_enumerate_list p'.isList fun h' he hit hsz hk=>wpAny_pyIter_enum he ?_
  have I2:Inv X pins σ H1 {s1 with heap:=h'}:=I1.kept (t':=s1.toks) hk
  refine⟨s1.heap.objs.size+1,[s1.heap.objs.size+1,s1.heap.objs.size],_,_,H1,rfl,I2,Eo a (s1.heap.objs.size+1) s1.heap.objs.size,⟨⟨.none,he⟩,hit,Nat.succ_ne_self _⟩,fun b hb=>?_,q⟩
  have e':b=s1.heap.objs.size+1\/b=s1.heap.objs.size:=by simpa using hb
  have hle:s1.heap.objs.size<=b:=by
   rcases e' with z|z
   ·rw[z];exact Nat.le_add_right _ _
   ·rw[z];exact Nat.le_refl _
  exact I1.E8 hle (I1.dz.fresh hle)
end L2
section
namespace Bits
open PySem PyProof.Rows
end Bits
end
section
namespace TL
open PySem PySem.Builtin PySem.Builtin.Str PySem.StrLaws
end TL
end
namespace L2
open PySem PySem.Spec PyProof.Rows
section
variable {X:Cx} {pins:List (Addr×Obj)} {σ:St} {H:Hp} {s:Shared} {Q:VK}
end
section
variable {X:Cx}
end
section
variable {X:Cx} {o e:Expr} {to te:TE}
end
end L2
namespace L2
open PySem PySem.Spec PyProof.Rows
section
variable {X:Cx}
end
end L2
namespace Att
open PySem PySem.W PySem.Calls PyProof.Rows
section
variable {prog:Program} {w:World} {A:Around} {E:Value->Shared->Prop} {s:Shared} {K:Frag}
end
end Att
namespace L2
open PySem PySem.Spec PyProof.Rows
end L2
namespace L2
open PySem PySem.Spec PyProof.Rows
end L2
namespace L2
open PySem PySem.Spec PyProof.Rows
def inClass (s:Stmt) (j:Nat):Stmt:=match s with
 | .ClassDef _ _ _ body _ _ _ _ _ _ _=>body.getD j (.Pass ⟨0,0,0,0⟩)
 | _=>.Pass ⟨0,0,0,0⟩
def jY (s:Stmt):Arguments:=match s with
 | .FunctionDef _ a _ _ _ _ _ _ _ _=>a
 | _=>{posonlyargs:=[],args:=[],vararg:=none,kwonlyargs:=[],kw_defaults:=[],kwarg:=none,defaults:=[]}
def gS (s:Stmt):List Stmt:=match s with
 | .FunctionDef _ _ b _ _ _ _ _ _ _=>b
 | _=>[]
def aA (s:Stmt):Scope:=match s with
 | .FunctionDef _ _ _ _ _ _ sc _ _ _=>sc
 | _=>{kind:=.function,names:=[],isGenerator:=false,isCoroutine:=false}
abbrev eV:B9:=fun _ _ _ _ _ _=>False
abbrev E0:XK:=fun _ _ _=>False
theorem aJ {X:Cx}:Passes eV X E0:=fun _ _ _ _ _ _ _ h=>h.elim
structure dS (K:PySem.W.Frag) (x qual:Str) (st:Stmt) (f:Addr) (fd:FuncData):Prop where
 ex:∃(oc:Value) (od:Option Addr) (kV doc pm:Value) (an:Option Addr) (cdv ct:Value) (osl:Array (Option Value)),
  fd=PySem.W.fnOf x qual (jY st) (gS st) (aA st) .none kV doc pm an cdv ct/\K.lookup f=some ⟨oc,od,.func fd,osl⟩/\PySem.W.codeIn K cdv qual=true
 kp:PySem.W.keepIn K (.ref f)=true
section
variable {P:Program} {w:World} {K:PySem.W.Frag} {mg:Str->Option Value} {base:Heap}
theorem dS.ok {x qual:Str} {st:Stmt} {f:Addr} {fd:FuncData} {N ps:List Str} {k:Nat} {sp:Sp} (F:dS K x qual st f fd) (S:aD N ps (aA st)) (len:∀vs H Q E,sp vs H Q E->vs.length=ps.length)
  (hbody:∀(cdv:Value) (A:Around) (outer:List Env) (s:Shared) (H:Hp) (vs:List V) (Q:VK) (E:XK),iJ k (A.deeper (envOfC qual (aA st) s.heap.objs.size f cdv))->sp vs H Q E ->
   ∃t,Ce (C1 eV P w K mg base N qual (aA st) f cdv A outer s H E).nox (gS st) t/\t {nx:=fun _ H'=>Q .bo H',rt:=Q} (start N vs) H):aS P w K mg base eV (k+1) f fd ps sp:=by
 obtain⟨oc,od,kV,doc,pm,an,cdv,ct,osl,rfl,lk,hcd⟩:=F.ex
 refine ID lk hcd S len fun A outer s H vs Q E hr hsp=>?_
 obtain⟨t,h,q⟩:=hbody cdv A outer s H vs Q E hr hsp
 exact⟨t,h.nox,q⟩
theorem dS.binds {x qual:Str} {st:Stmt} {f:Addr} {fd:FuncData} {ps:List Str} (F:dS K x qual st f fd)
  (h:∀(kV doc pm:Value) (an:Option Addr) (cdv ct:Value) (us:List Value),us.length=ps.length->bindArgs (PySem.W.fnOf x qual (jY st) (gS st) (aA st) .none kV doc pm an cdv ct) ⟨us,[]⟩=pure (ps.zip us)):Binds K fd ps []:=by
 obtain⟨oc,od,kV,doc,pm,an,cdv,ct,osl,rfl,lk,hcd⟩:=F.ex
 exact .all (h kV doc pm an cdv ct)
theorem Ap {x qual:Str} {st:Stmt} {f:Addr} {oc:Value} {od an:Option Addr} {osl:Array (Option Value)} {kV doc pm cdv ct:Value} (l:K.lookup f=some ⟨oc,od,.func (PySem.W.fnOf x qual (jY st) (gS st) (aA st) .none kV doc pm an cdv ct),osl⟩)
  (c:PySem.W.codeIn K cdv qual=true) (k:PySem.W.keepIn K (.ref f)=true):dS K x qual st f (PySem.W.fnOf x qual (jY st) (gS st) (aA st) .none kV doc pm an cdv ct):=⟨⟨oc,od,kV,doc,pm,an,cdv,ct,osl,rfl,l,c⟩,k⟩
end
section
variable {X:Cx}
theorem pv (i:Nat) {x:Str} {pos:Pos} (hN:X.N[i]?=some x:=by rfl) (hv:Vis X.env.scope x:=by first|exact Or.inl rfl|exact Or.inr (Or.inl rfl)|exact Or.inr (Or.inr rfl)) (hd:(x==("__debug__" : Str))=false:=by decide)
  (hcd:(x==("__classdict__" : Str))=false:=by decide):PE X (.Name x pos) (IY i):=JA hN hv hd hcd
end
theorem mw {A B:Prop} (h:B):if false=true then A else B:=by
 rw[if_neg Bool.false_ne_true]
 exact h
theorem oY {A B:Prop} (h:A):if true=true then A else B:=by
 rw[if_pos rfl]
 exact h
section
variable {κ:Type} [DecidableEq κ]
theorem DA:∀{l:List κ} {k:κ},l.Nodup->¬k∈l->(l++[k]).Nodup
 | [],k,_,_=>by simp
 | a::r,k,h,hk=>by
  obtain⟨h1,h2⟩:=List.nodup_cons.mp h
  show(a::(r++[k])).Nodup
  refine List.nodup_cons.mpr ⟨fun m=>?_,DA h2 fun m=>hk (List.mem_cons.mpr (Or.inr m))⟩
  rcases List.mem_append.mp m with q|q
  ·exact h1 q
  ·exact hk (List.mem_cons.mpr (Or.inl (List.mem_singleton.mp q).symm))
end
theorem at_of {xs:List V} {z:Int} {j:Nat} {v:V} (e:z=(j:Int)) (h:xs[j]?=some v):Cd xs z=some v:=by
 rw[e]
 exact Ib h
theorem Iy {α:Type} {l:List α} (hN:l.Nodup) {i j:Nat} {x:α} (a:l[i]?=some x) (b:l[j]?=some x):i=j:=by
 obtain⟨h1,e1⟩:=List.getElem?_eq_some_iff.mp a
 obtain⟨h2,e2⟩:=List.getElem?_eq_some_iff.mp b
 exact(List.getElem_inj hN).mp (e1.trans e2.symm)
end L2
section
set_option maxHeartbeats 2000000
namespace L2
open PySem PySem.Spec PyProof.Rows
open PySem.W (WData Codec OpenSpec Well WellAll ReadsW ReadsAllW)
mutual
inductive Dw (K:PySem.W.Frag) (H:Hp):V->WData->Prop
 | bo:Dw K H .bo .none
 | bl (b:Bool):Dw K H (.bl b) (.bool b)
 | int (i:Int):Dw K H (.int i) (.int i)
 | str (x:Str):Dw K H (.str x) (.str x)
 | C9 (b:Array UInt8):Dw K H (.C9 b) (.bytes b.toList)
 | lst {a:Addr} {xs:List V} {ds:List WData}:bM K H a xs->pV K H xs ds->Dw K H (.ref a) (.list ds)
 | tup {a:Addr} {xs:List V} {ds:List WData}:dM K H a xs->pV K H xs ds->Dw K H (.ref a) (.tuple ds)
inductive pV (K:PySem.W.Frag) (H:Hp):List V->List WData->Prop
 | nil:pV K H [] []
 | cons {v:V} {vs:List V} {d:WData} {ds:List WData}:Dw K H v d->pV K H vs ds->pV K H (v::vs) (d::ds)
end
theorem DP {K:PySem.W.Frag} {H:Hp}:∀ns:List Int,pV K H (ns.map V.int) (ns.map WData.int)
 | []=>.nil
 | n::r=>.cons (.int n) (DP r)
theorem DH {K:PySem.W.Frag} {H:Hp}:∀(ns:List Int) (xs:List V),pV K H xs (ns.map WData.int)->xs=ns.map V.int
 | [],xs,h=>by
  cases h
  rfl
 | n::r,xs,h=>by
  cases h with
  | cons h1 h2 =>
   cases h1
   rw[DH r _ h2]<;>rfl
section
variable {P:Program} {w:World} {K:PySem.W.Frag} {H:Hp} {h:Heap} {R:PySem.W.WRecords} {cl:Str->Option Addr}
theorem Jb {a:Addr} {xs:List V} (dz:p9 P w H h) (KX:K.In h) (q:bM K H a xs):∃(its:List Value) (o:Obj) (n:Nat),Vals xs its/\h.get? a=some o/\o.cls=.type "list" /\ o.data=.seq its.toArray n:=by
 rcases q with q|⟨o,its,n,e,hc,_,hd,_,hv⟩
 ·obtain⟨_,its,n,hv,e⟩:=(show eU P w H h a (.lst xs) from q.ok dz)
  exact⟨its,_,n,hv,e,rfl,rfl⟩
 ·exact⟨its.toList,o,n,hv,KX _ _ e,hc,by simp[hd]⟩
theorem Ja {a:Addr} {xs:List V} (dz:p9 P w H h) (KX:K.In h) (q:dM K H a xs):∃(its:List Value) (o:Obj) (n:Nat),Vals xs its/\h.get? a=some o/\o.cls=.type "tuple" /\ o.data=.seq its.toArray n:=by
 rcases q with q|⟨o,its,n,e,hc,hd,_,hv⟩
 ·obtain⟨_,its,hv,o,e,hc,n,hd⟩:=(show eU P w H h a (.tup xs) from q.ok dz)
  exact⟨its,o,n,hv,e,hc,hd⟩
 ·exact⟨its.toList,o,n,hv,KX _ _ e,hc,by simp[hd]⟩
mutual
theorem Dw.reads (dz:p9 P w H h) (KX:K.In h):∀(d:WData) (v:V) (u:Value),Dw K H v d->RelV v u->∃as,ReadsW R cl h u d as
 | .none,_,_,x,r=>by
  cases x
  cases r
  exact⟨_,ReadsW.none⟩
 | .bool b,_,_,x,r=>by
  cases x
  cases r
  exact⟨_,ReadsW.bool b⟩
 | .int i,_,_,x,r=>by
  cases x
  obtain⟨t,rfl⟩:=r
  exact⟨_,ReadsW.int i t⟩
 | .str s,_,_,x,r=>by
  cases x
  obtain⟨t,rfl⟩:=r
  exact⟨_,ReadsW.str s t⟩
 | .bytes b,_,_,x,r=>by
  cases x
  obtain⟨t,rfl⟩:=r
  exact⟨_,ReadsW.bytes _ t⟩
 | .list ds,_,_,x,r=>by
  cases x with
  | lst hs ha =>
   cases r
   obtain⟨its,o,n,rv,ho,hc,hd⟩:=Jb dz KX hs
   obtain⟨as,hr⟩:=Dw.readsAll dz KX ds _ its ha rv
   exact⟨_,ReadsW.list ho hc hd hr⟩
 | .tuple ds,_,_,x,r=>by
  cases x with
  | tup hs ha =>
   cases r
   obtain⟨its,o,n,rv,ho,hc,hd⟩:=Ja dz KX hs
   obtain⟨as,hr⟩:=Dw.readsAll dz KX ds _ its ha rv
   exact⟨_,ReadsW.tuple ho hc hd hr⟩
 | .float _,_,_,x,_=>by cases x
 | .dict _,_,_,x,_=>by cases x
 | .bytearray _,_,_,x,_=>by cases x
 | .set _,_,_,x,_=>by cases x
 | .frozenset _,_,_,x,_=>by cases x
 | .obj _ _,_,_,x,_=>by cases x
theorem Dw.readsAll (dz:p9 P w H h) (KX:K.In h):∀(ds:List WData) (vs:List V) (us:List Value),pV K H vs ds->Vals vs us->∃as,ReadsAllW R cl h us ds as
 | [],_,_,x,r=>by
  cases x
  cases r
  exact⟨_,ReadsAllW.nil⟩
 | d::ds,_,_,x,r=>by
  cases x with
  | cons h1 h2 =>
   cases r with
   | cons r1 r2 =>
    obtain⟨as,q1⟩:=Dw.reads dz KX d _ _ h1 r1
    obtain⟨bs,q2⟩:=Dw.readsAll dz KX ds _ _ h2 r2
    exact⟨_,ReadsAllW.cons q1 q2⟩
end
end
mutual
def Dt:WData->Bool
 | .none=>true
 | .bool _=>true
 | .int _=>true
 | .str _=>true
 | .bytes _=>true
 | .list xs=>wq xs
 | .tuple xs=>wq xs
 | _=>false
def wq:List WData->Bool
 | []=>true
 | x::r=>Dt x&&wq r
end
theorem AW {α:Type} {f:α->WData} (h:∀a,Dt (f a)=true):∀l:List α,wq (l.map f)=true
 | []=>rfl
 | x::r=>by
  show(Dt (f x)&&wq (r.map f))=true
  rw[h x,AW h r]<;>rfl
theorem qy:∀(c:Codec) (a:c.denote),Dt (c.enc a)=true
 | .unit,_=>rfl
 | .bool,_=>rfl
 | .int _ _,_=>rfl
 | .nat _ _,_=>rfl
 | .u8,_=>rfl
 | .bytes _ _,_=>rfl
 | .text _ _ _ _,_=>rfl
 | .list _ _ c,a=>AW (fun x=>qy c x) a
 | .pair c d,a=>by
  show(Dt (c.enc a.1)&&(Dt (d.enc a.2)&&true))=true
  rw[qy c a.1,qy d a.2]<;>rfl
 | .triple c d e,a=>by
  show(Dt (c.enc a.1)&&(Dt (d.enc a.2.1)&&(Dt (e.enc a.2.2)&&true)))=true
  rw[qy c a.1,qy d a.2.1,qy e a.2.2]<;>rfl
 | .option c,none=>rfl
 | .option c,some x=>qy c x
theorem yZ:∀(cs:List Codec) (a:Codec.denoteAll cs),wq (Codec.encAll cs a)=true
 | [],_=>rfl
 | c::cs,a=>by
  show(Dt (c.enc a.1)&&wq (Codec.encAll cs a.2))=true
  rw[qy c a.1,yZ cs a.2]<;>rfl
theorem sT:∀{xs:List WData} {d:WData},d∈xs->d.weight<=WData.weightAll xs
 | [],d,h=>absurd h (by simp)
 | x::r,d,h=>by
  show d.weight<=x.weight+1+WData.weightAll r
  rcases List.mem_cons.mp h with e|m
  ·rw[e]
   omega
  ·have z:=sT m
   omega
def toV:Value->V
 | .none=>.bo
 | .bool b=>.bl b
 | .int i _=>.int i
 | .str x _=>.str x
 | .bytes b _=>.C9 b
 | .ref a=>.ref a
 | _=>.bo
def Fe (A:List Addr):Value->Prop
 | .none=>True
 | .bool _=>True
 | .int _ _=>True
 | .str _ _=>True
 | .bytes _ _=>True
 | .ref a=>a∈A
 | _=>False
theorem Fe.mono {A B:List Addr} (h:∀a∈A,a∈B):∀{u:Value},Fe A u->Fe B u:=fun {u} x=>by
 cases u with
 | ref a=>exact h a x
 | none=>trivial
 | bool b=>trivial
 | int i t=>trivial
 | str s t=>trivial
 | bytes b t=>trivial
 | _=>exact False.elim x
theorem FE {A:List Addr} {u:Value} (x:Fe A u):RelV (toV u) u:=by
 cases u with
 | ref a=>rfl
 | none=>rfl
 | bool b=>rfl
 | int i t=>exact⟨t,rfl⟩
 | str s t=>exact⟨t,rfl⟩
 | bytes b t=>exact⟨t,rfl⟩
 | _=>exact False.elim x
theorem nS {A:List Addr}:∀{vs:List Value},(∀u∈vs,Fe A u)->Vals (vs.map toV) vs
 | [],_=>.nil
 | u::r,h=>.cons (FE (h u (List.mem_cons_self ..))) (nS fun x hx=>h x (List.mem_cons_of_mem _ hx))
def pW (h:Heap) (A:List Addr) (a:Addr):Prop:=∃vs:List Value,vs.length<=sizeLine/\(∀u∈vs,Fe A u) /\
 (h.get? a=some {cls:=.type "list",data:=.seq vs.toArray}\/h.get? a=some {cls:=.type "tuple",data:=.seq vs.toArray})
theorem pW.mono {h:Heap} {A B:List Addr} {a:Addr} (k:∀a∈A,a∈B) (x:pW h A a):pW h B a:=by
 obtain⟨vs,h1,h2,h3⟩:=x
 exact⟨vs,h1,fun u hu=>(h2 u hu).mono k,h3⟩
theorem my {P:Params} {h:Heap}:∀{vs:List Value} {ds:List WData},WellAll P h vs ds->vs.length=ds.length
 | _,_,.nil=>rfl
 | _,_,.cons _ b=>by
  show _+1=_+1
  rw[my b]
theorem yU {P:Params} {h:Heap} {v:Value} {ds:List WData} (x:Well P h v (.list ds)):∃(a:Addr) (vs:List Value),v=.ref a/\h.get? a=some {cls:=.type "list",data:=.seq vs.toArray}/\WellAll P h vs ds:=by
 cases x with
 | list ho hall=>exact⟨_,_,rfl,ho,hall⟩
theorem w9 {P:Params} {h:Heap} {v:Value} {ds:List WData} (x:Well P h v (.tuple ds)):∃(a:Addr) (vs:List Value),v=.ref a/\h.get? a=some {cls:=.type "tuple",data:=.seq vs.toArray}/\WellAll P h vs ds:=by
 cases x with
 | tuple ho hall=>exact⟨_,_,rfl,ho,hall⟩
theorem yV {P:Params} {h:Heap} {us:List Value} {d:WData} {ds:List WData} (x:WellAll P h us (d::ds)):∃(v:Value) (vs:List Value),us=v::vs/\Well P h v d/\WellAll P h vs ds:=by
 cases x with
 | cons a b=>exact⟨_,_,rfl,a,b⟩
theorem DC {n:Nat} (h:n<=1048576):n<=sizeLine:=Nat.le_trans h (by decide)
section
variable {P:Params} {h:Heap}
mutual
theorem GK:∀(d:WData) (v:Value),Well P h v d->Dt d=true->d.weight<=1048576->∃A:List Addr,Fe A v/\∀a∈A,pW h A a
 | .none,_,x,_,_=>by
  cases x
  exact⟨[],trivial,fun a m=>absurd m (by simp)⟩
 | .bool b,_,x,_,_=>by
  cases x
  exact⟨[],trivial,fun a m=>absurd m (by simp)⟩
 | .int i,_,x,_,_=>by
  cases x
  exact⟨[],trivial,fun a m=>absurd m (by simp)⟩
 | .str s,_,x,_,_=>by
  cases x
  exact⟨[],trivial,fun a m=>absurd m (by simp)⟩
 | .bytes b,_,x,_,_=>by
  cases x
  exact⟨[],trivial,fun a m=>absurd m (by simp)⟩
 | .list ds,_,x,p,z=>by
  obtain⟨a,vs,rfl,ho,hall⟩:=yU x
  have z2:WData.weightAll ds<=1048576:=z
  obtain⟨A,h1,h2⟩:=uK ds _ hall p fun d hd=>Nat.le_trans (sT hd) z2
  have k:∀b∈A,b∈a::A:=fun b hb=>List.mem_cons_of_mem _ hb
  refine⟨a::A,List.mem_cons_self ..,fun b hb=>?_⟩
  rcases List.mem_cons.mp hb with e|m
  ·rw[e]
   exact⟨vs,DC (by rw[my hall];exact Nat.le_trans (PySem.W.length_le_weightAllW ds) z2),fun u hu=>(h1 u hu).mono k,.inl ho⟩
  ·exact(h2 b m).mono k
 | .tuple ds,_,x,p,z=>by
  obtain⟨a,vs,rfl,ho,hall⟩:=w9 x
  have z2:WData.weightAll ds<=1048576:=z
  obtain⟨A,h1,h2⟩:=uK ds _ hall p fun d hd=>Nat.le_trans (sT hd) z2
  have k:∀b∈A,b∈a::A:=fun b hb=>List.mem_cons_of_mem _ hb
  refine⟨a::A,List.mem_cons_self ..,fun b hb=>?_⟩
  rcases List.mem_cons.mp hb with e|m
  ·rw[e]
   exact⟨vs,DC (by rw[my hall];exact Nat.le_trans (PySem.W.length_le_weightAllW ds) z2),fun u hu=>(h1 u hu).mono k,.inr ho⟩
  ·exact(h2 b m).mono k
 | .float _,_,_,p,_=>Bool.noConfusion (show false=true from p)
 | .dict _,_,_,p,_=>Bool.noConfusion (show false=true from p)
 | .bytearray _,_,_,p,_=>Bool.noConfusion (show false=true from p)
 | .set _,_,_,p,_=>Bool.noConfusion (show false=true from p)
 | .frozenset _,_,_,p,_=>Bool.noConfusion (show false=true from p)
 | .obj _ _,_,_,p,_=>Bool.noConfusion (show false=true from p)
theorem uK:∀(ds:List WData) (vs:List Value),WellAll P h vs ds->wq ds=true->(∀d∈ds,d.weight<=1048576)->∃A:List Addr,(∀u∈vs,Fe A u)/\∀a∈A,pW h A a
 | [],_,x,_,_=>by
  cases x
  exact⟨[],fun u m=>absurd m (by simp),fun a m=>absurd m (by simp)⟩
 | d::ds,_,x,p,z=>by
  obtain⟨v,vs,rfl,x1,x2⟩:=yV x
  have q:Dt d=true/\wq ds=true:=Bool.and_eq_true_iff.mp p
  obtain⟨A,a1,a2⟩:=GK d v x1 q.1 (z d (List.mem_cons_self ..))
  obtain⟨B,b1,b2⟩:=uK ds vs x2 q.2 fun e he=>z e (List.mem_cons_of_mem _ he)
  have kA:∀b∈A,b∈A++B:=fun b hb=>List.mem_append.mpr (.inl hb)
  have kB:∀b∈B,b∈A++B:=fun b hb=>List.mem_append.mpr (.inr hb)
  refine⟨A++B,fun u hu=>?_,fun b hb=>?_⟩
  ·rcases List.mem_cons.mp hu with e|m
   ·rw[e]
    exact a1.mono kA
   ·exact(b1 u m).mono kB
  ·rcases List.mem_append.mp hb with m|m
   ·exact(a2 b m).mono kA
   ·exact(b2 b m).mono kB
end
end
def HN (o:Obj):Option HO:=match o.data with
 | .seq vs _=>if (o.cls==Value.type "list")=true then some (.wU o (.lst (vs.toList.map toV))) else some (.wU o (.tup (vs.toList.map toV)))
 | _=>none
def pw (K:PySem.W.Frag) (h:Heap) (A:List Addr):Hp:=fun b=>if b∈A then (if (K.lookup b).isNone=true then (h.get? b).bind HN else none) else none
def zD (H:Hp):Prop:=∀b,H b=none\/∃o u,H b=some (.wU o u)
theorem Bv (vs:List Value):HN {cls:=.type "list",data:=.seq vs.toArray}=some (.wU {cls:=.type "list",data:=.seq vs.toArray} (.lst (vs.map toV))):=by
 show(if (Value.type "list" == Value.type "list")=true then some (HO.wU {cls:=.type "list",data:=.seq vs.toArray} (.lst (vs.toArray.toList.map toV))) else some (HO.wU {cls:=.type "list",data:=.seq vs.toArray} (.tup (vs.toArray.toList.map toV))))=_
 rw[if_pos (beq_self_eq_true _)]
theorem Bu (vs:List Value):HN {cls:=.type "tuple",data:=.seq vs.toArray}=some (.wU {cls:=.type "tuple",data:=.seq vs.toArray} (.tup (vs.map toV))):=by
 show(if (Value.type "tuple" == Value.type "list")=true then some (HO.wU {cls:=.type "tuple",data:=.seq vs.toArray} (.lst (vs.toArray.toList.map toV))) else some (HO.wU {cls:=.type "tuple",data:=.seq vs.toArray} (.tup (vs.toArray.toList.map toV))))=_
 rw[if_neg (by decide)]
section
variable {P:Program} {w:World} {K:PySem.W.Frag} {h:Heap} {A:List Addr}
theorem wX {b:Addr} {o:Obj} (hb:b∈A) (hk:K.lookup b=none) (e:h.get? b=some o):pw K h A b=HN o:=by
 unfold pw
 rw[if_pos hb,hk,if_pos (show(none:Option Obj).isNone=true from rfl),e]<;>rfl
theorem HI {b:Addr} {u:HO} (q:pw K h A b=some u):b∈A/\K.lookup b=none:=by
 unfold pw at q
 by_cases hb:b∈A
 ·rw[if_pos hb] at q
  cases hk:K.lookup b with
  | none=>exact⟨hb,rfl⟩
  | some o =>
   rw[hk,if_neg (by simp)] at q
   cases q
 ·rw[if_neg hb] at q
  cases q
theorem wW (ar:∀a∈A,pW h A a) {b:Addr} {u:HO} (q:pw K h A b=some u):K.lookup b=none/\∃vs:List Value,vs.length<=sizeLine/\(∀u∈vs,Fe A u) /\
  ((h.get? b=some {cls:=.type "list",data:=.seq vs.toArray}/\u=.wU {cls:=.type "list",data:=.seq vs.toArray} (.lst (vs.map toV))) \/ (h.get? b=some {cls:=.type "tuple",data:=.seq vs.toArray}/\u=.wU {cls:=.type "tuple",data:=.seq vs.toArray} (.tup (vs.map toV)))):=by
 obtain⟨hb,hk⟩:=HI q
 obtain⟨vs,h1,h2,h3⟩:=ar b hb
 refine⟨hk,vs,h1,h2,?_⟩
 rcases h3 with e|e
 ·rw[wX hb hk e,Bv] at q
  exact .inl ⟨e,(Option.some.inj q).symm⟩
 ·rw[wX hb hk e,Bu] at q
  exact .inr ⟨e,(Option.some.inj q).symm⟩
theorem Fb (ar:∀a∈A,pW h A a):zD (pw K h A):=fun b=>by
 cases q:pw K h A b with
 | none=>exact .inl rfl
 | some u =>
  obtain⟨_,vs,_,_,⟨_,e⟩|⟨_,e⟩⟩:=wW ar q
  ·exact .inr ⟨_,_,by rw[e]⟩
  ·exact .inr ⟨_,_,by rw[e]⟩
theorem Ic (ar:∀a∈A,pW h A a):p9 P w (pw K h A) h:=fun b u q=>by
 obtain⟨_,vs,h1,h2,⟨e,rfl⟩|⟨e,rfl⟩⟩:=wW ar q
 ·exact⟨e,by rw[List.length_map];exact h1,vs,_,nS h2,e⟩
 ·exact⟨e,by rw[List.length_map];exact h1,vs,nS h2,_,e,rfl,_,rfl⟩
theorem wL {c c':Value} {vs us:List Value} (e:(some {cls:=c,data:=.seq vs.toArray}:Option Obj)=some {cls:=c',data:=.seq us.toArray}):c=c'/\vs=us:=by
 have e1:=Option.some.inj e
 have e2:c=c':=congrArg Obj.cls e1
 have e3:Data.seq vs.toArray=Data.seq us.toArray:=congrArg Obj.data e1
 injection e3 with e4
 refine⟨e2,?_⟩
 have e5:=congrArg Array.toList e4
 simpa using e5
theorem argL (KX:K.In h) (ar:∀a∈A,pW h A a) {a:Addr} {vs:List Value} (ha:a∈A) (e:h.get? a=some {cls:=.type "list",data:=.seq vs.toArray}):(∀u∈vs,Fe A u)/\bM K (pw K h A) a (vs.map toV):=by
 obtain⟨us,h1,h2,h3⟩:=ar a ha
 have hu:us=vs:=by
  rcases h3 with q|q
  ·rw[e] at q
   exact(wL q).2.symm
  ·rw[e] at q
   exact absurd (Value.type.inj (wL q).1) (by decide)
 subst hu
 refine⟨h2,?_⟩
 cases hk:K.lookup a with
 | none=>exact .inl (.inr ⟨_,by rw[wX ha hk e,Bv]⟩)
 | some o =>
  have e2:=KX a o hk
  rw[e] at e2
  obtain rfl:=Option.some.inj e2
  exact .inr ⟨_,us.toArray,_,hk,rfl,rfl,rfl,by rw[List.size_toArray];exact h1,by simpa using nS h2⟩
theorem argT (KX:K.In h) (ar:∀a∈A,pW h A a) {a:Addr} {vs:List Value} (ha:a∈A) (e:h.get? a=some {cls:=.type "tuple",data:=.seq vs.toArray}):(∀u∈vs,Fe A u)/\dM K (pw K h A) a (vs.map toV):=by
 obtain⟨us,h1,h2,h3⟩:=ar a ha
 have hu:us=vs:=by
  rcases h3 with q|q
  ·rw[e] at q
   exact absurd (Value.type.inj (wL q).1) (by decide)
  ·rw[e] at q
   exact(wL q).2.symm
 subst hu
 refine⟨h2,?_⟩
 cases hk:K.lookup a with
 | none=>exact .inl (.inr ⟨_,by rw[wX ha hk e,Bu]⟩)
 | some o =>
  have e2:=KX a o hk
  rw[e] at e2
  obtain rfl:=Option.some.inj e2
  exact .inr ⟨_,us.toArray,_,hk,rfl,rfl,by rw[List.size_toArray];exact h1,by simpa using nS h2⟩
mutual
theorem JN {Pm:Params} (KX:K.In h) (ar:∀a∈A,pW h A a):∀(d:WData) (v:Value),Well Pm h v d->Dt d=true->Fe A v->Dw K (pw K h A) (toV v) d
 | .none,_,x,_,_=>by
  cases x
  exact .bo
 | .bool b,_,x,_,_=>by
  cases x
  exact .bl b
 | .int i,_,x,_,_=>by
  cases x
  exact .int i
 | .str s,_,x,_,_=>by
  cases x
  exact .str s
 | .bytes b,_,x,_,_=>by
  cases x
  have z:=Dw.C9 (K:=K) (H:=pw K h A) b.toArray
  exact z
 | .list ds,_,x,p,hu=>by
  obtain⟨a,vs,rfl,ho,hall⟩:=yU x
  obtain⟨h2,hs⟩:=argL KX ar hu ho
  exact .lst hs (Aq KX ar ds _ hall p h2)
 | .tuple ds,_,x,p,hu=>by
  obtain⟨a,vs,rfl,ho,hall⟩:=w9 x
  obtain⟨h2,hs⟩:=argT KX ar hu ho
  exact .tup hs (Aq KX ar ds _ hall p h2)
 | .float _,_,_,p,_=>Bool.noConfusion (show false=true from p)
 | .dict _,_,_,p,_=>Bool.noConfusion (show false=true from p)
 | .bytearray _,_,_,p,_=>Bool.noConfusion (show false=true from p)
 | .set _,_,_,p,_=>Bool.noConfusion (show false=true from p)
 | .frozenset _,_,_,p,_=>Bool.noConfusion (show false=true from p)
 | .obj _ _,_,_,p,_=>Bool.noConfusion (show false=true from p)
theorem Aq {Pm:Params} (KX:K.In h) (ar:∀a∈A,pW h A a):∀(ds:List WData) (vs:List Value),WellAll Pm h vs ds->wq ds=true->(∀u∈vs,Fe A u)->pV K (pw K h A) (vs.map toV) ds
 | [],_,x,_,_=>by
  cases x
  exact .nil
 | d::ds,_,x,p,hu=>by
  obtain⟨v,vs,rfl,x1,x2⟩:=yV x
  have q:Dt d=true/\wq ds=true:=Bool.and_eq_true_iff.mp p
  exact .cons (JN KX ar d v x1 q.1 (hu _ (List.mem_cons_self ..))) (Aq KX ar ds vs x2 q.2 fun u m=>hu u (List.mem_cons_of_mem _ m))
end
end
theorem Ew {P:Program} {w:World} {K:PySem.W.Frag} {mg mb:Str->Option Value} {CX:B9} {k:Nat} {fa:Addr} {fd:FuncData} {ps:List Str} {sp:Sp} {s₁:Shared} {vals:List Value} {ds:List WData} {R:PySem.W.WRecords} {cl:Str->Option Addr} {d0:WData}
  (KX:K.In s₁.heap) (hns:s₁.heap.Ns mainGlobals mg) (hb:s₁.heap.Ns builtinsNs mb) (hbb:∀x:Str,x ≠ "__name__" -> mb x=bootBuiltins x) (hlim:s₁.heap.NoLimit) (hg:s₁.gens=#[])
  (hwl:WellAll w.params s₁.heap vals ds) (hpl:wq ds=true) (hwt:∀d∈ds,d.weight<=1048576) (hr:iJ k callerA)
  (F:∀base:Heap,K.In base->base.Ns mainGlobals mg->aS P w K mg base CX k fa fd ps sp) (hbind:∀(s:Shared) (us:List Value),us.length=ps.length->BindsTo s fd ⟨us,[]⟩ (ps.zip us)) (hlen:ds.length=ps.length)
  (hsp:∀(H:Hp) (xs:List V),zD H->pV K H xs ds->sp xs H (fun v H'=>Dw K H' v d0) fun _ _ _=>False)
  (hCX:∀H e s',CX [] H s₁ (fun _ _ _=>False) e s'->False) :
  codeAny (model P w) callerA (.call (.ref fa) ⟨vals,[]⟩) (fun r s'=>∃u as,r=.ok (.ret u)/\ReadsW R cl s'.heap u d0 as/\OldK s₁.heap s'.heap/\s'.os=s₁.os/\AllBare s'.gens) s₁:=by
 obtain⟨A,ho,ar⟩:=uK ds vals hwl hpl hwt
 have hO:zD (pw K s₁.heap A):=Fb ar
 have dz:p9 P w (pw K s₁.heap A) s₁.heap:=Ic ar
 have hS:=Aq KX ar ds vals hwl hpl ho
 have hV:=nS ho
 have hK:∀b u,pw K s₁.heap A b=some u->K.lookup b=none:=fun b u q=>(wW ar q).1
 have noA:∀{b:Addr} {o:Obj} {es:Array DictEntry} {ep:Nat},s₁.heap.get? b=some o->o.data=.dict es ep->pw K s₁.heap A b=none:=fun {b o es ep} e d=>by
  cases q:pw K s₁.heap A b with
  | none=>rfl
  | some u =>
   obtain⟨_,vs,_,_,⟨e2,_⟩|⟨e2,_⟩⟩:=wW ar q
   ·rw[e2] at e
    cases e
    have d':Data.seq vs.toArray _=Data.dict es ep:=d
    cases d'
   ·rw[e2] at e
    cases e
    have d':Data.seq vs.toArray _=Data.dict es ep:=d
    cases d'
 generalize pw K s₁.heap A=H at hO dz hS hK noA
 have base_of:∀{b:Addr} {o:Obj},s₁.heap.get? b=some o->H b=none->(An s₁.heap H).get? b=some o:=fun e n=>Gh e n
 have nsK:∀{b:Addr} {m:Str->Option Value},s₁.heap.Ns b m->(An s₁.heap H).Ns b m:=fun {b m} ⟨o,es,ep,e,d,r⟩=>⟨o,es,ep,base_of e (noA e d),d,r⟩
 have nK:∀b o,K.lookup b=some o->H b=none:=fun b o e=>by
  cases q:H b with
  | none=>rfl
  | some u =>
   rw[hK b u q] at e
   cases e
 have hKb:K.In (An s₁.heap H):=fun b o e=>base_of (KX b o e) (nK b o e)
 have hM:Mod K mg (An s₁.heap H):=⟨hKb,nsK hns,⟨mb,nsK hb,hbb⟩,let ⟨mc,h1,h2⟩:=hlim;⟨mc,nsK h1,h2⟩⟩
 have e0:Dg P w K mg (An s₁.heap H) callerA [] s₁ H:=⟨rfl,hM,fun b o e=>HH e,Nat.le_of_eq (E2 _ _),trivial,fun b hb=>absurd (show b∈([]:List Addr) from hb) (by simp),dz,.of_eq hg⟩
 have hl:vals.length=ps.length:=by rw[my hwl];exact hlen
 refine codeAny_mono ((F _ hKb (nsK hns)).run callerA [] s₁ H ⟨vals,[]⟩ vals (vals.map toV) _ _ hr e0 (hbind s₁ vals hl) hV (hsp H _ hO hS)) fun r s' x=>?_
 cases r with
 | error e=>exact(hCX H e s' x).elim
 | ok fl =>
  cases fl with
  | next=>exact False.elim x
  | brk=>exact False.elim x
  | cont=>exact False.elim x
  | ret u =>
   obtain⟨v,H',os,bare,un,hok',r',q⟩:=x
   have kept:∀b o,s₁.heap.get? b=some o->s'.heap.get? b=some o:=fun b o e=>by
    cases q2:H b with
    | none=>exact un.keep b o e q2 (by intro z;exact absurd (show b∈([]:List Addr) from z) (by simp)) (by simp)
    | some u2 =>
     rcases hO b with z|⟨ob,u3,z⟩
     ·rw[q2] at z
      cases z
     ·have z2:=un.tI b ob _ z
      obtain⟨e1,_⟩:=dz b _ z
      obtain⟨e2,_⟩:=hok' b _ z2
      rw[e] at e1
      cases e1
      exact e2
   have KX':K.In s'.heap:=fun b o e=>kept b o (KX b o e)
   obtain⟨as,hrd⟩:=Dw.reads (R:=R) (cl:=cl) hok' KX' d0 v u q r'
   exact⟨u,as,rfl,hrd,OldK.of_keep kept,os,bare⟩
theorem xM {ds:List WData} (h:WData.layableAll ds=true):∀d∈ds,d.weight<=1048576:=fun d hd =>
 (PySem.W.layableW_iff.mp (List.all_eq_true.mp h d hd)).2.2
theorem xZ:∀(cs:List Codec) (a:Codec.denoteAll cs),(Codec.encAll cs a).length=cs.length
 | [],_=>rfl
 | c::cs,a=>by
  show(Codec.encAll cs a.2).length+1=cs.length+1
  rw[xZ cs a.2]
theorem El {r:OpenSpec} {k:Nat} {q:Program} {loose:List Str} {XP:(Str->Option Value)->Heap->Prop} {YP:World->Heap->Prop} {d:DefRec} {K:Params->PySem.W.Frag} {CX:World->B9} {ps:List Str} {sp:World->Sp}
  (hwell:r.wellSaid=true) (hdf:d.params.defaults=[]) (hlen:r.args.length=ps.length) (hr:iJ k callerA)
  (hY:∀(w:World) (h:Heap),YP w h->(K w.params).In h)
  (F:∀(w:World) (mg:Str->Option Value) (fa:Addr) (h:Heap),YP w h->(K w.params).In h->h.Ns mainGlobals mg->mg d.name=some (.ref fa) ->
   ∃fd:FuncData,(∀(s:Shared) (us:List Value),us.length=ps.length->BindsTo s fd ⟨us,[]⟩ (ps.zip us)) /\
    ∀base:Heap,(K w.params).In base->base.Ns mainGlobals mg->aS r.prog w (K w.params) mg base (CX w) k fa fd ps (sp w))
  (hsp:∀(w:World) (H:Hp) (xs:List V) (a:Codec.denoteAll r.args),zD H->Codec.withinAll r.args a=true->Codec.app r.args r.asked a=true->pV (K w.params) H xs (Codec.encAll r.args a) ->
   sp w xs H (fun v H'=>Dw (K w.params) H' v (r.ret.enc (Codec.app r.args r.f a))) fun _ _ _=>False)
  (hCX:∀(w:World) (H:Hp) (s:Shared) (e:Value) (s':Shared),CX w [] H s (fun _ _ _=>False) e s'->False) :
  PySem.W.WalkOS q loose XP YP r d [] (fun f vs=>PySem.call f vs):=by
 intro w xo s₁ mg mb G Y fa o pm cd doc dV kV ho hd hcd hD hmg hg args vals as hpre hlay hrd hwl hlo
 obtain⟨a,e1,e2⟩:=PySem.W.os_pre_some hpre
 obtain⟨e3,hwi⟩:=Codec.encAll_of_decAll r.args args a e1
 subst e3
 have KX:=hY w _ Y
 obtain⟨fd,hb,hF⟩:=F w mg fa _ Y KX G.T.g hmg
 refine PySem.W.enter_call (codeAny_mono (Ew (R:=[]) (cl:=classAt xo.heap) (d0:=r.ret.enc (Codec.app r.args r.f a)) KX G.T.g G.T.b G.T.builtins G.T.nolimit hg hwl (yZ _ _) (xM hlay) hr hF hb (by rw[xZ];exact hlen)
  (fun H xs hO hS=>hsp w H xs a hO hwi e2 hS) fun H e s'=>hCX w H s₁ e s') fun r' s' hq=>?_)
 obtain⟨u,as',rfl,h1,h2,h3,h4⟩:=hq
 exact⟨.inl ⟨u,_,as',rfl,fun _=>rfl,h1,(OpenSpec.post_iff hwell hwi _ _).mpr rfl,fun z=>Bool.noConfusion (show false=true from z)⟩,h2,h3,h4⟩
theorem Ci {r:OpenSpec} {k:Nat} {q:Program} {loose:List Str} {XP:(Str->Option Value)->Heap->Prop} {YP:World->Heap->Prop} {d:DefRec} {K:Params->PySem.W.Frag} {CX:B9} {ps:List Str} {sp:PySem.W.Frag->Sp}
  (hwell:r.wellSaid=true) (hdf:d.params.defaults=[]) (hlen:r.args.length=ps.length) (hr:iJ k callerA)
  (hY:∀(w:World) (h:Heap),YP w h->(K w.params).In h)
  (F:∀(w:World) (mg:Str->Option Value) (fa:Addr) (h:Heap),YP w h->(K w.params).In h->h.Ns mainGlobals mg->mg d.name=some (.ref fa) ->
   ∃fd:FuncData,(∀(s:Shared) (us:List Value),us.length=ps.length->BindsTo s fd ⟨us,[]⟩ (ps.zip us)) /\
    ∀base:Heap,(K w.params).In base->base.Ns mainGlobals mg->aS r.prog w (K w.params) mg base CX k fa fd ps (sp (K w.params)))
  (hsp:∀(K:PySem.W.Frag) (H:Hp) (xs:List V) (a:Codec.denoteAll r.args),zD H->Codec.withinAll r.args a=true->Codec.app r.args r.asked a=true->pV K H xs (Codec.encAll r.args a) ->
   sp K xs H (fun v H'=>Dw K H' v (r.ret.enc (Codec.app r.args r.f a))) fun _ _ _=>False)
  (hCX:∀(H:Hp) (s:Shared) (e:Value) (s':Shared),CX [] H s (fun _ _ _=>False) e s'->False) :
  PySem.W.WalkOS q loose XP YP r d [] (fun f vs=>PySem.call f vs) :=
 El (K:=K) (CX:=fun _=>CX) (sp:=fun w=>sp (K w.params)) hwell hdf hlen hr hY F (fun w H xs a h1 h2 h3 h4=>hsp (K w.params) H xs a h1 h2 h3 h4) fun _ H s e s'=>hCX H s e s'
end L2
namespace PySem
open Sem (wp)
section
variable {prog:Program} {w:World} {K:Type} [DecidableEq K] (knd:KeyKind prog w K)
inductive eI (h:Heap):List (List K)->List Value->Prop
 | nil:eI h [] []
 | cons {k:List K} {b:Addr} {ks:List (List K)} {vs:List Value}:IsTupleKey knd h k b->eI h ks vs->eI h (k::ks) (.ref b::vs)
def cJ (h:Heap) (ks:List (List K)) (a:Addr):Prop:=∃o items n,h.get? a=some o/\o.cls=.type "tuple" /\ o.data=.seq items n/\eI knd h ks items.toList
variable {knd}
theorem eI.inj {h:Heap} {x y:List (List K)} {vs:List Value} (hx:eI knd h x vs) (hy:eI knd h y vs):x=y:=by
 induction hx generalizing y with
 | nil=>cases hy;rfl
 | cons h1 _ ih =>
  cases hy with
  | cons h2 t2=>rw[h1.inj h2,ih t2]
theorem cJ.typeIs {s:Shared} {ks:List (List K)} {a:Addr} (x:cJ knd s.heap ks a):s.TypeIs (.ref a) "tuple" := let ⟨o,_,_,ho,hc,_⟩:=x;⟨o,ho,hc⟩
theorem cJ.inj {h:Heap} {a:Addr} {x y:List (List K)} (hx:cJ knd h x a) (hy:cJ knd h y a):x=y:=by
 obtain⟨o,items,n,ho,_,hd,hi⟩:=hx
 obtain⟨o',items',n',ho',_,hd',hi'⟩:=hy
 obtain rfl:o=o':=Option.some.inj (ho.symm.trans ho')
 rw[hd] at hd'
 injection hd' with h1 _
 subst h1
 exact hi.inj hi'
theorem eI.keeps {h h':Heap} {x:List (List K)} {vs:List Value} (hx:eI knd h x vs) (k:∀ks a,IsTupleKey knd h ks a->IsTupleKey knd h' ks a):eI knd h' x vs:=by
 induction hx with
 | nil=>exact .nil
 | cons h1 _ ih=>exact .cons (k _ _ h1) ih
theorem cJ.keeps {h h':Heap} {ks:List (List K)} {a d:Addr} {o:Obj} {es ep} (x:cJ knd h ks a) (ho:h.get? d=some o) (hd:o.data=.dict es ep) (hs:Heap.SameBut d h h') :
  cJ knd h' ks a:=by
 obtain⟨o',items,n,ho',hc,hd',hi⟩:=x
 have hne:a≠d:=by
  rintro rfl
  obtain rfl:o'=o:=Option.some.inj (ho'.symm.trans ho)
  rw[hd] at hd';exact nomatch hd'
 exact⟨o',items,n,(hs.2 a hne).trans ho',hc,hd',hi.keeps fun _ _ q=>q.keeps ho hd hs⟩
def qI (knd:KeyKind prog w K) (ks:List (List K)):Int:=reduceHash (Builtin.Tuple.tupleHashOf (ks.map (tupleKeyHash knd)))
def lg (ks:List (List K)):Nat:=(ks.map fun k=>k.length+1).sum
variable {A:Around} {E:Value->Shared->Prop} {s:Shared}
theorem Et (l:List Nat) (n:Nat):(l++[n]).sum=l.sum+n:=by simp
theorem tT {ks:List (List K)} {a:Addr} {Q:Int->Shared->Prop} (hu:A.units+1<cLine) (hk:cJ knd s.heap ks a) (h:Q (qI knd ks) {s with toks:=s.toks+(lg ks+1)}) :
  wpAny (model prog w) A (pyHash (.ref a)) Q E s:=by
 have hT:=hk.typeIs
 obtain⟨o,items,n,ho,_,hd,hi⟩:=hk
 unfold pyHash
 first|unfold pyHashByItsType|skip
 first|refine wpAny_bind (wpAny_cRoomFor_or (.inr (Nat.lt_of_succ_lt hu)) ?_)|skip
 refine wpAny_bind (wpAny_specialOf hT F.slot_tuple_hash.lookup ?_)
 show wpAny _ _ (if (some (Value.builtin "tuple.__hash__")==some Value.none)=true then _ else _) Q E s
 rw[if_neg (by rw[beq_builtin_none];exact Bool.false_ne_true)]
 refine wpAny_bind (wpAny_specialOf hT F.slot_tuple_hash.lookup ?_)
 show wpAny _ _ (callSpecialIfBoundUnlessNone? (.ref a) "__hash__" _ >>= _) Q E s
 refine wpAny_bind (wpAny_callSpecialIfBoundUnlessNone?_slot hT F.slot_tuple_hash (wpAny_call_entry F.slot_tuple_hash hT F.entry_tuple_hash ?_ (F.args_tuple_hash_1 _)))
 show wpAny _ _ (Builtin.Tuple.tupleItemsOf (.ref a) >>= _) _ _ s
 refine wpAny_bind (wpAny_tupleItemsOf ho hd ?_)
 refine wpAny_bind ?_
 rw[<-Array.forIn_toList]
 refine wpAny_forIn_list _
  (fun rest (b:Array Int) s'=>∃done left,ks=done++left/\eI knd s.heap left rest/\b.toList=done.map (tupleKeyHash knd)/\s'={s with toks:=s.toks+lg done})
  _ ?_ ?_ _ _ ⟨[],ks,rfl,hi,rfl,rfl⟩
 ·rintro x rest b s' ⟨done,left,rfl,hl,hb,rfl⟩
  cases hl with
  | @cons k bb ks' _ h1 hl' =>
   have hs:s.toks+lg done+(k.length+1)=s.toks+lg (done++[k]):=by
    unfold lg;rw[List.map_append,List.map_singleton,Et];omega
   refine wpAny_bind (wpAny_pyHash_tuple (A:=A.in1) (knd:=knd) (ks:=k) hu h1 ?_)
   first
    | exact wpAny_pure ⟨done++[k],ks',by simp,hl',by simp[hb],by simp only[hs]⟩
    | exact wpAny_bind (wpAny_pure (wpAny_pure ⟨done++[k],ks',by simp,hl',by simp[hb],by simp only[hs]⟩))
 ·rintro b s' ⟨done,left,rfl,hl,hb,rfl⟩
  cases hl
  rw[List.append_nil] at h
  show wpAny _ _ (retInt (Builtin.Tuple.tupleHashOf b.toList)) _ _ _
  rw[hb]
  refine wpAny_ret_mkInt ?_
  show wpAny _ _ (if (decide (-(2:Int) ^ 63<=Builtin.Tuple.tupleHashOf (done.map (tupleKeyHash knd)))&&decide (Builtin.Tuple.tupleHashOf (done.map (tupleKeyHash knd))<2 ^ 63))=true then _ else _) Q E _
  unfold qI reduceHash at h
  by_cases hr:(decide (-(2:Int) ^ 63<=Builtin.Tuple.tupleHashOf (done.map (tupleKeyHash knd)))&&decide (Builtin.Tuple.tupleHashOf (done.map (tupleKeyHash knd))<2 ^ 63))=true
  ·rw[if_pos hr]
   rw[if_pos hr] at h
   exact wpAny_pure (by simpa [Nat.add_assoc] using h)
  ·rw[if_neg hr]
   rw[if_neg hr] at h
   exact wpAny_bind (wpAny_rule (wpAny_pure (by simpa [Nat.add_assoc] using h)))
theorem Ag {x y:List (List K)} {a b:Addr} {P:Fin->Shared->Prop} (hu:A.units<cLine) (hx:cJ knd s.heap x a) (hy:cJ knd s.heap y b) (h:P (.done (.ret (.bool (decide (x=y))))) s) :
  wpAny (model prog w) A (Builtin.«tuple.__eq__» ⟨[.ref a,.ref b],[]⟩) P E s:=by
 have hTb:=hy.typeIs
 obtain⟨oa,xs,na,hoa,_,hda,hia⟩:=hx
 obtain⟨ob,ys,nb,hob,_,hdb,hib⟩:=hy
 show wpAny _ _ (isInstance (.ref b) (.type "tuple") >>= _) _ _ s
 refine wpAny_bind (wpAny_isInstance hTb isSubtype_tuple_tuple ?_)
 simp only[Bool.not_true,Bool.false_eq_true,if_false]
 refine wpAny_bind (wpAny_tupleItemsOf hoa hda ?_)
 refine wpAny_bind (wpAny_tupleItemsOf hob hdb ?_)
 refine wpAny_bind ?_
 refine wpAny_forIn_list _
  (fun rest r s'=>r.1=none/\s'=s/\∃x' y' xs' ys',rest=List.zip xs' ys'/\eI knd s.heap x' xs'/\eI knd s.heap y' ys'/\decide (x'=y')=decide (x=y)/\(xs'.length==ys'.length)=(xs.size==ys.size))
  _ ?_ ?_ _ _ ⟨rfl,rfl,x,y,xs.toList,ys.toList,rfl,hia,hib,rfl,by simp⟩
 ·rintro⟨u,v⟩ rest r s' ⟨hr,rfl,x',y',xs',ys',hz,hx',hy',hdec,hlen⟩
  cases hx' with
  | nil=>simp at hz
  | @cons k1 u' x'' xs'' h1 hx'' =>
   cases hy' with
   | nil=>simp at hz
   | @cons k2 v' y'' ys'' h2 hy'' =>
    simp only[List.zip_cons_cons,List.cons.injEq,Prod.mk.injEq] at hz
    obtain⟨⟨rfl,rfl⟩,rfl⟩:=hz
    refine wpAny_bind (wpAny_eqBool_tuple (knd:=knd) (x:=k1) (y:=k2) hu h1 h2 ?_)
    by_cases hk:k1=k2
    ·subst hk
     rw[decide_eq_true rfl]
     simp only[Bool.not_true,Bool.false_eq_true,if_false]
     refine wpAny_pure ⟨rfl,rfl,x'',y'',xs'',ys'',rfl,hx'',hy'',?_,by simpa using hlen⟩
     rw[<-hdec]
     by_cases hxy:x''=y''
     ·simp[hxy]
     ·simp[hxy]
    ·rw[decide_eq_false hk]
     simp only[Bool.not_false,if_true]
     have hf:decide (x=y)=false:=by rw[<-hdec];simp[hk]
     rw[hf] at h
     exact wpAny_bind (wpAny_pure (wpAny_pure (wpAny_pure h)))
 ·rintro⟨r1,r2⟩ s' ⟨hr,rfl,x',y',xs',ys',hz,hx',hy',hdec,hlen⟩
  simp only at hr
  subst hr
  refine wpAny_pure ?_
  have hfin:(xs.size==ys.size)=decide (x=y):=by
   rw[<-hdec,<-hlen]
   cases hx' with
   | nil =>
    cases hy' with
    | nil=>simp
    | cons _ _=>simp
   | cons _ _ =>
    cases hy' with
    | nil=>simp
    | cons _ _=>simp at hz
  show P (.done (.ret (.bool (xs.size==ys.size)))) s'
  rw[hfin];exact h
theorem tU {x y:List (List K)} {a b:Addr} {Q:Bool->Shared->Prop} (hu:A.units+1<cLine) (hx:cJ knd s.heap x a) (hy:cJ knd s.heap y b) (h:Q (decide (x=y)) s) :
  wpAny (model prog w) A (eqBool (.ref a) (.ref b)) Q E s:=by
 unfold eqBool
 try with_reducible refine wpAny_holding ?_
 show wpAny _ _ (if (Value.ref a==Value.ref b)=true then _ else _) Q E s
 by_cases hab:(Value.ref a==Value.ref b)=true
 ·rw[if_pos hab]
  have e:a=b:=by have:=eq_of_beq hab;injection this
  subst e
  obtain rfl:=hx.inj hy
  exact wpAny_bind (wpAny_rule (wpAny_pure (by simpa using h)))
 ·rw[if_neg hab]
  exact wpAny_bind (wpAny_richCompare_same_room (op:=.Eq) hx.typeIs hy.typeIs F.slot_tuple_eq
   (wpAny_call_entry F.slot_tuple_eq hx.typeIs F.entry_tuple_eq (Ag (A:=A.in1) hu hx hy ⟨_,rfl,(fun e=>nomatch e),wpAny_truthy_bool h⟩) (F.args_tuple_eq_2 _ _)) (Nat.lt_of_succ_lt hu))
theorem oC (n:Nat) {ks:List K} {a:Addr} {Q:Bool->Shared->Prop} (hk:IsTupleKey knd s.heap ks a) (h:Q true s):wpAny (model prog w) A (eqIsQuiet (n+1) (.ref a)) Q E s:=by
 have hT:=hk.typeIs
 obtain⟨o,items,n,ho,_,hd,hi⟩:=hk
 unfold eqIsQuiet
 refine wpAny_bind (wpAny_specialOf hT F.slot_tuple_eq.lookup ?_)
 show wpAny _ _ (isInstance (.ref a) (.type "tuple") >>= _) _ _ s
 refine wpAny_bind (wpAny_isInstance hT isSubtype_tuple_tuple ?_)
 simp only[Bool.not_true,Bool.false_eq_true,if_false]
 refine wpAny_bind (wpAny_seqItems ho hd ?_)
 refine wpAny_bind ?_
 show wpAny _ _ (forIn items _ _) _ _ s
 rw[<-Array.forIn_toList]
 refine wpAny_forIn_list _ (fun rest r s'=>r.1=none/\s'=s/\∀v∈rest,carriedByValue v=true) _ ?_ ?_ _ _ ⟨rfl,rfl,hi.byValue⟩
 ·rintro v rest r s' ⟨hr,rfl,hall⟩
  rw[eqIsQuiet_byValue _ (hall v List.mem_cons_self)]
  refine wpAny_bind (wpAny_pure ?_)
  simp only[Bool.not_true,Bool.false_eq_true,if_false]
  exact wpAny_pure ⟨rfl,rfl,fun u hu'=>hall u (List.mem_cons_of_mem _ hu')⟩
 ·rintro⟨r1,r2⟩ s' ⟨hr,rfl,_⟩
  simp only at hr
  subst hr
  exact wpAny_pure h
theorem eI.all {h:Heap} {x:List (List K)} {vs:List Value} (hx:eI knd h x vs):∀v∈vs,∃k b,v=.ref b/\IsTupleKey knd h k b:=by
 induction hx with
 | nil=>intro v hv;simp at hv
 | cons h1 _ ih =>
  intro v hv
  rcases List.mem_cons.mp hv with rfl|hv
  ·exact⟨_,_,rfl,h1⟩
  ·exact ih v hv
theorem qa {ks:List (List K)} {a:Addr} {Q:Bool->Shared->Prop} (hk:cJ knd s.heap ks a) (h:Q true s):wpAny (model prog w) A (eqIsQuiet 8 (.ref a)) Q E s:=by
 have hT:=hk.typeIs
 obtain⟨o,items,n,ho,_,hd,hi⟩:=hk
 unfold eqIsQuiet
 refine wpAny_bind (wpAny_specialOf hT F.slot_tuple_eq.lookup ?_)
 show wpAny _ _ (isInstance (.ref a) (.type "tuple") >>= _) _ _ s
 refine wpAny_bind (wpAny_isInstance hT isSubtype_tuple_tuple ?_)
 simp only[Bool.not_true,Bool.false_eq_true,if_false]
 refine wpAny_bind (wpAny_seqItems ho hd ?_)
 refine wpAny_bind ?_
 show wpAny _ _ (forIn items _ _) _ _ s
 rw[<-Array.forIn_toList]
 refine wpAny_forIn_list _ (fun rest r s'=>r.1=none/\s'=s/\∀v∈rest,∃k b,v=.ref b/\IsTupleKey knd s.heap k b) _ ?_ ?_ _ _ ⟨rfl,rfl,hi.all⟩
 ·rintro v rest r s' ⟨hr,rfl,hall⟩
  obtain⟨k,b,rfl,hb⟩:=hall v List.mem_cons_self
  refine wpAny_bind (oC 6 hb ?_)
  simp only[Bool.not_true,Bool.false_eq_true,if_false]
  exact wpAny_pure ⟨rfl,rfl,fun u hu'=>hall u (List.mem_cons_of_mem _ hu')⟩
 ·rintro⟨r1,r2⟩ s' ⟨hr,rfl,_⟩
  simp only at hr
  subst hr
  exact wpAny_pure h
end
def qH {prog:Program} {w:World} {K:Type} [DecidableEq K] (knd:KeyKind prog w K):HeapKind prog w (List (List K)) where
 is:=cJ knd
 hash:=qI knd
 draws:=fun ks=>lg ks+1
 room:=fun A=>A.units+1<cLine
 inj:=fun hx hy=>hx.inj hy
 keeps:=fun x ho hd hs=>x.keeps ho hd hs
 pyHash:=fun hu hk h=>tT hu hk h
 eqBool:=fun hu hx hy h=>tU hu hx hy h
 quiet:=fun hk h=>qa hk h
end PySem
namespace L2
open PySem PySem.Spec PyProof.Rows
theorem eU.there {P:Program} {w:World} {H:Hp} {h:Heap} {a:Addr} {o:HO} (x:eU P w H h a o):∃ob,h.get? a=some ob:=by
 cases o with
 | lst xs=>obtain⟨_,_,_,_,e⟩:=x;exact⟨_,e⟩
 | tup xs=>obtain⟨_,_,_,ob,e,_⟩:=x;exact⟨_,e⟩
 | dK kvs=>obtain⟨_,_,_,_,o,_,_,e,_⟩:=x;exact⟨_,e⟩
 | dT kvs=>obtain⟨_,_,_,_,o,_,_,e,_⟩:=x;exact⟨_,e⟩
 | set S n=>obtain⟨o,_,_,_,e,_⟩:=x;exact⟨_,e⟩
 | ins C dx fs=>obtain⟨_,_,_,e,_⟩:=x;exact⟨_,e⟩
 | own y=>obtain⟨_,e⟩:=x;exact⟨_,e⟩
 | xd fs=>obtain⟨_,⟨_,_,_,e,_⟩,_⟩:=x;exact⟨_,e⟩
 | rng lo hi=>obtain⟨_,_,_,e⟩:=x;exact⟨_,e⟩
 | wU ob u=>obtain⟨e,_⟩:=x;exact⟨_,e⟩
 | Ij ps=>exact⟨_,(show h.get? a=some _ from x)⟩
 | met f y=>exact⟨_,(show h.get? a=some _ from x)⟩
 | ext φ=>obtain⟨_,⟨_,e⟩,_⟩:=x;exact⟨_,e⟩
theorem p9.keptT {P:Program} {w:World} {H:Hp} {h h':Heap} (x:p9 P w H h) (k:∀b u,(H b).isSome=true->h.get? b=some u->h'.get? b=some u):p9 P w H h':=fun a o e =>
 (x a o e).Cn (fun b u hb q=>k b u (by rcases hb with rfl|hb<;>simp[*]) q) (fun _ q=>q) fun _ _ q=>q
def B7 (B:Heap) (l:List Env) (e:Addr) (cls:Value) (L:Addr) (h:Heap):Prop :=
 B.StaysIn h/\B.get? e=none/\h.FunFrames B l /\
  ((∃oe vs a0,h.get? e=some oe/\oe.cls=cls/\oe.data=.fields vs/\vs[1]?=some .none/\vs[0]?=some a0)\/∃a0 fl,(fl=.none\/fl=rawInt L)/\h.TracedAtW B e cls a0 fl)
theorem B7.fly {B:Heap} {l:List Env} {e L:Addr} {cls a0:Value} {h:Heap} (x:Heap.FlyingW B l e cls a0 h):B7 B l e cls L h:=⟨x.1,x.2.1,x.2.2.1,.inr ⟨a0,.none,.inl rfl,x.2.2.2⟩⟩
theorem B7.held {B:Heap} {l:List Env} {e L:Addr} {cls a0:Value} {h:Heap} (x:Heap.HeldW B l e cls a0 L h):B7 B l e cls L h:=⟨x.1,x.2.1,x.2.2.1,.inr ⟨a0,_,.inr rfl,x.2.2.2⟩⟩
section
variable {M:Model} {A:Around} {E:Value->Shared->Prop} {s:Shared} {B:Heap} {env:Env} {outer l:List Env} {e L:Addr} {cls a0:Value}
theorem B7.note {Q:Unit->Shared->Prop} (x:B7 B (env::outer) e cls L s.heap) (hfr:A.frames=some (env::outer)) (hf:env.frame=some L)
  (hQ:∀h' a0,Heap.HeldW B (env::outer) e cls a0 L h'->s.heap.UpToSlots h'->Q () {s with heap:=h'}):wpAny M A (noteFrame (.ref e) env) Q E s:=by
 obtain⟨x1,x2,x3,x4⟩:=x
 rcases x4 with⟨oe,vs,a0,he,hc,hd,h1,h0⟩|⟨a0,fl,hfl,ht⟩
 ·unfold noteFrame
  simp only[hf]
  refine wpAny_bind (wpAny_field he hd h1 ?_)
  rw[if_neg (by decide)]
  subst hc
  exact wpAny_entryW hfr x3 hf he x1 x2 hd (Array.getElem?_eq_some_iff.mp h1).1 h0 fun h' ⟨y1,y2,y3,y4⟩=>hQ h' a0 ⟨y1,x2,y2,y3⟩ y4
 ·rcases hfl with rfl|rfl
  ·exact wpAny_looks_onW hfr hf ⟨x1,x2,x3,ht⟩ fun h' hh hs=>hQ h' a0 hh hs
  ·exact wpAny_noteFrame_againW hf ht (hQ s.heap a0 ⟨x1,x2,x3,ht⟩ (.refl _))
theorem Bw {Q:Unit->Shared->Prop} (R:Heap.HeldW B l e cls a0 L s.heap)
  (h:∀h',Heap.HeldW B l e cls a0 L h'->s.heap.UpToSlots h'->Q () {s with heap:=h'}):wpAny M A (setFlight (.ref e) (some L)) Q E s:=by
 obtain⟨hkb,hen,hl,oe,vs,T,oT,ts,he,hcls,hd,h1,hnT,hTe,hT,hdT,h3⟩:=R
 have hsz3:3<ts.size:=(Array.getElem?_eq_some_iff.mp h3).1
 have other:∀b,b≠T->(s.heap.update T (Obj.mapFields (·.setIfInBounds 3 ((some L).elim Value.none fun f=>rawInt f)))).get? b=s.heap.get? b :=
  fun b hb=>Heap.get?_update_other _ _ (Ne.symm hb)
 have noRecord:∀b o,s.heap.get? b=some o->(∀vs,o.data≠.fields vs)->b≠T:=fun b o hb hnf q=>by
  rw[q,hT] at hb;injection hb with hb;subst hb;exact hnf ts hdT
 unfold setFlight
 refine wpAny_bind (wpAny_field he hd h1 ?_)
 rw[if_pos (show(Value.ref T != Value.none)=true from by simp)]
 refine wpAny_setField hT hdT hsz3 (h _ ⟨fun b o hbo=>(other b fun q=>by rw[q,hnT] at hbo;cases hbo).trans (hkb b o hbo),hen,
  hl.of_keeps fun b o hb hnf=>⟨o,(other b (noRecord b o hb hnf)).trans hb,rfl⟩,?_⟩ fun b o hb hnf=>⟨o.slots,(other b (noRecord b o hb hnf)).trans hb⟩)
 exact⟨oe,vs,T,_,_,(other e (Ne.symm hTe)).trans he,hcls,hd,h1,hnT,hTe,Heap.get?_update_self _ hT (Obj.isFreed_of_fields (Obj.data_mapFields hdT _)),Obj.data_mapFields hdT _,by simp[hsz3]⟩
end
structure IK (P:Program) (w:World) (fo fr:List Addr) (H:Hp) (s:Shared) (H':Hp) (B:Heap) (s':Shared):Prop where
 os:s'.os=s.os
 bare:AllBare s'.gens
 un:Un fo [] H H' s.heap s'.heap
 dz:p9 P w H' s'.heap
 b:∀b o,s'.heap.get? b=some o->b∉fr->((s.heap.get? b).isSome=true\/(H' b).isSome=true)->B.get? b=some o
 tr:∀b∈fr,H' b=none
theorem IK.move {P:Program} {w:World} {fo fr:List Addr} {H H':Hp} {s s':Shared} {B h':Heap} (m:IK P w fo fr H s H' B s') (st:B.StaysIn h') (up:s'.heap.UpToSlots h')
  (hfr:∀b∈fr,∃o,s'.heap.get? b=some o/\∀vs,o.data≠.fields vs) (hsub:∀b∈fr,b∈fo\/s.heap.get? b=none):IK P w fo fr H s H' B {s' with heap:=h'}:=by
 have there:∀b o,s.heap.get? b=some o->∃o',s'.heap.get? b=some o':=fun b o e=>m.un.there b o e (by simp)
 have keep:∀b o,s'.heap.get? b=some o->b∉fr->((s.heap.get? b).isSome=true\/(H' b).isSome=true)->h'.get? b=some o:=fun b o e n t=>st b o (m.b b o e n t)
 have notfr:∀b,(H' b).isSome=true->b∉fr:=fun b t z=>by rw[m.tr b z] at t;cases t
 refine⟨m.os,m.bare,⟨fun b o e n hb hx=>?_,fun b o e n hb hx=>?_,m.un.free,fun b o e hx=>?_,m.un.tW,m.un.tI,m.un.tX⟩,m.dz.keptT fun b u t e=>keep b u e (notfr b t) (.inr t),fun b o e n t=>?_,m.tr⟩
 ·have e1:=m.un.keep b o e n hb hx
  refine keep b o e1 (fun z=>?_) (.inl (by rw[e];rfl))
  rcases hsub b z with y|y
  ·exact hb y
  ·rw[e] at y;cases y
 ·obtain⟨sl,e1⟩:=m.un.slot b o e n hb hx
  by_cases z:b∈fr
  ·obtain⟨o2,e2,d2⟩:=hfr b z
   rw[e1] at e2;cases e2
   obtain⟨sl',e3⟩:=up b _ e1 d2
   exact⟨sl',e3⟩
  ·exact⟨sl,keep b _ e1 z (.inl (by rw[e];rfl))⟩
 ·obtain⟨o1,e1⟩:=there b o e
  by_cases z:b∈fr
  ·obtain⟨o2,e2,d2⟩:=hfr b z
   obtain⟨sl',e3⟩:=up b _ e2 d2
   exact⟨_,e3⟩
  ·exact⟨o1,keep b _ e1 z (.inl (by rw[e];rfl))⟩
 ·have ex:∃o1,s'.heap.get? b=some o1:=by
   rcases t with t|t
   ·obtain⟨o0,e0⟩:=Option.isSome_iff_exists.mp t
    exact there b o0 e0
   ·obtain⟨u,eu⟩:=Option.isSome_iff_exists.mp t
    exact(m.dz b u eu).there
  obtain⟨o1,e1⟩:=ex
  have q:=m.b b o1 e1 n t
  have q2:=st b o1 q
  have e':h'.get? b=some o:=e
  rw[q2] at e';cases e'
  exact q
def XS (P:Program) (w:World) (outer:List Env) (H:Hp) (s:Shared) (E:XK) (ev:Value) (s':Shared):Prop :=
 ∃(e:Addr) (cls a0:Value) (B:Heap) (H':Hp),ev=.ref e/\IK P w (rU outer) (rU outer) H s H' B s'/\Heap.FlyingW B outer e cls a0 s'.heap/\E cls none H'
abbrev wg (P:Program) (w:World):B9:=fun outer H s E ev s'=>XS P w outer H s E ev s'
def XZ (P:Program) (w:World) (env:Env) (L:Addr) (outer:List Env) (H:Hp) (s:Shared) (E:XK) (ev:Value) (s':Shared):Prop :=
 ∃(e:Addr) (cls:Value) (B:Heap) (H':Hp),ev=.ref e/\IK P w (rU outer) (L::rU outer) H s H' B s'/\B7 B (env::outer) e cls L s'.heap/\E cls none H'
section
variable {P:Program} {w:World} {env:Env} {L:Addr} {outer:List Env} {H:Hp} {s s':Shared} {E:XK} {ev:Value} {A:Around}
theorem og (hf:env.frame=some L):rU (env::outer)=L::rU outer:=by unfold rU;rw[List.filterMap_cons,hf]
theorem pd {B h:Heap} (hl:h.FunFrames B (env::outer)) (hf:env.frame=some L):∀b∈L::rU outer,∃o,h.get? b=some o/\∀vs,o.data≠.fields vs:=fun b hb=>by
 rw[<-og hf] at hb
 exact(hl.mem hb).2
theorem XZ.leave {M:Model} {EE:Value->Shared->Prop} (z:XZ P w env L outer H s E ev s') (hfr:A.frames=some (env::outer)) (hf:env.frame=some L) (hL:s.heap.get? L=none) :
  wpAny M A (leaving env ev) (fun _ s''=>XS P w outer H s E ev s'') EE s':=by
 obtain⟨e,cls,B,H',rfl,m,x,hE⟩:=z
 have hs:∀b∈L::rU outer,b∈rU outer\/s.heap.get? b=none:=fun b hb=>by
  rcases List.mem_cons.mp hb with rfl|hb
  ·exact .inr hL
  ·exact .inl hb
 unfold leaving
 refine wpAny_bind (x.note hfr hf fun h1 a0 hh up=>?_)
 have m1:=m.move (h':=h1) hh.1 up (pd x.2.2.1 hf) hs
 refine wpAny_landsW (s:={s' with heap:=h1}) hh fun h2 hfl up2=>?_
 have m2:=m1.move (h':=h2) hfl.1 up2 (pd hh.2.2.1 hf) hs
 refine⟨e,cls,a0,B,H',rfl,⟨m2.os,m2.bare,m2.un,m2.dz,fun b o q n t=>m2.b b o q (fun z=>?_) t,fun b hb=>m2.tr b (List.mem_cons_of_mem _ hb)⟩,⟨hfl.1,hfl.2.1,hfl.2.2.1.2.2,hfl.2.2.2⟩,hE⟩
 rcases List.mem_cons.mp z with rfl|z
 ·rcases t with t|t
  ·rw[hL] at t;cases t
  ·rw[m2.tr _ List.mem_cons_self] at t;cases t
 ·exact n z
theorem XZ.own {M:Model} (hfr:A.frames=some (env::outer)) (hf:env.frame=some L) (hL:s.heap.get? L=none):PassesOwn M A env (XZ P w env L outer H s E):=by
 intro ev s' z
 obtain⟨e,cls,B,H',rfl,m,x,hE⟩:=z
 have hs:∀b∈L::rU outer,b∈rU outer\/s.heap.get? b=none:=fun b hb=>by
  rcases List.mem_cons.mp hb with rfl|hb
  ·exact .inr hL
  ·exact .inl hb
 unfold notedBy
 refine x.note hfr hf fun h1 a0 hh up=>?_
 have m1:=m.move (h':=h1) hh.1 up (pd x.2.2.1 hf) hs
 unfold cameBackBy
 obtain⟨_,_,_,oe,vs,T,oT,ts,he,hcls,hd,hv1,_⟩:=id hh
 refine wpAny_bind (wpAny_field he hd hv1 ?_)
 rw[if_neg (show ¬((Value.ref T==Value.none)=true) from by simp)]
 have fin:wpAny M A (setFlight (.ref e) env.frame) (fun _ s''=>XZ P w env L outer H s E (.ref e) s'') (XZ P w env L outer H s E) {s' with heap:=h1}:=by
  rw[hf]
  refine Bw (s:={s' with heap:=h1}) hh fun h2 hh2 up2=>?_
  exact⟨e,cls,B,H',rfl,m1.move (h':=h2) hh2.1 up2 (pd hh.2.2.1 hf) hs,.held hh2,hE⟩
 first
  | exact fin
  | exact wpAny_bind (wpAny_pure fin)
end
end L2
namespace L2
open PySem PySem.Spec PyProof.Rows
theorem Un.shrink {L:Addr} {fs ex:List Addr} {H H':Hp} {h h':Heap} (u:Un (L::fs) ex H H' h h') (hL:h.get? L=none):Un fs ex H H' h h':=by
 have ne:∀b o,h.get? b=some o->b≠L:=fun b o e z=>by rw[z,hL] at e;cases e
 exact⟨fun b o e n hb hx=>u.keep b o e n (fun z=>(List.mem_cons.mp z).elim (ne b o e) hb) hx,fun b o e n hb hx=>u.slot b o e n (List.mem_cons_of_mem _ hb) hx,u.free,u.there,u.tW,u.tI,u.tX⟩
section
variable {X:Cx} {pins:List (Addr×Obj)} {σ:St} {H:Hp} {s s':Shared} {Ex E:XK} {ev:Value}
theorem XS.into (I:Inv X pins σ H s) (hst:X.stack=X.env::X.outer) (hf:X.env.frame=some X.env.locals) (hx:X.ex=[]) (h:XS X.prog X.w X.stack H s Ex ev s') (hE:∀c H',Ex c none H'->E c none H') :
  XZ X.prog X.w X.env X.env.locals X.outer X.JY X.xo E ev s':=by
 obtain⟨e,cls,a0,B,H',rfl,m,fl,q⟩:=h
 rw[hst,og hf] at m
 rw[hst] at fl
 have hL:X.xo.heap.get? X.env.locals=none:=Heap.get?_none_of_le I.ok.above
 have u0:=I.base
 rw[hx] at u0
 refine⟨e,cls,B,H',rfl,⟨m.os.trans I.os,m.bare,?_,m.dz,fun b o q n t=>m.b b o q n ?_,m.tr⟩,.fly fl,hE _ _ q⟩
 ·exact((u0.mono (fs':=X.env.locals::rU X.outer) (fun b hb=>List.mem_cons_of_mem _ hb) (fun b hb=>hb)).trans m.un).shrink hL
 ·rcases t with t|t
  ·obtain⟨o0,e0⟩:=Option.isSome_iff_exists.mp t
   obtain⟨o1,e1⟩:=u0.there b o0 e0 (by simp)
   exact .inl (by rw[e1];rfl)
  ·exact .inr t
theorem XZ.made {h':Heap} {e:Addr} {cls:Value} {vs:List Value} (I:Inv X pins σ H s) (hst:X.stack=X.env::X.outer) (hf:X.env.frame=some X.env.locals) (hx:X.ex=[]) (mk:Heap.MadeExcOf s.heap h' e cls vs) (hE:E cls none H) :
  XZ X.prog X.w X.env X.env.locals X.outer X.JY X.xo E (.ref e) {s with heap:=h'}:=by
 have u0:=I.base
 rw[hx] at u0
 have hfs:∀b∈X.env.locals::rU X.outer,H b=none:=fun b hb=>I.zQ b (by rw[hst,og hf];exact hb)
 obtain⟨t,e1,e2,e3⟩:=mk.there
 have k0:(PySem.W.hideAll s.heap (X.env.locals::rU X.outer)).StaysIn h':=fun b o q=>mk.keeps b o (PySem.W.of_hideAll _ q)
 refine⟨e,cls,PySem.W.hideAll s.heap (X.env.locals::rU X.outer),H,rfl,⟨I.os,I.bare,u0.trans (.kept mk.keeps),I.dz.kept mk.keeps,fun b o q n t=>?_,hfs⟩,⟨k0,?_,?_,.inl ⟨_,_,_,e1,rfl,rfl,rfl,rfl⟩⟩,hE⟩
 ·have ex:∃o1,s.heap.get? b=some o1:=by
   rcases t with t|t
   ·obtain⟨o0,e0⟩:=Option.isSome_iff_exists.mp t
    exact u0.there b o0 e0 (by simp)
   ·obtain⟨u,eu⟩:=Option.isSome_iff_exists.mp t
    exact(I.dz b u eu).there
  obtain⟨o1,q1⟩:=ex
  have q2:=mk.keeps b o1 q1
  have q':h'.get? b=some o:=q
  rw[q2] at q';cases q'
  exact PySem.W.hideAll_get _ q1 n
 ·cases z:(PySem.W.hideAll s.heap (X.env.locals::rU X.outer)).get? e with
  | none=>rfl
  | some o=>have:=PySem.W.of_hideAll _ z;rw[mk.new] at this;cases this
 ·have f1:s.heap.FunFrames (PySem.W.hideAll s.heap (X.env.locals::rU X.outer)) (X.env::X.outer):=by
   have f0:=I.stack
   rw[hst] at f0
   exact PySem.W.funFrames_hide f0 fun env he a ha=>by
    rw[<-og hf]
    exact List.mem_filterMap.mpr ⟨env,he,ha⟩
  exact f1.of_keeps fun b o q _=>⟨o,mk.keeps b o q,rfl⟩
end
section
variable {P:Program} {w:World} {K:PySem.W.Frag} {mg:Str->Option Value} {base:Heap}
abbrev cx1 (P:Program) (w:World) (K:PySem.W.Frag) (mg:Str->Option Value) (base:Heap) (N:List Str) (qual:Str) (scope:Scope) (f:Addr) (cd:Value) (A:Around) (outer:List Env) (s:Shared) (H:Hp) (E:XK):Cx :=
 (C1 (wg P w) P w K mg base N qual scope f cd A outer s H E).wj (XZ P w (envOfC qual scope s.heap.objs.size f cd) s.heap.objs.size outer H s E)
theorem pass1 {N:List Str} {qual:Str} {scope:Scope} {f:Addr} {cd:Value} {A:Around} {outer:List Env} {s:Shared} {H:Hp} {E Ex:XK} (hE:∀c H',Ex c none H'->E c none H'):Passes (wg P w) (cx1 P w K mg base N qual scope f cd A outer s H E) Ex :=
 fun pins σ H1 s1 e s' I h=>XS.into I rfl rfl rfl h hE
theorem lN {N:List Str} {qual:Str} {scope:Scope} {f:Addr} {cd:Value} {A:Around} {outer:List Env} {s:Shared} {H:Hp} {E:XK}:Passes (wg P w) (cx1 P w K mg base N qual scope f cd A outer s H E) E:=pass1 fun _ _ h=>h
theorem dS.ES {x qual:Str} {st:Stmt} {f:Addr} {fd:FuncData} {N ps:List Str} {k:Nat} {sp:Sp} (F:dS K x qual st f fd) (S:aD N ps (aA st)) (len:∀vs H Q E,sp vs H Q E->vs.length=ps.length)
  (hbody:∀(cdv:Value) (A:Around) (outer:List Env) (s:Shared) (H:Hp) (vs:List V) (Q:VK) (E:XK),iJ k (A.deeper (envOfC qual (aA st) s.heap.objs.size f cdv)) ->
   PassesOwn (model P w) (A.deeper (envOfC qual (aA st) s.heap.objs.size f cdv)) (envOfC qual (aA st) s.heap.objs.size f cdv) (cx1 P w K mg base N qual (aA st) f cdv A outer s H E).xe->sp vs H Q E ->
   ∃t,Ce (cx1 P w K mg base N qual (aA st) f cdv A outer s H E) (gS st) t/\t {nx:=fun _ H'=>Q .bo H',rt:=Q} (start N vs) H):aS P w K mg base (wg P w) (k+1) f fd ps sp:=by
 obtain⟨oc,od,kV,doc,pm,an,cdv,ct,osl,rfl,lk,hcd⟩:=F.ex
 refine ID lk hcd S len fun A outer s H vs Q E hr hsp=>?_
 by_cases hfr:(A.deeper (envOfC qual (aA st) s.heap.objs.size f cdv)).frames=some (envOfC qual (aA st) s.heap.objs.size f cdv::outer)
 ·have hL:s.heap.get? s.heap.objs.size=none:=Heap.get?_none_of_le (Nat.le_refl _)
  obtain⟨t,h,q⟩:=hbody cdv A outer s H vs Q E hr (XZ.own hfr rfl hL) hsp
  refine⟨t,fun pins s1 σ H1 D I hw=>?_,q⟩
  exact wpAny_mono (h pins s1 σ H1 D (I.wj _) hw) (fun _ _ q=>q.oE) fun e s' z=>XZ.leave z hfr rfl hL
 ·exact⟨fun _ _ _=>True,fun pins s1 σ H1 D I hw=>absurd I.ok.frames hfr,trivial⟩
end
structure Exc (K:PySem.W.Frag) (mg:Str->Option Value) (x:Str) (C:Addr):Prop where
 g:mg x=some (.ref C)
 ow:∀h:Heap,K.In h->OwnCls x C [.type "Exception",.type "BaseException",.type "object"] "Exception.__new__" mg h
theorem Exc.own {K:PySem.W.Frag} {mg:Str->Option Value} {x:Str} {C:Addr} {h:Heap} (X:K.In h) (c:Exc K mg x C):OwnCls x C [.type "Exception",.type "BaseException",.type "object"] "Exception.__new__" mg h:=c.ow h X
def FD (C:Addr) (E:XK):TS:=fun _ _ H=>E (.ref C) none H
theorem FL {X:Cx} {x:Str} {C:Addr} {E:XK} {np cpos pos:Pos} (c:Exc X.K X.mg x C) (hg:Gl X x) (hh:X.A.handled=none)
  (hz:∀(pins:List (Addr×Obj)) (σ:St) (H:Hp) (s:Shared) (h':Heap) (e:Addr),Inv X pins σ H s->Heap.MadeExcOf s.heap h' e (.ref C) []->E (.ref C) none H->X.xe (.ref e) {s with heap:=h'})
  (hd:(x==("__debug__" : Str))=false:=by decide):PS X (.Raise (some (.Call (.Name x np) [] [] cpos)) none pos) (FD C E):=by
 intro pins s σ H D I h
 obtain⟨tl,N,nm,q,bs,hdct,sn,sub,ab,col,dd,k0,k1,k2,k3,k5,mN,hC,hN,hni,T⟩:=(c.own I.y9).obj
 refine wpAny_Raise_call_subT (C:=C) (nm:=nm) (q:=q) (N:=N) (bs:=bs) (bm:=tl) (hdct:=hdct) (sn:=sn) (sub:=sub) (ab:=ab) (col:=col) (dd:=dd) (k0:=k0) (k1:=k1) (k2:=k2) (k3:=k3) (k5:=k5)
  PySem.F.excBase_Exception (mN:=mN) (T.hasType PySem.F.excBase_Exception.hasBase) hh rfl hni (mT I hg c.g ⟨rfl,?_⟩ hd)
 exact evalArgs_empty ⟨rfl,Nat.zero_le _,hC,hN,T,fun h' e mk=>hz pins σ H s h' e I mk h⟩
theorem u5 {P:Program} {w:World} {K:PySem.W.Frag} {mg:Str->Option Value} {base:Heap} {N:List Str} {qual:Str} {scope:Scope} {f:Addr} {cd:Value} {A:Around} {outer:List Env} {s0:Shared} {H0:Hp} {E:XK} {x:Str} {C:Addr} {np cpos pos:Pos} {k:Nat}
  (c:Exc K mg x C) (hr:iJ k (A.deeper (envOfC qual scope s0.heap.objs.size f cd))) (hg:(envOfC qual scope s0.heap.objs.size f cd).kindOf x=some .globalImplicit:=by rfl) (hd:(x==("__debug__" : Str))=false:=by decide) :
  PS (cx1 P w K mg base N qual scope f cd A outer s0 H0 E) (.Raise (some (.Call (.Name x np) [] [] cpos)) none pos) (FD C E) :=
 FL c hg hr.hd (fun pins σ H s h' e I mk hE=>XZ.made I rfl rfl rfl mk hE) hd
abbrev Cx.hand (X:Cx) (e:Value):Cx:={X with A:=X.A.mark (some e),calm:=false,xe:=fun _ _=>False}
theorem Inv.hand {X:Cx} {pins:List (Addr×Obj)} {σ:St} {H:Hp} {s:Shared} (I:Inv X pins σ H s) (e:Value):Inv (X.hand e) pins σ H s :=
 ⟨⟨I.ok.mod,I.ok.kind,I.ok.glob,I.ok.blt,I.ok.above,I.ok.inj,I.ok.has,I.ok.JR,fun z=>Bool.noConfusion z,I.ok.frames,I.ok.stk,I.ok.exf,I.ok.bs,I.ok.GF,I.ok.CI,I.ok.CV,I.ok.uE,I.ok.HR⟩,I.os,I.bare,I.base,I.loc,I.cell,I.free,I.lY,I.pin,I.dz,I.len⟩
theorem Inv.uU {X:Cx} {e:Value} {pins:List (Addr×Obj)} {σ:St} {H:Hp} {s:Shared} (ok:X.Ok) (I:Inv (X.hand e) pins σ H s):Inv X pins σ H s :=
 ⟨ok,I.os,I.bare,I.base,I.loc,I.cell,I.free,I.lY,I.pin,I.dz,I.len⟩
theorem SP.uU {X:Cx} {e:Value} {pins:List (Addr×Obj)} {D:Ends} {f:Flow} {s':Shared} (ok:X.Ok) (h:SP (X.hand e) pins D f s'):SP X pins D f s':=by
 cases f with
 | next=>obtain⟨σ',H',I,q⟩:=h;exact⟨σ',H',I.uU ok,q⟩
 | brk=>obtain⟨σ',H',I,q⟩:=h;exact⟨σ',H',I.uU ok,q⟩
 | cont=>obtain⟨σ',H',I,q⟩:=h;exact⟨σ',H',I.uU ok,q⟩
 | ret u=>obtain⟨v,σ',H',I,r,q⟩:=h;exact⟨v,σ',H',I.uU ok,r,q⟩
abbrev Cx.rV (X:Cx) (pn:List (Addr×Obj)) (xe:Value->Shared->Prop):Cx:={X with pn:=X.pn++pn,xe:=xe}
theorem Inv.rV {X:Cx} {pins:List (Addr×Obj)} {σ:St} {H:Hp} {s:Shared} (I:Inv X pins σ H s) (xe:Value->Shared->Prop):Inv (X.rV pins xe) [] σ H s :=
 ⟨⟨I.ok.mod,I.ok.kind,I.ok.glob,I.ok.blt,I.ok.above,I.ok.inj,I.ok.has,I.ok.JR,I.ok.hd,I.ok.frames,I.ok.stk,I.ok.exf,I.ok.bs,I.ok.GF,I.ok.CI,I.ok.CV,I.ok.uE,I.ok.HR⟩,I.os,I.bare,I.base,I.loc,I.cell,I.free,I.lY,
  fun p hp=>I.pin p (by rw[List.append_nil] at hp;exact hp),I.dz,I.len⟩
theorem Inv.oF {X:Cx} {pins pins':List (Addr×Obj)} {xe:Value->Shared->Prop} {σ:St} {H:Hp} {s:Shared} (ok:X.Ok) (I:Inv (X.rV pins xe) pins' σ H s):Inv X pins σ H s :=
 ⟨ok,I.os,I.bare,I.base,I.loc,I.cell,I.free,I.lY,fun p hp=>I.pin p (List.mem_append.mpr (.inl hp)),I.dz,I.len⟩
theorem SP.oF {X:Cx} {pins:List (Addr×Obj)} {xe:Value->Shared->Prop} {D:Ends} {f:Flow} {s':Shared} (ok:X.Ok) (h:SP (X.rV pins xe) [] D f s'):SP X pins D f s':=by
 cases f with
 | next=>obtain⟨σ',H',I,q⟩:=h;exact⟨σ',H',I.oF ok,q⟩
 | brk=>obtain⟨σ',H',I,q⟩:=h;exact⟨σ',H',I.oF ok,q⟩
 | cont=>obtain⟨σ',H',I,q⟩:=h;exact⟨σ',H',I.oF ok,q⟩
 | ret u=>obtain⟨v,σ',H',I,r,q⟩:=h;exact⟨v,σ',H',I.oF ok,r,q⟩
def sTry (C:Addr) (E:XK) (tb th:TS):TS:=fun D σ H=>tb D σ H/\∀c H' σ',E c none H'->c=.ref C/\(σ'.length=σ.length->th D σ' H')
theorem Cv {X:Cx} {x:Str} {C:Addr} {E:XK} {body suite:List Stmt} {b0:Stmt} {np hpos pos:Pos} {rest:List ExceptHandler} {tb th:TS} (c:Exc X.K X.mg x C) (hg:Gl X x) (hst:X.stack=X.env::X.outer) (hf:X.env.frame=some X.env.locals) (hx:X.ex=[])
  (hq:OwnClsQ x C [.type "Exception",.type "BaseException",.type "object"] "Exception.__new__" X.mg X.base)
  (hb:∀pn xe,Passes (wg X.prog X.w) (X.rV pn xe) E->Ce (X.rV pn xe) body tb) (hh:∀e,Ce (X.hand e) (b0::suite) th) (hd:(x==("__debug__" : Str))=false:=by decide) :
  PS X (.Try body (.ExceptHandler (some (.Name x np)) none (b0::suite) hpos::rest) [] [] pos) (sTry C E tb th):=by
 intro pins s σ H D I h
 refine wpAny_Try_except ?_
 have key:Passes (wg X.prog X.w) (X.rV pins fun e s₁=>wpAny (model X.prog X.w) X.A (noteFrame e X.env) (fun _ s₂=>wpAny (model X.prog X.w) X.A (setFlight e none) (fun _ s₃=>wpAny (model X.prog X.w) X.A (handleBy e X.env (.ExceptHandler (some (.Name x np)) none (b0::suite) hpos::rest)) (SP X pins D) X.xe s₃) X.xe s₂) X.xe s₁) E:=by
  intro pins' σ1 H1 s1 ev s' I1 hxs
  have I2:Inv X pins σ1 H1 s1:=I1.oF I.ok
  obtain⟨e,cls,a0,B,H',rfl,m,fl,q⟩:=hxs
  have hfr:=I.ok.frames
  rw[show(X.rV pins _).stack=X.stack from rfl,hst,og hf] at m
  rw[show(X.rV pins _).stack=X.stack from rfl,hst] at fl
  rw[hst] at hfr
  obtain⟨hcl,hth⟩:=h.2 cls H' σ1 q
  subst hcl
  have hs:∀b∈X.env.locals::rU X.outer,b∈X.env.locals::rU X.outer\/s1.heap.get? b=none:=fun b hb=>.inl hb
  show wpAny (model X.prog X.w) X.A (noteFrame (.ref e) X.env) _ X.xe s'
  refine(B7.fly (L:=X.env.locals) fl).note hfr hf fun h4 a4 hh4 up4=>?_
  have m4:=m.move (h':=h4) hh4.1 up4 (pd fl.2.2.1 hf) hs
  refine wpAny_landsW (s:={s' with heap:=h4}) hh4 fun h5 fl5 up5=>?_
  have m5:=m4.move (h':=h5) fl5.1 up5 (pd hh4.2.2.1 hf) hs
  have toI:∀{s9:Shared},IK X.prog X.w (X.env.locals::rU X.outer) (X.env.locals::rU X.outer) H1 s1 H' B s9->Inv X pins σ1 H' s9:=fun {s9} m9 =>
   I2.IF (ch:=[]) m9.os (by rw[hst,og hf];exact m9.un) m9.dz m9.bare (fun b z=>absurd z (by simp))
  have I5:=toI m5
  refine handleBy_own (x:=x) (C:=C) (mg:=X.mg) (bmB:=[.type "Exception",.type "BaseException",.type "object"]) (newId := "Exception.__new__") (by decide) (mT (I5.hand (.ref e)) hg c.g ⟨rfl,hq.keeps I5.bk,fl5.there,?_⟩ hd)
  refine lands_againW (s:={{s' with heap:=h4} with heap:=h5}) fl5 fun h6 fl6 up6=>?_
  have m6:=m5.move (h':=h6) fl6.1 up6 (pd fl5.2.2.1 hf) hs
  have I6:=toI m6
  exact wpAny_mono (hh (.ref e) pins _ σ1 H' D (I6.hand _) (hth (by rw[I1.len,I.len]))) (fun f s7 z=>z.uU I.ok) fun _ _ z=>False.elim z
 refine wpAny_mono (hb pins _ key [] s σ H D (I.rV _) h.1) (fun f s1 z=>?_) fun _ _ z=>z
 have z':=z.oF I.ok
 cases f with
 | next=>exact wpAny_execs_nil z'
 | brk=>exact z'
 | cont=>exact z'
 | ret u=>exact z'
end L2
namespace L2
open PySem PySem.Spec PyProof.Rows
def GV (w:World) (p:Key×V) (e:DictEntry):Prop:=e.hash=keyH w p.1/\xN p.1 e.key=true/\RelV p.2 e.val
structure vn (w:World) (K:PySem.W.Frag) (a:Addr) (kvs:List (Key×V)):Prop where
 ex:∃(es:Array DictEntry) (ep:Nat),K.lookup a=some {cls:=.type "dict",dict:=none,data:=.dict es ep,slots:=#[]}/\Paired (GV w) kvs es.toList
 nd:(kvs.map (·.1)).Nodup
 sm:(a==sysModules)=false
 sz:kvs.length<=1000
theorem ents {P:Program} {w:World}:∀{kvs:List (Key×V)} {es:List DictEntry},Paired (GV w) kvs es->∃vs,KV kvs vs/\Pairs (dR P w) es vs/\(∀e∈es,∃k,(dR P w).is k e.key=true/\e.hash=(dR P w).hash k)
 | _,_,.nil=>⟨[],.nil,.nil,fun e he=>nomatch he⟩
 | _,_,.cons (a:=p) (b:=e) h t=>by
  obtain⟨vs,h1,h2,h3⟩:=ents (P:=P) t
  refine⟨(p.1,e.val)::vs,.cons ⟨rfl,h.2.2⟩ h1,.cons h.2.1 rfl h2,fun e' he=>?_⟩
  rcases List.mem_cons.mp he with rfl|he
  ·exact⟨p.1,h.2.1,h.1⟩
  ·exact h3 e' he
theorem vn.at {P:Program} {w:World} {K:PySem.W.Frag} {a:Addr} {kvs:List (Key×V)} {h:Heap} (d:vn w K a kvs) (X:K.In h):∃vs,KV kvs vs/\h.DictOf (dR P w) a vs:=by
 obtain⟨es,ep,hl,r⟩:=d.ex
 obtain⟨vs,h1,h2,h3⟩:=ents (P:=P) r
 exact⟨vs,h1,_,es,ep,X _ _ hl,⟨rfl,rfl,rfl⟩,rfl,fun e he=>h3 e (by simpa using he),h2,by rw[<-h1.keys];exact d.nd⟩
def tMGet (kvs:List (Key×V)) (ty:TE):TE:=fun σ H Q=>ty σ H fun y H1=>∃k v,y=kV k/\qe kvs k=some v/\Q v H1
def tMIn (kvs:List (Key×V)) (ty:TE):TE:=fun σ H Q=>ty σ H fun y H1=>∃k,y=kV k/\Q (.bl (qe kvs k).isSome) H1
section
variable {X:Cx} {x:Str} {a:Addr} {kvs:List (Key×V)} {i:Expr} {ty:TE} {p pos:Pos}
theorem kW (d:vn X.w X.K a kvs) (hg:Gl X x) (hm:X.mg x=some (.ref a)) (hi:PE X i ty) (hs:Ig i:=by intro _ _;rfl) (hd:(x==("__debug__" : Str))=false:=by decide):PE X (.Subscript (.Name x p) i pos) (tMGet kvs ty):=by
 intro pins s σ H Q I h
 refine Dk PySem.F.slot_dict_getitem.lookup hs (mT I hg hm (eS (hi pins s σ H _ I h) fun iv s2 ⟨y,H2,I2,ry,k,v,ey,l,q2⟩=>?_) hd)
 obtain⟨vs,rel,dd⟩:=d.at (P:=X.prog) I2.y9
 obtain⟨w',hw,rw'⟩:=uL.some_of (v:=v) (o:=valueAt vs k) (by rw[<-l];exact rel.val k)
 subst ey
 exact⟨dd.typeIs,wpAny_getItem_of (F7 ry) dd.mapOf hw ⟨v,H2,I2.tok _,rw',q2⟩⟩
theorem JB (d:vn X.w X.K a kvs) (hg:Gl X x) (hm:X.mg x=some (.ref a)) (hi:PE X i ty) (hd:(x==("__debug__" : Str))=false:=by decide):PC X .In i (.Name x p) (tMIn kvs ty):=by
 intro pins s σ H Q I h
 refine eS (hi pins s σ H _ I h) fun iv s1 ⟨y,H1,I1,ry,k,ey,q1⟩=>mT I1 hg hm ?_ hd
 subst ey
 obtain⟨vs,rel,dd⟩:=d.at (P:=X.prog) I1.y9
 refine wpAny_in_of (F7 ry) d.sm dd.mapOf ?_
 rw[<-(rel.val k).EZ]
 exact⟨.bl _,H1,I1.tok _,rfl,q1⟩
theorem zk (d:vn X.w X.K a kvs):zN X (.builtin "len") (fun xs H Q=>xs=[V.ref a]/\Q (.int kvs.length) H):=by
 intro pins s σ H xs us Q I r h
 obtain⟨rfl,q⟩:=h
 obtain⟨u,rfl,ru⟩:=vals1 r
 cases ru
 obtain⟨vs,rel,dd⟩:=d.at (P:=X.prog) I.y9
 have z:=d.sz
 refine call_len_dict d.sm dd (by rw[<-rel.length];omega) ?_
 rw[<-rel.length]
 exact⟨.int kvs.length,H,I.tok _,⟨_,rfl⟩,q⟩
end
def I0 {I:Type} (addr:I->Addr) (sp:I->Sp) (E:XK) (tf:TE) (t:TA):TE:=fun σ H Q=>tf σ H fun x H1=>∃j,x=.ref (addr j)/\t σ H1 fun vs H2=>sp j vs H2 Q E
theorem FW {X:Cx} {CX:B9} {k:Nat} {I:Type} {addr:I->Addr} {sp:I->Sp} {E:XK} {fe e:Expr} {es:List Expr} {tf:TE} {t:TA} {pos:Pos} (hf:PE X fe tf)
  (F:∀j,∃fd ps,aS X.prog X.w X.K X.mg X.base CX k (addr j) fd ps (sp j)/\PySem.W.keepIn X.K (.ref (addr j))=true/\Binds X.K fd ps []) (hr:iJ k X.A) (hx:Passes CX X E) (ha:PA X (e::es) t)
  (hev:eval (.Call fe (e::es) [] pos) X.env=(do callWith pos (<-eval fe X.env) [] (backTo pos (starEach (e::es) X.env)) (backToKw pos (keywordEach [] X.env))):=by rfl)
  (he:starEach (e::es) X.env=(false,eval e X.env)::starEach es X.env:=by rfl) (hpl:(backTo pos (starEach es X.env)).any (·.1)=false:=by rfl) :
  PE X (.Call fe (e::es) [] pos) (I0 addr sp E tf t):=by
 intro pins s σ H Q I h
 rw[hev]
 refine wpAny_bind (eS (hf pins s σ H _ I h) fun u s1 ⟨x,H1,I1,rx,j,ex,q1⟩=>?_)
 subst ex
 obtain rfl:u=Value.ref (addr j):=rx
 obtain⟨fd,ps,G,hk,hb⟩:=F j
 refine PySem.W.callWith_K (h₀:=X.base) I.ok.mod.kin hk (eS (ha pos pins s1 σ H1 _ I1 q1) fun us s2 ⟨vs,H2,I2,r,q⟩=>⟨I2.y9,?_⟩) he hpl
 refine zZ (dvs:=[]) G hr hb .nil hx I2 r ?_
 rw[List.append_nil]
 exact q
theorem aS.lift {P:Program} {w:World} {K:PySem.W.Frag} {mg:Str->Option Value} {base:Heap} {CX:B9} {k:Nat} {f:Addr} {fd:FuncData} {ps:List Str} {sp:Sp} (F:aS P w K mg base eV k f fd ps sp):aS P w K mg base CX k f fd ps sp :=
 ⟨F.len,fun A outer s H args us vs Q E hr e0 hb hv hs=>codeAny_mono (F.run A outer s H args us vs Q E hr e0 hb hv hs) fun r s' h=>by
  cases r with
  | error e=>exact False.elim h
  | ok fl=>cases fl<;>exact h⟩
end L2
namespace L2
open PySem PySem.Spec PyProof.Rows
abbrev BH:=List (List Key)×Addr×Value
def IU (P:Program) (w:World) (a:Addr) (xs:List BH) (h:Heap):Prop :=
 ∃o es ep,h.get? a=some o/\o.ExactDict/\o.data=.dict es ep/\es.toList=xs.map (entryOfKey (qH (dR P w)))/\(xs.map (·.1)).Nodup
def DN (P:Program) (w:World) (a:Addr) (xs:List BH):HO:=.ext (IU P w a xs)
inductive NK (H:Hp) (b:Addr) (ks:List (List Key)):Prop|mk (rs:List Addr):H b=some (.tup (rs.map V.ref))->Paired (fun k r=>H r=some (.tup (k.map kV))) ks rs->NK H b ks
theorem yW:∀{rs:List Addr} {us:List Value},Vals (rs.map V.ref) us->us=rs.map Value.ref
 | [],_,r=>by cases r;rfl
 | a::rs,_,r=>by
  rw[List.map_cons] at r
  cases r with
  | cons h t=>rw[yW t];cases h;rfl
theorem NK.is {P:Program} {w:World} {H:Hp} {h:Heap} {b:Addr} {ks:List (List Key)} (k:NK H b ks) (ok:p9 P w H h):cJ (dR P w) h ks b:=by
 obtain⟨rs,e,pr⟩:=k
 obtain⟨_,its,r,o,h1,h2,n,h3⟩:=(show eU P w H h b (.tup (rs.map V.ref)) from ok b _ e)
 have ei:=yW r
 subst ei
 refine⟨o,_,n,h1,h2,h3,?_⟩
 have all:∀{l:List (List Key)} {m:List Addr},Paired (fun k r=>H r=some (.tup (k.map kV))) l m->eI (dR P w) h l (m.map Value.ref):=by
  intro l m q
  induction q with
  | nil=>exact .nil
  | cons hq t ih=>exact .cons (JI ok hq) ih
 simpa using all pr
theorem NK.mono {H H':Hp} {b:Addr} {ks:List (List Key)} (k:NK H b ks) (t:∀b xs,H b=some (.tup xs)->H' b=some (.tup xs)):NK H' b ks:=by
 obtain⟨rs,e,pr⟩:=k
 exact⟨rs,t _ _ e,Paired.bL pr fun _ _ z=>t _ _ z⟩
structure yS (P:Program) (w:World) (H:Hp) (d:Addr) (xs:List BH):Prop where
 ob:H d=some (DN P w d xs)
 ks:∀x∈xs,NK H x.2.1 x.1
 sm:(d==sysModules)=false
theorem yS.dict {P:Program} {w:World} {H:Hp} {h:Heap} {d:Addr} {xs:List BH} (x:yS P w H d xs) (ok:p9 P w H h):h.DictOfH (qH (dR P w)) d xs:=by
 obtain⟨⟨o,es,ep,h1,h2,h3,h4,h5⟩,_⟩:=(show eU P w H h d (DN P w d xs) from ok d _ x.ob)
 exact⟨o,es,ep,h1,h2,h3,h4,fun y hy=>(x.ks y hy).is ok,h5⟩
theorem Gy {P:Program} {w:World} {H':Hp} {h':Heap} {d:Addr} {xs:List BH} (q:IU P w d xs h'):eU P w H' h' d (DN P w d xs):=by
 refine⟨q,?_,fun h1 h2 p k=>?_⟩
 ·obtain⟨o,_,_,h1,_⟩:=q;exact⟨o,h1⟩
 ·obtain⟨o,es,ep,e,r⟩:=p;exact⟨o,es,ep,k o e,r⟩
def Fo (P:Program) (w:World):TE:=fun _ H Q=>∀p,H p=none->(p==sysModules)=false->Q (.ref p) (upd H p (DN P w p []))
theorem FV {X:Cx} {pos:Pos}:PE X (.Dict [] [] pos) (Fo X.prog X.w):=fun pins s σ H Q I h =>
 wpAny_Dict_empty ⟨.ref s.heap.objs.size,_,I.laid (a:=s.heap.objs.size) (o:=DN X.prog X.w s.heap.objs.size []) (t':=s.toks) (fun _ _ q=>Heap.get?_push_of_some _ q) (Nat.le_refl _)
  (Gy ⟨_,#[],0,Heap.get?_push_size _ rfl,⟨rfl,rfl,rfl⟩,rfl,rfl,List.nodup_nil⟩),rfl,h _ (I.dz.fresh (Nat.le_refl _)) (beq_eq_false_iff_ne.mpr (Ne.symm (Nat.ne_of_lt I.big)))⟩
def Dj (P:Program) (w:World) (ty td:TE):TE:=fun σ H Q=>ty σ H fun y H1=>td σ H1 fun x H2=>∃d b xs ks,x=.ref d/\y=.ref b/\yS P w H2 d xs/\NK H2 b ks/\Q (.bl (!(atKey xs ks).isSome)) H2
def Ik (P:Program) (w:World) (td ty:TE):TE:=fun σ H Q=>td σ H fun x H1=>ty σ H1 fun y H2=>∃d b xs ks p v,x=.ref d/\y=.ref b/\yS P w H2 d xs/\NK H2 b ks/\atKey xs ks=some p/\RelV v p.2/\Q v H2
def Io (P:Program) (w:World) (td ty tv:TE):TS:=fun D σ H=>tv σ H fun v H1=>td σ H1 fun x H2=>ty σ H2 fun y H3=>∃d b xs ks,x=.ref d/\y=.ref b/\yS P w H3 d xs/\NK H3 b ks/\xs.length<sizeLine /\
 ∀u,RelV v u->D.nx σ (upd H3 d (DN P w d (storedH xs ks b u)))
section
variable {X:Cx} {o i value:Expr} {pos pos':Pos} {td ty tv:TE}
theorem EN (hu:X.A.units+2<cLine) (hi:PE X i ty) (ho:PE X o td):PC X .NotIn i o (Dj X.prog X.w ty td):=by
 intro pins s σ H Q I h
 refine eS (hi pins s σ H _ I h) fun iv s1 ⟨y,H1,I1,ry,q1⟩=>eS (ho pins s1 σ H1 _ I1 q1) fun u s2 ⟨x,H2,I2,rx,d,b,xs,ks,ex,ey,dn,nk,q2⟩=>?_
 subst ex ey
 obtain rfl:u=Value.ref d:=rx
 obtain rfl:iv=Value.ref b:=ry
 refine wpAny_notIn_heap (knd:=qH (dR X.prog X.w)) (show X.A.in1.units+1<cLine from hu) (nk.is I2.dz) dn.sm (dn.dict I2.dz) ?_
 exact⟨.bl _,H2,I2.tok _,rfl,q2⟩
theorem HA (hu:X.A.units+2<cLine) (ho:PE X o td) (hi:PE X i ty) (hs:Ig i:=by intro _ _;rfl):PE X (.Subscript o i pos) (Ik X.prog X.w td ty):=by
 intro pins s σ H Q I h
 refine Dk PySem.F.slot_dict_getitem.lookup hs (eS (ho pins s σ H _ I h) fun u s1 ⟨x,H1,I1,rx,q1⟩=>eS (hi pins s1 σ H1 _ I1 q1) fun iv s2 ⟨y,H2,I2,ry,d,b,xs,ks,p,v,ex,ey,dn,nk,hp,rv,q2⟩=>?_)
 subst ex ey
 obtain rfl:u=Value.ref d:=rx
 obtain rfl:iv=Value.ref b:=ry
 have dd:=dn.dict I2.dz
 exact⟨dd.typeIs,wpAny_getItem_heap (knd:=qH (dR X.prog X.w)) (show X.A.in1.units+1<cLine from hu) (nk.is I2.dz) dd hp ⟨v,H2,I2.tok _,rv,q2⟩⟩
theorem Hv (hu:X.A.units+2<cLine) (ho:PE X o td) (hi:PE X i ty) (hv:PE X value tv) (hs:swapsWith value (some (.Subscript o i pos')) pos.line X.env=pure false:=by rfl) :
  PS X (.Assign [.Subscript o i pos'] value pos) (Io X.prog X.w td ty tv):=by
 intro pins s σ H D I h
 refine wpAny_Assign_Subscript (eS (hv pins s σ H _ I h) fun r s1 ⟨v,H1,I1,rv,q1⟩=>eS (ho pins s1 σ H1 _ I1 q1) fun u s2 ⟨x,H2,I2,rx,q2⟩=>eS (hi pins s2 σ H2 _ I2 q2) fun iv s3 ⟨y,H3,I3,ry,d,b,xs,ks,ex,ey,dn,nk,hl,q3⟩=>?_) hs
 subst ex ey
 obtain rfl:u=Value.ref d:=rx
 obtain rfl:iv=Value.ref b:=ry
 refine wpAny_setItem_heap (knd:=qH (dR X.prog X.w)) (hsz:=Nat.le_of_lt hl) (show X.A.in1.units+1<cLine from hu) (nk.is I3.dz) (dn.dict I3.dz) fun h' dd' hs'=>?_
 obtain⟨q,es,ep,hq,h2,h3,h4,_,h5⟩:=dd'
 exact⟨σ,_,HX (t':=_) I3 (by rw[dn.ob];exact True.intro) hs' ⟨q,hq⟩ (Gy ⟨q,es,ep,hq,h2,h3,h4,h5⟩),q3 r rv⟩
end
section
variable {X:Cx} {P:Program} {w:World} {o i value:Expr} {pos pos':Pos} {td ty tv:TE}
theorem Cz (hu:X.A.units+2<cLine) (hi:PE X i ty) (ho:PE X o td) (hP:X.prog=P:=by rfl) (hw:X.w=w:=by rfl):PC X .NotIn i o (Dj P w ty td):=by subst hP hw;exact EN hu hi ho
theorem FU (hu:X.A.units+2<cLine) (ho:PE X o td) (hi:PE X i ty) (hP:X.prog=P:=by rfl) (hw:X.w=w:=by rfl) (hs:Ig i:=by intro _ _;rfl):PE X (.Subscript o i pos) (Ik P w td ty):=by subst hP hw;exact HA hu ho hi hs
theorem FN (hu:X.A.units+2<cLine) (ho:PE X o td) (hi:PE X i ty) (hv:PE X value tv) (hP:X.prog=P:=by rfl) (hw:X.w=w:=by rfl) (hs:swapsWith value (some (.Subscript o i pos')) pos.line X.env=pure false:=by rfl) :
  PS X (.Assign [.Subscript o i pos'] value pos) (Io P w td ty tv):=by subst hP hw;exact Hv hu ho hi hv hs
theorem EM (hP:X.prog=P:=by rfl) (hw:X.w=w:=by rfl):PE X (.Dict [] [] pos) (Fo P w):=by subst hP hw;exact FV
end
end L2
namespace L2
open PySem PySem.Spec PyProof.Rows
def FI (K:PySem.W.Frag):R2:=fun x y H Q=>∃a b xs ys,x=.ref a/\y=.ref b/\dM K H a xs/\dM K H b ys/\xs.length+ys.length<=sizeLine /\
 (xs=[]->Q (.ref b) H)/\(xs≠[]->ys=[]->Q (.ref a) H)/\(xs≠[]->ys≠[]->∀p,H p=none->Q (.ref p) (upd H p (.tup (xs++ys))))
theorem HF {X:Cx}:De X (binaryOp .Add) (FI X.K):=by
 intro pins s σ H x y v u Q I rx ry h
 obtain⟨a,b,xs,ys,rfl,rfl,ha,hb,hz,q0,q1,q2⟩:=h
 by_cases hx:xs=[]
 ·cases rx
  cases ry
  obtain⟨its,r1,p1,_⟩:=I.tuple ha
  obtain⟨its2,r2,p2,_⟩:=I.tuple hb
  have hi:its=[]:=r1.wQ.mpr hx
  obtain⟨⟨cls,dd,data,sl⟩,ho,hc,n,hd⟩:=p1
  obtain⟨⟨cls2,dd2,data2,sl2⟩,ho2,hc2,n2,hd2⟩:=p2
  simp only at hc hd hc2 hd2
  subst hc hd hc2 hd2
  exact concat_meets ⟨_,ho,rfl⟩ ⟨_,ho2,rfl⟩ noFill_tuple_add seq_tuple_add PySem.F.slot_tuple_add PySem.F.entry_tuple_add (PySem.F.args_tuple_add_2 _ _)
   (tuple_addW0 a b its.toArray its2.toArray n n2 dd dd2 sl sl2 (by simp[hi])) ⟨ho,ho2,⟨.ref b,H,I,rfl,q0 hx⟩⟩
 ·exact wN pins s σ H _ _ v u Q I rx ry ⟨a,b,xs,ys,rfl,rfl,ha,hb,hx,hz,q1 hx,q2 hx⟩
end L2
set_option maxHeartbeats 1000000
namespace Bt
open PySem PySem.Spec PyProof.Rows L2
theorem A1 {α β:Type} {F:α->β->Prop}:∀{l:List α} {m:List β} {i:Nat} {a:α},Paired F l m->l[i]?=some a->∃b,m[i]?=some b/\F a b
 | _,_,_,_,.nil,h=>by simp at h
 | _,_,0,_,.cons h _,e=>⟨_,rfl,by simp at e;subst e;exact h⟩
 | _,_,i+1,_,.cons _ t,e=>by
  obtain⟨b,h1,h2⟩:=A1 (i:=i) t (by simpa using e)
  exact⟨b,by simpa using h1,h2⟩
theorem ug {α β:Type} {F:α->β->Prop}:∀{l:List α} {m:List β} {i:Nat} {b:β},Paired F l m->m[i]?=some b->∃a,l[i]?=some a/\F a b
 | _,_,_,_,.nil,h=>by simp at h
 | _,_,0,_,.cons h _,e=>⟨_,rfl,by simp at e;subst e;exact h⟩
 | _,_,i+1,_,.cons _ t,e=>by
  obtain⟨a,h1,h2⟩:=ug (i:=i) t (by simpa using e)
  exact⟨a,by simpa using h1,h2⟩
theorem papp {α β:Type} {F:α->β->Prop}:∀{l l':List α} {m m':List β},Paired F l m->Paired F l' m'->Paired F (l++l') (m++m')
 | _,_,_,_,.nil,h=>h
 | _,_,_,_,.cons h t,h'=>.cons h (papp t h')
theorem Cw {α β:Type} {F:α->β->Prop}:∀{l:List α} {m:List β} (i:Nat),Paired F l m->Paired F (l.eraseIdx i) (m.eraseIdx i)
 | _,_,_,.nil=>by simp;exact .nil
 | _,_,0,.cons _ t=>by simpa using t
 | _,_,i+1,.cons h t=>by simpa using .cons h (Cw i t)
theorem zl:∀{ns:List Str} {vs:List V} (i:Nat) {f:Str} {v:V},ns.Nodup->ns[i]?=some f->vs[i]?=some v->(ns.zip vs).lookup f=some v
 | [],_,_,_,_,_,h,_=>by simp at h
 | _::_,[],_,_,_,_,_,h=>by simp at h
 | n::ns,w::vs,0,f,v,_,h1,h2=>by
  simp at h1 h2;subst h1 h2
  simp[List.lookup]
 | n::ns,w::vs,i+1,f,v,nd,h1,h2=>by
  have nd':=List.nodup_cons.mp nd
  have h1':ns[i]?=some f:=by simpa using h1
  have ne:(f==n)=false:=beq_eq_false_iff_ne.mpr fun e=>nd'.1 (by rw[<-e];exact List.mem_of_getElem? h1')
  rw[List.zip_cons_cons]
  simp only[List.lookup,ne]
  exact zl i nd'.2 h1' (by simpa using h2)
theorem zp:∀{ns:List Str} {vs:List V} (i:Nat) {f:Str} {v:V},ns.Nodup->ns[i]?=some f->i<vs.length->lK f v (ns.zip vs)=ns.zip (vs.set i v)
 | [],_,_,_,_,_,h,_=>by simp at h
 | _::_,[],_,_,_,_,_,h=>by simp at h
 | n::ns,w::vs,0,f,v,_,h1,h2=>by
  simp at h1;subst h1
  show(if n=n then (n,v)::ns.zip vs else _)=_
  rw[if_pos rfl];rfl
 | n::ns,w::vs,i+1,f,v,nd,h1,h2=>by
  have nd':=List.nodup_cons.mp nd
  have h1':ns[i]?=some f:=by simpa using h1
  have ne:¬n=f:=fun e=>nd'.1 (by rw[e];exact List.mem_of_getElem? h1')
  show(if n=f then _ else (n,w)::lK f v (ns.zip vs))=_
  rw[if_neg ne,zp i nd'.2 h1' (by simpa using h2)]
  rfl
theorem zn:∀{ns:List Str} {vs:List V} {f:Str},f∉ns->(ns.zip vs).lookup f=none
 | [],_,_,_=>by simp[List.lookup]
 | _::_,[],_,_=>by simp[List.lookup]
 | n::ns,w::vs,f,h=>by
  have ne:(f==n)=false:=beq_eq_false_iff_ne.mpr fun e=>h (by rw[e];exact List.mem_cons_self)
  rw[List.zip_cons_cons]
  simp only[List.lookup,ne]
  exact zn fun z=>h (List.mem_cons_of_mem _ z)
theorem Ih:∀{ns:List Str} {vs:List V} {f:Str} {v:V},f∉ns->ns.length=vs.length->lK f v (ns.zip vs)=(ns++[f]).zip (vs++[v])
 | [],[],f,v,_,_=>rfl
 | [],_::_,_,_,_,h=>by simp at h
 | _::_,[],_,_,_,h=>by simp at h
 | n::ns,w::vs,f,v,h,hl=>by
  have ne:¬n=f:=fun e=>h (by rw[e];exact List.mem_cons_self)
  show(if n=f then _ else (n,w)::lK f v (ns.zip vs))=_
  rw[if_neg ne,Ih (fun z=>h (List.mem_cons_of_mem _ z)) (by simpa using hl)]
  rfl
structure Ch (ex:List Addr) (H H':Hp):Prop where
 fr:∀b o,H b=some o->b∉ex->H' b=some o
 tu:∀b xs,H b=some (.tup xs)->H' b=some (.tup xs)
 fz:∀b o u,H b=some (.wU o u)->H' b=some (.wU o u)
theorem Ch.refl (ex:List Addr) (H:Hp):Ch ex H H:=⟨fun _ _ h _=>h,fun _ _ h=>h,fun _ _ _ h=>h⟩
theorem Ch.mono {ex ex':List Addr} {H H':Hp} (c:Ch ex H H') (s:∀b∈ex,b∈ex'):Ch ex' H H':=⟨fun b o h n=>c.fr b o h fun z=>n (s b z),c.tu,c.fz⟩
theorem Ch.trans {ex:List Addr} {H H1 H2:Hp} (a:Ch ex H H1) (b:Ch ex H1 H2):Ch ex H H2:=⟨fun c o h n=>b.fr c o (a.fr c o h n) n,fun c xs h=>b.tu c xs (a.tu c xs h),fun c o u h=>b.fz c o u (a.fz c o u h)⟩
theorem Ch.trans' {ex ex2:List Addr} {H H1 H2:Hp} (a:Ch ex H H1) (b:Ch ex2 H1 H2) (h:∀c∈ex2,c∈ex\/H c=none):Ch ex H H2 :=
 ⟨fun c o e n=>b.fr c o (a.fr c o e n) fun z=>(h c z).elim n fun y=>(by rw[y] at e;cases e),fun c xs h=>b.tu c xs (a.tu c xs h),fun c o u h=>b.fz c o u (a.fz c o u h)⟩
theorem Ch.new {ex:List Addr} {H:Hp} {p:Addr} {o:HO} (h:H p=none):Ch ex H (upd H p o) :=
 ⟨fun b u e _=>by rw[aE (ay e h)];exact e,fun b u e=>by rw[aE (ay e h)];exact e,fun b o u e=>by rw[aE (ay e h)];exact e⟩
def Mu:HO->Prop
 | .tup _=>False
 | .wU _ _=>False
 | _=>True
theorem Ch.put {ex:List Addr} {H:Hp} {p:Addr} {o u:HO} (h:H p=some u) (m:Mu u) (hp:p∈ex):Ch ex H (upd H p o) :=
 ⟨fun b v e n=>by rw[aE fun z=>n (by rw[z];exact hp)];exact e, fun b v e=>by rw[aE fun z=>by rw[z,h] at e;cases e;exact m];exact e, fun b v u' e=>by rw[aE fun z=>by rw[z,h] at e;cases e;exact m];exact e⟩
theorem Ch.free {ex:List Addr} {H H':Hp} (c:Ch ex H H') {a:Addr} (h:H' a=none) (n:a∉ex):H a=none:=by
 cases q:H a with
 | none=>rfl
 | some o=>rw[c.fr a o q n] at h;cases h
inductive MV where
 | num (z:Int)
 | name (i:Nat)
 | two (i:Nat)
 deriving DecidableEq
def MV.tag:MV->Int
 | .num _=>0
 | .name _=>1
 | .two _=>2
def MV.CA:MV->Int
 | .num z=>z
 | .name i=>i
 | .two i=>i
theorem MV.inj {a b:MV} (h1:a.tag=b.tag) (h2:a.CA=b.CA):a=b:=by
 cases a<;>cases b<;>simp_all [MV.tag,MV.CA]<;>omega
abbrev Tab:=List (MV×MV)
abbrev qX:=List (List Nat)
def AA (z:Int):Prop := -2147483648<=z/\z<=2147483647
inductive Den (hv:Tab) (bz:qX):MV->Ha09.Val->Prop
 | num {z:Int}:AA z->Den hv bz (.num z) (.num z)
 | name {i:Nat} {p:List Nat}:bz[i]?=some p->Den hv bz (.name (i+1)) (.pid p)
 | two {i:Nat} {a b:MV} {x y:Ha09.Val}:hv[i]?=some (a,b)->Den hv bz a x->Den hv bz b y->Den hv bz (.two i) (.pair x y)
theorem uf {α:Type} {l m:List α} (h:l<+:m) {i:Nat} {x:α} (e:l[i]?=some x):m[i]?=some x:=by
 obtain⟨t,rfl⟩:=h
 rw[List.getElem?_append_left (List.getElem?_eq_some_iff.mp e).1];exact e
theorem Den.mono {hv hv':Tab} {bz nms':qX} (h1:hv<+:hv') (h2:bz<+:nms') {m:MV} {x:Ha09.Val} (d:Den hv bz m x):Den hv' nms' m x:=by
 induction d with
 | num h=>exact .num h
 | name h=>exact .name (uf h2 h)
 | two h _ _ ia ib=>exact .two (uf h1 h) ia ib
theorem Den.fn {hv:Tab} {bz:qX} {m:MV} {x y:Ha09.Val} (d:Den hv bz m x) (e:Den hv bz m y):x=y:=by
 induction d generalizing y with
 | num h=>cases e;rfl
 | name h=>cases e with|name h'=>rw[h] at h';cases h';rfl
 | two h _ _ ia ib=>cases e with|two h' ea eb=>rw[h] at h';cases h';rw[ia ea,ib eb]
theorem Den.inj {hv:Tab} {bz:qX} (n1:hv.Nodup) (n2:bz.Nodup) {m m':MV} {x:Ha09.Val} (d:Den hv bz m x) (e:Den hv bz m' x):m=m':=by
 induction d generalizing m' with
 | num h=>cases e;rfl
 | name h=>cases e with|name h'=>rw[L2.Iy n2 h h']
 | two h _ _ ia ib=>cases e with|two h' ea eb=>rw[ia ea,ib eb] at h;rw[L2.Iy n1 h h']
inductive VA (H:Hp) (v:V) (m:MV):Prop|mk (a:_):v=.ref a->H a=some (.tup [.int m.tag,.int m.CA])->VA H v m
theorem VA.mono {ex:List Addr} {H H':Hp} {v:V} {m:MV} (c:Ch ex H H') (h:VA H v m):VA H' v m:=let ⟨a,e,q⟩:=h;⟨a,e,c.tu _ _ q⟩
inductive VR (H:Hp) (hv:Tab) (bz:qX) (v:V) (x:Ha09.Val):Prop|mk (m:_):VA H v m->Den hv bz m x->VR H hv bz v x
theorem VR.mono {ex:List Addr} {H H':Hp} {hv hv':Tab} {bz nms':qX} {v:V} {x:Ha09.Val} (c:Ch ex H H') (h1:hv<+:hv') (h2:bz<+:nms') (h:VR H hv bz v x):VR H' hv' nms' v x :=
 let ⟨m,a,d⟩:=h;⟨m,a.mono c,d.mono h1 h2⟩
theorem VR.num {H:Hp} {hv:Tab} {bz:qX} {a:Addr} {z:Int} (h:H a=some (.tup [.int 0,.int z])) (r:AA z):VR H hv bz (.ref a) (.num z):=⟨.num z,⟨a,rfl,h⟩,.num r⟩
theorem VR.pid {H:Hp} {hv:Tab} {bz:qX} {a:Addr} {i:Nat} {p:List Nat} (h:H a=some (.tup [.int 1,.int ((i+1:Nat):Int)])) (r:bz[i]?=some p):VR H hv bz (.ref a) (.pid p):=⟨.name (i+1),⟨a,rfl,h⟩,.name r⟩
inductive Fd (H:Hp) (hv:Tab) (bz:qX) (v:V) (e:List Ha09.Val):Prop|mk (a:_) (vs:_):v=.ref a->H a=some (.tup vs)->Paired (VR H hv bz) vs e->Fd H hv bz v e
theorem Fd.mono {ex:List Addr} {H H':Hp} {hv hv':Tab} {bz nms':qX} {v:V} {x:List Ha09.Val} (c:Ch ex H H') (h1:hv<+:hv') (h2:bz<+:nms') (h:Fd H hv bz v x):Fd H' hv' nms' v x :=
 let ⟨a,vs,e,q,r⟩:=h;⟨a,vs,e,c.tu _ _ q,Paired.bL r fun _ _ z=>z.mono c h1 h2⟩
inductive T where
 | leaf (i:Int)
 | node (l:List T)
def TupAt (K:PySem.W.Frag) (H:Hp) (a:Addr) (xs:List V):Prop:=H a=some (.tup xs) \/
  ∃(o:Obj) (its:Array Value) (n:Nat),K.lookup a=some o/\o.cls=.type "tuple" /\ o.data=.seq its n/\its.size<=sizeLine/\Vals xs its.toList
theorem TupAt.sq {K:PySem.W.Frag} {H:Hp} {a:Addr} {xs:List V} (h:TupAt K H a xs):dM K H a xs:=by
 rcases h with h|h
 ·exact .inl (.inl h)
 ·exact .inr h
theorem TupAt.mono {K:PySem.W.Frag} {ex:List Addr} {H H':Hp} {a:Addr} {xs:List V} (c:Ch ex H H') (h:TupAt K H a xs):TupAt K H' a xs:=h.elim (fun h=>.inl (c.tu _ _ h)) .inr
mutual
inductive TR (K:PySem.W.Frag) (H:Hp):V->T->Prop
 | leaf {i:Int}:TR K H (.int i) (.leaf i)
 | node {a:Addr} {vs:List V} {ts:List T}:TupAt K H a vs->vm K H vs ts->TR K H (.ref a) (.node ts)
inductive vm (K:PySem.W.Frag) (H:Hp):List V->List T->Prop
 | nil:vm K H [] []
 | cons {v:V} {t:T} {vs:List V} {ts:List T}:TR K H v t->vm K H vs ts->vm K H (v::vs) (t::ts)
end
mutual
theorem TR.mono {K:PySem.W.Frag} {ex:List Addr} {H H':Hp} (c:Ch ex H H'):∀{v:V} {t:T},TR K H v t->TR K H' v t
 | _,_,.leaf=>.leaf
 | _,_,.node h r=>.node (h.mono c) (vm.mono c r)
theorem vm.mono {K:PySem.W.Frag} {ex:List Addr} {H H':Hp} (c:Ch ex H H'):∀{vs:List V} {ts:List T},vm K H vs ts->vm K H' vs ts
 | _,_,.nil=>.nil
 | _,_,.cons h r=>.cons (TR.mono c h) (vm.mono c r)
end
theorem vm.snoc {K:PySem.W.Frag} {H:Hp} {v:V} {t:T} (h:TR K H v t):∀{vs:List V} {ts:List T},vm K H vs ts->vm K H (vs++[v]) (ts++[t])
 | _,_,.nil=>.cons h .nil
 | _,_,.cons q r=>.cons q (vm.snoc h r)
def oh:Ha09.Pat->T
 | .any=>.node [.leaf 0]
 | .keep=>.node [.leaf 1]
 | .num z=>.node [.leaf 2,.leaf z]
 | .same i=>.node [.leaf 3,.leaf i]
 | .pair p q=>.node [.leaf 4,oh p,oh q]
def eL:Ha09.Expr->T
 | .num z=>.node [.leaf 0,.leaf z]
 | .var i=>.node [.leaf 1,.leaf i]
 | .pair a b=>.node [.leaf 2,eL a,eL b]
 | .op k a b=>.node [.leaf 3,.leaf k,eL a,eL b]
 | .let_ a b=>.node [.leaf 4,eL a,eL b]
 | .case a p b c=>.node [.leaf 5,eL a,oh p,eL b,eL c]
 | .call f a=>.node [.leaf 6,.leaf f,eL a]
 | .recv p b q c=>.node [.leaf 7,oh p,eL b,oh q,eL c]
 | .wait t p b c=>.node [.leaf 8,.leaf t,oh p,eL b,eL c]
 | .send a b=>.node [.leaf 9,eL a,eL b]
 | .spawn f a=>.node [.leaf 10,.leaf f,eL a]
 | .self=>.node [.leaf 11]
 | .watch a=>.node [.leaf 12,eL a]
 | .raise a=>.node [.leaf 13,eL a]
 | .try_ a b=>.node [.leaf 14,eL a,eL b]
 | .say a=>.node [.leaf 15,eL a]
def vG:Ha09.Pat->Nat
 | .pair p q=>vG p+vG q+1
 | _=>1
def b7:Ha09.Expr->Nat
 | .num _=>1
 | .var _=>1
 | .pair a b=>max (b7 a) (b7 b)+1
 | .op _ a b=>max (b7 a) (b7 b)+1
 | .let_ a b=>max (b7 a) (b7 b)+1
 | .case a _ b c=>max (b7 a) (max (b7 b) (b7 c))+1
 | .call _ a=>b7 a+1
 | .recv _ b _ c=>max (b7 b) (b7 c)+1
 | .wait _ _ b c=>max (b7 b) (b7 c)+1
 | .send a b=>max (b7 a) (b7 b)+1
 | .spawn _ a=>b7 a+1
 | .self=>1
 | .watch a=>b7 a+1
 | .raise a=>b7 a+1
 | .try_ a b=>max (b7 a) (b7 b)+1
 | .say a=>b7 a+1
def vB:Ha09.Expr->Prop
 | .num z=>0<=z/\z<=1000000
 | .var _=>True
 | .pair a b=>vB a/\vB b
 | .op k a b=>k<=6/\vB a/\vB b
 | .let_ a b=>vB a/\vB b
 | .case a p b c=>vB a/\vG p<=31/\vB b/\vB c
 | .call _ a=>vB a
 | .recv p b q c=>vG p<=31/\vB b/\vG q<=31/\vB c
 | .wait _ p b c=>vG p<=31/\vB b/\vB c
 | .send a b=>vB a/\vB b
 | .spawn _ a=>vB a
 | .self=>True
 | .watch a=>vB a
 | .raise a=>vB a
 | .try_ a b=>vB a/\vB b
 | .say a=>vB a
def NR (K:PySem.W.Frag) (H:Hp) (v:V) (e:Ha09.Expr):Prop:=TR K H v (eL e)/\vB e
theorem NR.mono {K:PySem.W.Frag} {ex:List Addr} {H H':Hp} {v:V} {e:Ha09.Expr} (c:Ch ex H H') (h:NR K H v e):NR K H' v e:=⟨h.1.mono c,h.2⟩
structure NE (K:PySem.W.Frag) (H:Hp) (hv:Tab) (bz:qX) (nv vv:V) (a:Ha09.Expr) (e:List Ha09.Val):Prop where
 n:NR K H nv a
 v:Fd H hv bz vv e
 z:e.length+32*b7 a<=700
theorem NE.mono {K:PySem.W.Frag} {ex:List Addr} {H H':Hp} {hv hv':Tab} {bz nms':qX} {nv vv:V} {a:Ha09.Expr} {e:List Ha09.Val} (c:Ch ex H H') (h1:hv<+:hv') (h2:bz<+:nms') (h:NE K H hv bz nv vv a e):NE K H' hv' nms' nv vv a e :=
 ⟨h.n.mono c,h.v.mono c h1 h2,h.z⟩
end Bt
namespace Bt
open PySem PySem.Spec PyProof.Rows L2
open Ha09 (Val Pat Ctrl Proc Letter)
def PN:List Str:=["number","name","mode","node","variables","value","since","looked","todo","box","said","children","watchers"]
def WN:List Str:=["functions","processes","letters","time","pairs"]
def QN:List Str:=["halves","places"]
def LN:List Str:=["world"]
def RN:List Str:=["numbers","place"]
theorem ck:PN.Nodup:=by decide +kernel
theorem mr:WN.Nodup:=by decide +kernel
theorem IJ:QN.Nodup:=by decide +kernel
theorem uS:LN.Nodup:=by decide +kernel
theorem II:RN.Nodup:=by decide +kernel
def frameOf (a:Ha09.Expr) (e:List Val) (first:Option Val):Option Ha09.Frame:=match a,first with
 | .pair _ y,none=>some (.pairL y e)
 | .pair _ _,some v=>some (.pairR v)
 | .op k _ y,none=>some (.opL k y e)
 | .op k _ _,some v=>some (.opR k v)
 | .let_ _ y,none=>some (.let_ y e)
 | .case _ q y z,none=>some (.case q y z e)
 | .call f _,none=>some (.call f)
 | .send _ y,none=>some (.sendTo y e)
 | .send _ _,some v=>some (.sendWhat v)
 | .spawn f _,none=>some (.spawn f)
 | .watch _,none=>some .watch
 | .raise _,none=>some .raise
 | .try_ _ y,none=>some (.try_ y e)
 | .say _,none=>some .say
 | _,_=>none
section
variable (K:PySem.W.Frag) (H:Hp) (hv:Tab) (bz:qX)
def wH (v:V):Option Val->Prop
 | none=>v=.bo
 | some x=>VR H hv bz v x
structure wI where
 a:Addr
 nv:V
 vv:V
 fv:V
 ex:Ha09.Expr
 env:List Val
 first:Option Val
structure FrA (q:wI) (v:V) (f:Ha09.Frame):Prop where
 rf:v=.ref q.a
 ob:H q.a=some (.tup [q.nv,q.vv,q.fv])
 ne:NE K H hv bz q.nv q.vv q.ex q.env
 fs:wH H hv bz q.fv q.first
 fo:frameOf q.ex q.env q.first=some f
inductive B5 (v:V) (f:Ha09.Frame):Prop|mk (q:_):FrA K H hv bz q v f->B5 v f
inductive yR (v:V) (n:List Nat):Prop|mk (a:_):v=.ref a->H a=some (.tup (n.map fun(k:Nat)=>V.int (k:Int)))->yR v n
inductive DV (v:V) (n:List Nat):Prop|mk (i:Nat):v=.int ((i+1:Nat):Int)->bz[i]?=some n->DV v n
structure yi (v:V) (l:Letter):Prop where
 ex:∃a sv rv wv,v=.ref a/\H a=some (.tup [sv,rv,wv])/\DV bz sv l.from_/\DV bz rv l.to_/\wH H hv bz wv l.what
end
structure PV where
 nm:V
 md:V
 nd:V
 vr:V
 vl:V
 sc:V
 lk:V
 ws:List V
 bv:List V
 sv:List V
 wv:List V
structure PL where
 p:Addr
 dx:Addr
 td:Addr
 bx:Addr
 sd:Addr
 wt:Addr
def PL.addrs (L:PL):List Addr:=[L.p,L.td,L.bx,L.sd,L.wt]
def PV.fs (r:PV) (num born:Nat) (L:PL):List V:=[.int (num:Int),r.nm,r.md,r.nd,r.vr,r.vl,r.sc,r.lk,.ref L.td,.ref L.bx,.ref L.sd,.int (born:Int),.ref L.wt]
section
variable (K:PySem.W.Frag) (H:Hp) (hv:Tab) (bz:qX)
inductive Seen (lk:V) (box:List Val) (bad:Val->Prop):Prop|mk (n:Nat):lk=.int (n:Int)->n<=box.length->(∀(j:Nat) x,j<n->box[j]?=some x->bad x)->Seen lk box bad
def yB (r:PV) (box:List Val):Ctrl->Prop
 | .eval a e=>r.md=.int 0/\NE K H hv bz r.nd r.vr a e
 | .back v=>r.md=.int 1/\VR H hv bz r.vl v
 | .up v=>r.md=.int 2/\VR H hv bz r.vl v
 | .awaits q b p c e=>r.md=.int 3/\NE K H hv bz r.nd r.vr (.recv q b p c) e/\Seen r.lk box fun x=>Ha09.matches_ q x e=none/\Ha09.matches_ p x e=none
 | .awaitsTill t q b c e=>r.md=.int 3/\(∃d sn:Nat,NE K H hv bz r.nd r.vr (.wait d q b c) e/\r.sc=.int (sn:Int)/\t=sn+d)/\Seen r.lk box fun x=>Ha09.matches_ q x e=none
 | .done v=>r.md=.int 4/\VR H hv bz r.vl v
 | .failed v=>r.md=.int 5/\VR H hv bz r.vl v
structure ji (C:Addr) (num:Nat) (L:PL) (p:Proc) (r:PV):Prop where
 ob:H L.p=some (.ins C L.dx (PN.zip (r.fs num p.born L)))
 nm:yR H r.nm p.name
 ct:yB K H hv bz r p.box p.ctrl
 td:H L.td=some (.lst r.ws.reverse)
 yC:Paired (B5 K H hv bz) r.ws p.frames
 bx:H L.bx=some (.lst r.bv)
 Dc:Paired (VR H hv bz) r.bv p.box
 sd:H L.sd=some (.lst r.sv)
 EG:Paired (VR H hv bz) r.sv p.said
 wt:H L.wt=some (.lst r.wv)
 Ek:Paired (DV bz) r.wv p.watchers
end
section
variable {K:PySem.W.Frag} {H H':Hp} {hv hv':Tab} {bz nms':qX} {ex:List Addr}
theorem wH.mono (c:Ch ex H H') (h1:hv<+:hv') (h2:bz<+:nms') {v:V}:∀{x:Option Val},wH H hv bz v x->wH H' hv' nms' v x
 | none,h=>h
 | some x,h=>VR.mono (x:=x) c h1 h2 h
theorem B5.mono (c:Ch ex H H') (h1:hv<+:hv') (h2:bz<+:nms') {v:V} {f:Ha09.Frame} (h:B5 K H hv bz v f):B5 K H' hv' nms' v f :=
 let ⟨q,a⟩:=h;⟨q,a.rf,c.tu _ _ a.ob,a.ne.mono c h1 h2,wH.mono c h1 h2 a.fs,a.fo⟩
theorem yR.mono (c:Ch ex H H') {v:V} {n:List Nat} (h:yR H v n):yR H' v n:=let ⟨a,e,q⟩:=h;⟨a,e,c.tu _ _ q⟩
theorem DV.mono (h2:bz<+:nms') {v:V} {n:List Nat} (h:DV bz v n):DV nms' v n:=let ⟨i,e,q⟩:=h;⟨i,e,uf h2 q⟩
theorem yi.mono (c:Ch ex H H') (h1:hv<+:hv') (h2:bz<+:nms') {v:V} {l:Letter} (h:yi H hv bz v l):yi H' hv' nms' v l :=
 let ⟨a,sv,rv,wv,e,q,q1,q2,q3⟩:=h.ex;⟨a,sv,rv,wv,e,c.tu _ _ q,DV.mono h2 q1,DV.mono h2 q2,wH.mono c h1 h2 q3⟩
theorem yB.mono (c:Ch ex H H') (h1:hv<+:hv') (h2:bz<+:nms') {r:PV} {box:List Val} {t:Ctrl} (h:yB K H hv bz r box t):yB K H' hv' nms' r box t:=by
 cases t with
 | eval a e=>exact⟨h.1,h.2.mono c h1 h2⟩
 | back v=>exact⟨h.1,h.2.mono c h1 h2⟩
 | up v=>exact⟨h.1,h.2.mono c h1 h2⟩
 | awaits q b p d e=>exact⟨h.1,h.2.1.mono c h1 h2,h.2.2⟩
 | awaitsTill t q b d e=>obtain⟨a1,⟨d',sn,a2,a3,a4⟩,a6⟩:=h;exact⟨a1,⟨d',sn,a2.mono c h1 h2,a3,a4⟩,a6⟩
 | done v=>exact⟨h.1,h.2.mono c h1 h2⟩
 | failed v=>exact⟨h.1,h.2.mono c h1 h2⟩
theorem ji.mono (c:Ch ex H H') (h1:hv<+:hv') (h2:bz<+:nms') {C:Addr} {num:Nat} {L:PL} {p:Proc} {r:PV} (hx:∀b∈L.addrs,b∉ex) (h:ji K H hv bz C num L p r):ji K H' hv' nms' C num L p r :=
 ⟨c.fr _ _ h.ob (hx _ (by simp[PL.addrs])),yR.mono c h.nm,yB.mono c h1 h2 h.ct,c.fr _ _ h.td (hx _ (by simp[PL.addrs])),Paired.bL h.yC fun _ _ z=>B5.mono c h1 h2 z,
  c.fr _ _ h.bx (hx _ (by simp[PL.addrs])),Paired.bL h.Dc fun _ _ z=>VR.mono c h1 h2 z,c.fr _ _ h.sd (hx _ (by simp[PL.addrs])),Paired.bL h.EG fun _ _ z=>VR.mono c h1 h2 z,
  c.fr _ _ h.wt (hx _ (by simp[PL.addrs])),Paired.bL h.Ek fun _ _ z=>DV.mono h2 z⟩
end
structure WL where
 w:Addr
 dx:Addr
 ps:Addr
 ls:Addr
 fn:V
 pr:Addr
 pl:List PL
def WL.addrs (W:WL):List Addr:=W.w::W.ps::W.ls::W.pl.flatMap PL.addrs
def aB (s:Ha09.St):qX:=s.procs.map (·.name)
structure rO (CP CW:Addr) (K:PySem.W.Frag) (H:Hp) (hv:Tab) (W:WL) (s:Ha09.St):Prop where
 ob:H W.w=some (.ins CW W.dx (WN.zip [W.fn,.ref W.ps,.ref W.ls,.int (s.time:Int),.ref W.pr]))
 fn:∃a vs,W.fn=.ref a/\TupAt K H a vs/\Paired (NR K H) vs s.program
 fd:∀e∈s.program,b7 e<=20
 ps:H W.ps=some (.lst (W.pl.map fun l=>.ref l.p))
 len:W.pl.length=s.procs.length
 at_:∀(i:Nat) l p,W.pl[i]?=some l->s.procs[i]?=some p->∃r,ji K H hv (aB s) CP (i+1) l p r
 ls:∃lv,H W.ls=some (.lst lv)/\Paired (yi H hv (aB s)) lv s.air
 nd:W.addrs.Nodup
theorem qw {W:WL} {i:Nat} {l:PL} (h:W.pl[i]?=some l):∀b∈l.addrs,b∈W.addrs:=fun b hb =>
 List.mem_cons_of_mem _ (List.mem_cons_of_mem _ (List.mem_cons_of_mem _ (List.mem_flatMap.mpr ⟨l,List.mem_of_getElem? h,hb⟩)))
theorem rO.mono {CP CW:Addr} {K:PySem.W.Frag} {H H':Hp} {hv hv':Tab} {W:WL} {s:Ha09.St} {ex:List Addr} (c:Ch ex H H') (h1:hv<+:hv') (hx:∀b∈W.addrs,b∉ex) (h:rO CP CW K H hv W s):rO CP CW K H' hv' W s where
 ob:=c.fr _ _ h.ob (hx _ (by simp[WL.addrs]))
 fn:=let ⟨a,vs,e,t,r⟩:=h.fn;⟨a,vs,e,t.mono c,Paired.bL r fun _ _ z=>z.mono c⟩
 fd:=h.fd
 ps:=c.fr _ _ h.ps (hx _ (by simp[WL.addrs]))
 len:=h.len
 at_:=fun i l p e1 e2=>let ⟨r,q⟩:=h.at_ i l p e1 e2;⟨r,ji.mono c h1 (List.prefix_refl _) (fun b hb=>hx b (qw e1 b hb)) q⟩
 ls:=let ⟨lv,e,r⟩:=h.ls;⟨lv,c.fr _ _ e (hx _ (by simp[WL.addrs])),Paired.bL r fun _ _ z=>yi.mono c h1 (List.prefix_refl _) z⟩
 nd:=h.nd
theorem xH {α β:Type} {f:α->List β}:∀{l:List α},(l.flatMap f).Nodup->∀{i j:Nat} {a b:α},l[i]?=some a->l[j]?=some b->i≠j->∀x∈f a,x∉f b
 | [],_,_,_,_,_,h,_,_=>by simp at h
 | c::l,nd,i,j,a,b,hi,hj,ne=>by
  rw[List.flatMap_cons] at nd
  obtain⟨n1,n2,n3⟩:=List.nodup_append.mp nd
  intro x hx hx'
  match i,j with
  | 0,0=>exact ne rfl
  | 0,j+1 =>
   simp at hi;subst hi
   exact n3 x hx x (List.mem_flatMap.mpr ⟨b,List.mem_of_getElem? (by simpa using hj),hx'⟩) rfl
  | i+1,0 =>
   simp at hj;subst hj
   exact n3 x hx' x (List.mem_flatMap.mpr ⟨a,List.mem_of_getElem? (by simpa using hi),hx⟩) rfl
  | i+1,j+1=>exact xH n2 (by simpa using hi) (by simpa using hj) (by omega) x hx hx'
theorem rO.apart {CP CW:Addr} {K:PySem.W.Frag} {H:Hp} {hv:Tab} {W:WL} {s:Ha09.St} (h:rO CP CW K H hv W s) {i j:Nat} {l m:PL} (hi:W.pl[i]?=some l) (hj:W.pl[j]?=some m) (ne:i≠j):∀x∈l.addrs,x∉m.addrs:=by
 have nd:=h.nd
 unfold WL.addrs at nd
 exact xH (List.nodup_cons.mp (List.nodup_cons.mp (List.nodup_cons.mp nd).2).2).2 hi hj ne
theorem rO.own {CP CW:Addr} {K:PySem.W.Frag} {H:Hp} {hv:Tab} {W:WL} {s:Ha09.St} (h:rO CP CW K H hv W s) {i:Nat} {l:PL} (hi:W.pl[i]?=some l):∀x∈l.addrs,x≠W.w/\x≠W.ps/\x≠W.ls:=by
 have nd:=h.nd
 unfold WL.addrs at nd
 intro x hx
 have m:x∈W.pl.flatMap PL.addrs:=List.mem_flatMap.mpr ⟨l,List.mem_of_getElem? hi,hx⟩
 obtain⟨a1,a2⟩:=List.nodup_cons.mp nd
 obtain⟨b1,b2⟩:=List.nodup_cons.mp a2
 obtain⟨c1,c2⟩:=List.nodup_cons.mp b2
 exact⟨fun e=>a1 (by rw[<-e];simp[m]),fun e=>b1 (by rw[<-e];simp[m]),fun e=>c1 (by rw[<-e];exact m)⟩
theorem rO.heads {CP CW:Addr} {K:PySem.W.Frag} {H:Hp} {hv:Tab} {W:WL} {s:Ha09.St} (h:rO CP CW K H hv W s):W.w≠W.ps/\W.w≠W.ls/\W.ps≠W.ls:=by
 have nd:=h.nd
 unfold WL.addrs at nd
 obtain⟨a1,a2⟩:=List.nodup_cons.mp nd
 obtain⟨b1,b2⟩:=List.nodup_cons.mp a2
 exact⟨fun e=>a1 (by rw[e];simp),fun e=>a1 (by rw[e];simp),fun e=>b1 (by rw[e];simp)⟩
theorem rO.bw {CP CW:Addr} {K:PySem.W.Frag} {H H':Hp} {hv hv':Tab} {W:WL} {s:Ha09.St} {i:Nat} {l:PL} {p p':Proc} {r:PV} (h:rO CP CW K H hv W s) (hl:W.pl[i]?=some l) (hp:s.procs[i]?=some p) (hn:p'.name=p.name) (h1:hv<+:hv')
  {ex:List Addr} (c:Ch ex H H') (hx:∀b∈ex,b∈l.addrs\/b∉W.addrs) (a:ji K H' hv' (aB s) CP (i+1) l p' r):rO CP CW K H' hv' W {s with procs:=s.procs.set i p'}:=by
 have en:aB {s with procs:=s.procs.set i p'}=aB s:=by
  unfold aB
  show(s.procs.set i p').map (·.name)=s.procs.map (·.name)
  rw[List.map_set,hn]
  apply List.ext_getElem?
  intro j
  by_cases e:i=j
  ·subst e
   rw[List.getElem?_map,hp]
   simp[List.getElem?_set,(List.getElem?_eq_some_iff.mp hp).1]
  ·rw[List.getElem?_set_ne e]
 have nx:∀b,b∈W.addrs->b∉l.addrs->b∉ex:=fun b hb hn z=>(hx b z).elim hn fun q=>q hb
 have own:=h.own hl
 refine⟨c.fr _ _ h.ob (nx _ (by simp[WL.addrs]) fun z=>(own _ z).1 rfl),?_,h.fd,c.fr _ _ h.ps (nx _ (by simp[WL.addrs]) fun z=>(own _ z).2.1 rfl),by simpa using h.len,fun j m q e1 e2=>?_,?_,h.nd⟩
 ·obtain⟨a,vs,e,t,r⟩:=h.fn;exact⟨a,vs,e,t.mono c,Paired.bL r fun _ _ z=>z.mono c⟩
 ·rw[en]
  by_cases e:i=j
  ·subst e
   rw[hl] at e1;cases e1
   have e2':(s.procs.set i p')[i]?=some q:=e2
   rw[List.getElem?_set_self (List.getElem?_eq_some_iff.mp hp).1] at e2'
   cases e2'
   exact⟨r,a⟩
  ·have e2':(s.procs.set i p')[j]?=some q:=e2
   rw[List.getElem?_set_ne e] at e2'
   obtain⟨r',q'⟩:=h.at_ j m q e1 e2'
   exact⟨r',ji.mono c h1 (List.prefix_refl _) (fun b hb=>nx b (qw e1 b hb) fun z=>h.apart hl e1 e b z hb) q'⟩
 ·rw[en]
  obtain⟨lv,e,r⟩:=h.ls
  exact⟨lv,c.fr _ _ e (nx _ (by simp[WL.addrs]) fun z=>(own _ z).2.2 rfl),Paired.bL r fun _ _ z=>yi.mono c h1 (List.prefix_refl _) z⟩
theorem rO.there {CP CW:Addr} {K:PySem.W.Frag} {H:Hp} {hv:Tab} {W:WL} {s:Ha09.St} (h:rO CP CW K H hv W s):∀b∈W.addrs,∃o,H b=some o:=by
 intro b hb
 unfold WL.addrs at hb
 rcases List.mem_cons.mp hb with rfl|hb
 ·exact⟨_,h.ob⟩
 rcases List.mem_cons.mp hb with rfl|hb
 ·exact⟨_,h.ps⟩
 rcases List.mem_cons.mp hb with rfl|hb
 ·obtain⟨lv,e,_⟩:=h.ls;exact⟨_,e⟩
 obtain⟨l,hl,hb⟩:=List.mem_flatMap.mp hb
 obtain⟨i,hi⟩:=List.mem_iff_getElem?.mp hl
 have hlt:=(List.getElem?_eq_some_iff.mp hi).1
 rw[h.len] at hlt
 obtain⟨r,a⟩:=h.at_ i l _ hi (List.getElem?_eq_getElem hlt)
 simp[PL.addrs] at hb
 rcases hb with rfl|rfl|rfl|rfl|rfl
 ·exact⟨_,a.ob⟩
 ·exact⟨_,a.td⟩
 ·exact⟨_,a.bx⟩
 ·exact⟨_,a.sd⟩
 ·exact⟨_,a.wt⟩
theorem Bz {α β:Type} {f:α->List β}:∀{l:List α} {i:Nat} {a a':α},l[i]?=some a->(l.flatMap f).Nodup->(f a').Nodup->(∀x∈f a',x∈f a\/x∉l.flatMap f)->((l.set i a').flatMap f).Nodup/\∀x∈(l.set i a').flatMap f,x∈l.flatMap f\/x∈f a'
 | [],i,a,a',h,_,_,_=>by simp at h
 | c::r,0,a,a',h,nd,nd',hx=>by
  simp at h;subst h
  rw[List.flatMap_cons] at nd
  obtain⟨n1,n2,n3⟩:=List.nodup_append.mp nd
  show((a'::r).flatMap f).Nodup/\∀x∈(a'::r).flatMap f,_
  rw[List.flatMap_cons]
  refine⟨List.nodup_append.mpr ⟨nd',n2,fun x h1 y h2 e=>?_⟩,fun x h1=>?_⟩
  ·subst e
   rcases hx x h1 with q|q
   ·exact n3 x q x h2 rfl
   ·exact q (by rw[List.flatMap_cons];exact List.mem_append.mpr (.inr h2))
  ·rcases List.mem_append.mp h1 with q|q
   ·exact .inr q
   ·exact .inl (by rw[List.flatMap_cons];exact List.mem_append.mpr (.inr q))
 | c::r,i+1,a,a',h,nd,nd',hx=>by
  rw[List.flatMap_cons] at nd
  obtain⟨n1,n2,n3⟩:=List.nodup_append.mp nd
  have h':r[i]?=some a:=by simpa using h
  obtain⟨q1,q2⟩:=Bz (f:=f) h' n2 nd' fun x hxa=>(hx x hxa).imp id fun z w=>z (by rw[List.flatMap_cons];exact List.mem_append.mpr (.inr w))
  show((c::r.set i a').flatMap f).Nodup/\∀x∈(c::r.set i a').flatMap f,_
  rw[List.flatMap_cons]
  refine⟨List.nodup_append.mpr ⟨n1,q1,fun x h1 y h2 e=>?_⟩,fun x h1=>?_⟩
  ·subst e
   rcases q2 x h2 with q|q
   ·exact n3 x h1 x q rfl
   ·rcases hx x q with z|z
    ·exact n3 x h1 x (List.mem_flatMap.mpr ⟨a,List.mem_of_getElem? h',z⟩) rfl
    ·exact z (by rw[List.flatMap_cons];exact List.mem_append.mpr (.inl h1))
  ·rcases List.mem_append.mp h1 with q|q
   ·exact .inl (by rw[List.flatMap_cons];exact List.mem_append.mpr (.inl q))
   ·rcases q2 x q with z|z
    ·exact .inl (by rw[List.flatMap_cons];exact List.mem_append.mpr (.inr z))
    ·exact .inr z
theorem rO.setL {CP CW:Addr} {K:PySem.W.Frag} {H H':Hp} {hv hv':Tab} {W:WL} {s:Ha09.St} {i:Nat} {l l':PL} {p p':Proc} {r:PV} (h:rO CP CW K H hv W s) (hl:W.pl[i]?=some l) (hp:s.procs[i]?=some p) (hn:p'.name=p.name) (h1:hv<+:hv')
  {ex:List Addr} (c:Ch ex H H') (hx:∀b∈ex,b∈l.addrs\/b∉W.addrs) (hlp:l'.p=l.p) (hfr:∀b∈l'.addrs,b∈l.addrs\/H b=none) (nd':l'.addrs.Nodup) (a:ji K H' hv' (aB s) CP (i+1) l' p' r) :
  rO CP CW K H' hv' {W with pl:=W.pl.set i l'} {s with procs:=s.procs.set i p'}/\∀b∈({W with pl:=W.pl.set i l'}:WL).addrs,b∈W.addrs\/H b=none:=by
 have hil:=(List.getElem?_eq_some_iff.mp hl).1
 have fresh:∀b,H b=none->b∉W.addrs:=fun b e z=>by obtain⟨o,q⟩:=h.there b z;rw[e] at q;cases q
 have en:aB {s with procs:=s.procs.set i p'}=aB s:=by
  unfold aB
  show(s.procs.set i p').map (·.name)=s.procs.map (·.name)
  rw[List.map_set,hn]
  apply List.ext_getElem?
  intro j
  by_cases e:i=j
  ·subst e
   rw[List.getElem?_map,hp]
   simp[List.getElem?_set,(List.getElem?_eq_some_iff.mp hp).1]
  ·rw[List.getElem?_set_ne e]
 have nx:∀b,b∈W.addrs->b∉l.addrs->b∉ex:=fun b hb hn z=>(hx b z).elim hn fun q=>q hb
 have own:=h.own hl
 have nd:=h.nd
 unfold WL.addrs at nd
 obtain⟨x1,x2⟩:=List.nodup_cons.mp nd
 obtain⟨y1,y2⟩:=List.nodup_cons.mp x2
 obtain⟨z1,z2⟩:=List.nodup_cons.mp y2
 have inW:∀b,b∈W.pl.flatMap PL.addrs->b∈W.addrs:=fun b hb=>by unfold WL.addrs;simp[hb]
 obtain⟨f1,f2⟩:=Bz (f:=PL.addrs) hl z2 nd' fun b hb=>(hfr b hb).imp id fun e z=>fresh b e (inW b z)
 have sub:∀b∈(W.pl.set i l').flatMap PL.addrs,b∈W.pl.flatMap PL.addrs\/H b=none:=fun b hb=>by
  rcases f2 b hb with q|q
  ·exact .inl q
  ·rcases hfr b q with q|q
   ·exact .inl (List.mem_flatMap.mpr ⟨l,List.mem_of_getElem? hl,q⟩)
   ·exact .inr q
 have hd:∀b,b∉W.pl.flatMap PL.addrs->(∃o,H b=some o)->b∉(W.pl.set i l').flatMap PL.addrs:=fun b n ⟨o,e⟩ z=>(sub b z).elim n fun q=>by rw[q] at e;cases e
 refine⟨⟨c.fr _ _ h.ob (nx _ (by simp[WL.addrs]) fun z=>(own _ z).1 rfl),?_,h.fd,?_,by simpa using h.len,fun j m q e1 e2=>?_,?_,?_⟩,fun b hb=>?_⟩
 ·obtain⟨a,vs,e,t,r⟩:=h.fn;exact⟨a,vs,e,t.mono c,Paired.bL r fun _ _ z=>z.mono c⟩
 ·have e:=c.fr _ _ h.ps (nx _ (by simp[WL.addrs]) fun z=>(own _ z).2.1 rfl)
  show H' W.ps=some (.lst ((W.pl.set i l').map fun l=>.ref l.p))
  rw[e,List.map_set,hlp]
  congr 2
  apply List.ext_getElem?
  intro j
  by_cases z:i=j
  ·subst z
   rw[List.getElem?_map,hl]
   simp[List.getElem?_set,hil]
  ·rw[List.getElem?_set_ne z]
 ·rw[en]
  by_cases e:i=j
  ·subst e
   have e1':(W.pl.set i l')[i]?=some m:=e1
   rw[List.getElem?_set_self hil] at e1';cases e1'
   have e2':(s.procs.set i p')[i]?=some q:=e2
   rw[List.getElem?_set_self (List.getElem?_eq_some_iff.mp hp).1] at e2'
   cases e2'
   exact⟨r,a⟩
  ·have e2':(s.procs.set i p')[j]?=some q:=e2
   rw[List.getElem?_set_ne e] at e2'
   have e1':(W.pl.set i l')[j]?=some m:=e1
   rw[List.getElem?_set_ne e] at e1'
   obtain⟨r',q'⟩:=h.at_ j m q e1' e2'
   exact⟨r',ji.mono c h1 (List.prefix_refl _) (fun b hb=>nx b (qw e1' b hb) fun z=>h.apart hl e1' e b z hb) q'⟩
 ·rw[en]
  obtain⟨lv,e,r⟩:=h.ls
  exact⟨lv,c.fr _ _ e (nx _ (by simp[WL.addrs]) fun z=>(own _ z).2.2 rfl),Paired.bL r fun _ _ z=>yi.mono c h1 (List.prefix_refl _) z⟩
 ·show(W.w::W.ps::W.ls::(W.pl.set i l').flatMap PL.addrs).Nodup
  obtain⟨lv,e,r⟩:=h.ls
  refine List.nodup_cons.mpr ⟨fun z=>?_,List.nodup_cons.mpr ⟨fun z=>?_,List.nodup_cons.mpr ⟨fun z=>?_,f1⟩⟩⟩
  ·rcases List.mem_cons.mp z with z|z
   ·exact x1 (by rw[z];simp)
   ·rcases List.mem_cons.mp z with z|z
    ·exact x1 (by rw[z];simp)
    ·exact hd W.w (fun q=>x1 (by simp[q])) ⟨_,h.ob⟩ z
  ·rcases List.mem_cons.mp z with z|z
   ·exact y1 (by rw[z];simp)
   ·exact hd W.ps (fun q=>y1 (by simp[q])) ⟨_,h.ps⟩ z
  ·exact hd W.ls z1 ⟨_,e⟩ z
 ·have hb':b∈W.w::W.ps::W.ls::(W.pl.set i l').flatMap PL.addrs:=hb
  unfold WL.addrs
  simp only[List.mem_cons] at hb' ⊢
  rcases hb' with q|q|q|q
  ·exact .inl (.inl q)
  ·exact .inl (.inr (.inl q))
  ·exact .inl (.inr (.inr (.inl q)))
  ·exact(sub b q).imp (fun z=>.inr (.inr (.inr z))) id
theorem rO.setA {CP CW:Addr} {K:PySem.W.Frag} {H H':Hp} {hv hv':Tab} {W:WL} {s:Ha09.St} {lv:List V} {air:List Letter} (h:rO CP CW K H hv W s) (h1:hv<+:hv') {ex:List Addr} (c:Ch ex H H') (hx:∀b∈ex,b=W.ls\/b∉W.addrs)
  (hl:H' W.ls=some (.lst lv)) (r:Paired (yi H' hv' (aB s)) lv air):rO CP CW K H' hv' W {s with air:=air}:=by
 obtain⟨n1,n2,n3⟩:=h.heads
 have nx:∀b,b∈W.addrs->b≠W.ls->b∉ex:=fun b hb hn z=>(hx b z).elim hn fun q=>q hb
 refine⟨c.fr _ _ h.ob (nx _ (by simp[WL.addrs]) n2),?_,h.fd,c.fr _ _ h.ps (nx _ (by simp[WL.addrs]) n3),h.len,fun j m q e1 e2=>?_,⟨lv,hl,r⟩,h.nd⟩
 ·obtain⟨a,vs,e,t,r⟩:=h.fn;exact⟨a,vs,e,t.mono c,Paired.bL r fun _ _ z=>z.mono c⟩
 ·obtain⟨r',q'⟩:=h.at_ j m q e1 e2
  exact⟨r',ji.mono c h1 (List.prefix_refl _) (fun b hb=>nx b (qw e1 b hb) (h.own e1 b hb).2.2) q'⟩
structure QL where
 o:Addr
 dx:Addr
 l:Addr
 d:Addr
def QL.addrs (Q:QL):List Addr:=[Q.o,Q.l,Q.d]
def k4 (h:MV×MV):List (List Key):=[[.inl h.1.tag,.inl h.1.CA],[.inl h.2.tag,.inl h.2.CA]]
theorem F8 {a b:MV×MV} (e:k4 a=k4 b):a=b:=by
 unfold k4 at e
 simp at e
 exact Prod.ext (MV.inj e.1.1 e.1.2) (MV.inj e.2.1 e.2.2)
inductive IQ (H:Hp) (a:Addr) (h:MV×MV):Prop|mk (v1:_) (v2:_):H a=some (.tup [v1,v2])->VA H v1 h.1->VA H v2 h.2->IQ H a h
structure nJ (P:Program) (w:World) (CQ:Addr) (H:Hp) (Q:QL) (hv:Tab):Prop where
 ob:H Q.o=some (.ins CQ Q.dx (QN.zip [.ref Q.l,.ref Q.d]))
 ex:∃(as:List Addr) (xs:List BH),H Q.l=some (.lst (as.map V.ref))/\Paired (IQ H) as hv/\yS P w H Q.d xs/\xs.length=hv.length /\
  ∀(i:Nat) e,xs[i]?=some e->∃h,hv[i]?=some h/\e.1=k4 h/\∃t,e.2.2=Value.int (i:Int) t
 nd:hv.Nodup
theorem IQ.mono {H H':Hp} {a:Addr} {h:MV×MV} {ex:List Addr} (c:Ch ex H H') (q:IQ H a h):IQ H' a h:=let ⟨v1,v2,e,a1,a2⟩:=q;⟨v1,v2,c.tu _ _ e,a1.mono c,a2.mono c⟩
theorem IQ.nk {H:Hp} {a:Addr} {h:MV×MV} (q:IQ H a h):NK H a (k4 h):=by
 obtain⟨v1,v2,e,⟨a1,rfl,e1⟩,⟨a2,rfl,e2⟩⟩:=q
 exact⟨[a1,a2],e,.cons e1 (.cons e2 .nil)⟩
theorem yS.mono {P:Program} {w:World} {H H':Hp} {d:Addr} {xs:List BH} {ex:List Addr} (c:Ch ex H H') (hd:d∉ex) (x:yS P w H d xs):yS P w H' d xs :=
 ⟨c.fr _ _ x.ob hd,fun y hy=>(x.ks y hy).mono c.tu,x.sm⟩
theorem nJ.mono {P:Program} {w:World} {CQ:Addr} {H H':Hp} {Q:QL} {hv:Tab} {ex:List Addr} (c:Ch ex H H') (hx:∀b∈Q.addrs,b∉ex) (h:nJ P w CQ H Q hv):nJ P w CQ H' Q hv :=
 let ⟨as,xs,e,r,d,q⟩:=h.ex
 ⟨c.fr _ _ h.ob (hx _ (by simp[QL.addrs])),⟨as,xs,c.fr _ _ e (hx _ (by simp[QL.addrs])),Paired.bL r fun _ _ z=>z.mono c,yS.mono c (hx _ (by simp[QL.addrs])) d,q⟩,h.nd⟩
theorem F4 {α β:Type} {f:α->β} (hf:∀a b,f a=f b->a=b):∀{l:List α},l.Nodup->(l.map f).Nodup
 | [],_=>List.nodup_nil
 | a::l,h=>by
  obtain⟨h1,h2⟩:=List.nodup_cons.mp h
  refine List.nodup_cons.mpr ⟨fun m=>?_,F4 hf h2⟩
  obtain⟨b,hb,e⟩:=List.mem_map.mp m
  exact h1 (by rw[<-hf _ _ e];exact hb)
theorem GJ {xs:List BH} {hv:Tab} (hl:xs.length=hv.length) (q:∀(i:Nat) e,xs[i]?=some e->∃h,hv[i]?=some h/\e.1=k4 h/\∃t,e.2.2=Value.int (i:Int) t) (nd:hv.Nodup) (h:MV×MV) :
  (∃(i:Nat) (p:Addr×Value) (t:Tok),hv[i]?=some h/\atKey xs (k4 h)=some p/\p.2=Value.int (i:Int) t)\/(h∉hv/\atKey xs (k4 h)=none):=by
 by_cases m:h∈hv
 ·obtain⟨i,hi⟩:=List.mem_iff_getElem?.mp m
  have hx:i<xs.length:=by rw[hl];exact(List.getElem?_eq_some_iff.mp hi).1
  obtain⟨h',h1,h2,t,h3⟩:=q i _ (List.getElem?_eq_getElem hx)
  rw[hi] at h1;cases h1
  have nd':(xs.map (·.1)).Nodup:=by
   have e:xs.map (·.1)=hv.map k4:=by
    apply List.ext_getElem?
    intro j
    rw[List.getElem?_map,List.getElem?_map]
    cases ej:xs[j]? with
    | none =>
     have:hv[j]?=none:=List.getElem?_eq_none_iff.mpr (by rw[<-hl];exact List.getElem?_eq_none_iff.mp ej)
     rw[this];rfl
    | some e =>
     obtain⟨h',q1,q2,_⟩:=q j e ej
     rw[q1];simp[q2]
   rw[e]
   exact F4 (fun a b e=>F8 e) nd
  refine .inl ⟨i,xs[i].2,t,hi,atKey_of_get nd' (i:=i) ?_,h3⟩
  rw[List.getElem?_eq_getElem hx,<-h2]
 ·refine .inr ⟨m,atKey_none_of_get fun j p e=>m ?_⟩
  obtain⟨h',q1,q2,_⟩:=q j _ e
  rw[F8 q2]
  exact List.mem_of_getElem? q1
end Bt
namespace Bt
open PySem PySem.Spec PyProof.Rows L2
def top (i:Nat):Stmt:=PySem.Challenge.pw_boxturns_s01_answers.main.body.getD i (.Pass ⟨0,0,0,0⟩)
abbrev kP:Stmt:=inClass (top 4) 0
abbrev kQ:Stmt:=inClass (top 4) 1
abbrev jT:Stmt:=inClass (top 4) 2
abbrev iY:Stmt:=inClass (top 4) 3
abbrev jS:Stmt:=inClass (top 14) 0
abbrev gs:Stmt:=inClass (top 14) 1
abbrev jR:Stmt:=inClass (top 14) 2
abbrev dP:Stmt:=inClass (top 14) 3
abbrev dQ:Stmt:=inClass (top 14) 4
abbrev iR:Stmt:=top 15
abbrev oK:Stmt:=top 19
abbrev zY:Stmt:=top 20
abbrev oJ:Stmt:=top 21
abbrev kK:Stmt:=top 22
abbrev mC:Stmt:=top 24
abbrev jO:Stmt:=top 25
abbrev iW:Stmt:=inClass (top 33) 0
abbrev f9:Stmt:=inClass (top 33) 1
abbrev gb:Stmt:=inClass (top 33) 2
abbrev eD:Stmt:=inClass (top 33) 3
abbrev d8:Stmt:=inClass (top 33) 4
abbrev eC:Stmt:=inClass (top 33) 5
abbrev iX:Stmt:=inClass (top 33) 6
abbrev kJ:Stmt:=top 38
abbrev mG:Stmt:=top 39
abbrev oI:Stmt:=top 40
abbrev ek:Stmt:=top 41
abbrev oM:Stmt:=top 42
abbrev gr:Stmt:=top 43
abbrev mF:Stmt:=top 44
abbrev mI:Stmt:=top 45
abbrev iS:Stmt:=top 46
abbrev eW:Stmt:=top 47
abbrev rq:Stmt:=top 48
abbrev iU:Stmt:=top 49
abbrev uc:Stmt:=top 50
abbrev mJ:Stmt:=top 51
abbrev rm:Stmt:=top 52
abbrev rk:Stmt:=top 53
abbrev oP:Stmt:=top 54
abbrev oO:Stmt:=top 55
abbrev oQ:Stmt:=top 56
abbrev oR:Stmt:=top 57
abbrev ub:Stmt:=top 58
abbrev zX:Stmt:=top 65
abbrev mE:Stmt:=top 66
abbrev jN:Stmt:=top 67
abbrev iO:Stmt:=top 68
abbrev kI:Stmt:=top 69
abbrev iP:Stmt:=top 70
abbrev mD:Stmt:=top 71
abbrev kM:Stmt:=inClass (top 76) 0
abbrev kO:Stmt:=inClass (top 76) 1
abbrev d6:Stmt:=inClass (top 76) 2
abbrev ez:Stmt:=inClass (top 76) 3
abbrev eX:Stmt:=inClass (top 76) 4
abbrev jQ:Stmt:=inClass (top 76) 5
abbrev eo:Stmt:=inClass (top 76) 6
abbrev kL:Stmt:=inClass (top 76) 7
abbrev iV:Stmt:=inClass (top 76) 8
abbrev d7:Stmt:=inClass (top 76) 9
abbrev mK:Stmt:=inClass (top 76) 10
abbrev f7:Stmt:=inClass (top 76) 11
abbrev et:Stmt:=inClass (top 76) 12
abbrev mM:Stmt:=inClass (top 88) 0
abbrev iZ:Stmt:=inClass (top 88) 1
abbrev kU:Stmt:=inClass (top 88) 2
abbrev oS:Stmt:=inClass (top 88) 3
abbrev i3:Stmt:=inClass (top 88) 4
abbrev kT:Stmt:=inClass (top 88) 5
abbrev kR:Stmt:=inClass (top 88) 6
abbrev mL:Stmt:=inClass (top 88) 7
abbrev eF:Stmt:=inClass (top 88) 8
abbrev gQ:Stmt:=inClass (top 88) 9
abbrev gu:Stmt:=inClass (top 88) 10
abbrev gR:Stmt:=inClass (top 88) 11
abbrev eY:Stmt:=inClass (top 88) 12
abbrev iT:Stmt:=top 89
abbrev mH:Stmt:=top 90
abbrev oN:Stmt:=top 91
abbrev rA:Stmt:=top 94
abbrev iQ:Stmt:=top 95
abbrev jP:Stmt:=top 96
abbrev fZ:Stmt:=top 97
set_option genInjectivity false
set_option genSizeOf false
structure Ad where
 bE:Addr
 fg:Addr
 bN:Addr
 aj:Addr
 bK:Addr
 aR:Addr
 cLine:Addr
 ik:Addr
 il:Addr
 gH:Addr
 fC:Addr
 gG:Addr
 dW:Addr
 gF:Addr
 bp:Addr
 bF:Addr
 fu:Addr
 ll:Addr
 zh:Addr
 lj:Addr
 hZ:Addr
 jm:Addr
 gz:Addr
 fA:Addr
 dC:Addr
 dD:Addr
 cQ:Addr
 cy:Addr
 cP:Addr
 fB:Addr
 hX:Addr
 jr:Addr
 lh:Addr
 cK:Addr
 lq:Addr
 dU:Addr
 jq:Addr
 jt:Addr
 fw:Addr
 df:Addr
 jc:Addr
 cZ:Addr
 k7:Addr
 e9:Addr
 jb:Addr
 ja:Addr
 gB:Addr
 gA:Addr
 gC:Addr
 gD:Addr
 k6:Addr
 zf:Addr
 jo:Addr
 gy:Addr
 fm:Addr
 hW:Addr
 ft:Addr
 jn:Addr
 ig:Addr
 ij:Addr
 cu:Addr
 cO:Addr
 dg:Addr
 gE:Addr
 cM:Addr
 ie:Addr
 fy:Addr
 cw:Addr
 ju:Addr
 dB:Addr
 cN:Addr
 jw:Addr
 fD:Addr
 iu:Addr
 lx:Addr
 fE:Addr
 ir:Addr
 iq:Addr
 jv:Addr
 cR:Addr
 eJ:Addr
 dX:Addr
 eK:Addr
 dh:Addr
 fx:Addr
 js:Addr
 lu:Addr
 lZ:Addr
 ee:Addr
 fb:Addr
 dA:Addr
 x8:Addr
 gj:Addr
 qP:Addr
 j6:Addr
 jd:Addr
 x9:Addr
 x5:Addr
structure Fg where
 iD:FuncData
 iE:FuncData
 gN:FuncData
 fO:FuncData
 gM:FuncData
 dZ:FuncData
 gL:FuncData
 bq:FuncData
 bG:FuncData
 fH:FuncData
 lB:FuncData
 zj:FuncData
 lA:FuncData
 iz:FuncData
 jx:FuncData
 gJ:FuncData
 fM:FuncData
 dH:FuncData
 dI:FuncData
 cX:FuncData
 cI:FuncData
 cW:FuncData
 fN:FuncData
 iy:FuncData
 jB:FuncData
 ly:FuncData
 cS:FuncData
 lC:FuncData
 dY:FuncData
 jA:FuncData
 jE:FuncData
 fI:FuncData
 di:FuncData
 oo:FuncData
 fK:FuncData
 rM:FuncData
 jF:FuncData
 om:FuncData
 oj:FuncData
 lF:FuncData
 lE:FuncData
 lG:FuncData
 lH:FuncData
 rL:FuncData
 zi:FuncData
 jz:FuncData
 gI:FuncData
 fF:FuncData
 iw:FuncData
 fG:FuncData
 jy:FuncData
 iB:FuncData
 iC:FuncData
 cz:FuncData
 cV:FuncData
 dk:FuncData
 gK:FuncData
 cT:FuncData
 iA:FuncData
 fL:FuncData
 cG:FuncData
 jG:FuncData
 dG:FuncData
 cU:FuncData
 jI:FuncData
 fP:FuncData
 iH:FuncData
 lI:FuncData
 fQ:FuncData
 iG:FuncData
 iF:FuncData
 jH:FuncData
 cY:FuncData
 eM:FuncData
 d5:FuncData
 eN:FuncData
 dq:FuncData
 fJ:FuncData
 jD:FuncData
 lD:FuncData
 l4:FuncData
 eg:FuncData
 fc:FuncData
 dE:FuncData
set_option genInjectivity true
set_option genSizeOf true
def GI (mg:Str->Option Value) (x:Str) (i:Int):Prop:=∃t,mg x=some (.int i t)
def DE (A:Ad):List (Key×V):=[(Sum.inl (0:Int),V.str "n"),(Sum.inl (1:Int),V.str "i"),(Sum.inl (2:Int),V.str "ww"),(Sum.inl (3:Int),V.str "kww"),(Sum.inl (4:Int),V.str "ww"),(Sum.inl (5:Int),V.str "wpww"),(Sum.inl (6:Int),V.str "fw"),(Sum.inl (7:Int),V.str "pwpw"),(Sum.inl (8:Int),V.str "tpww"),(Sum.inl (9:Int),V.str "ww"),(Sum.inl (10:Int),V.str "fw"),(Sum.inl (11:Int),V.str ""),(Sum.inl (12:Int),V.str "w"),(Sum.inl (13:Int),V.str "w"),(Sum.inl (14:Int),V.str "ww"),(Sum.inl (15:Int),V.str "w")]
def pM (A:Ad):List (Key×V):=[(Sum.inl (0:Int),V.str ""),(Sum.inl (1:Int),V.str ""),(Sum.inl (2:Int),V.str "n"),(Sum.inl (3:Int),V.str "i"),(Sum.inl (4:Int),V.str "pp")]
def y8 (A:Ad):List (Key×V):=[(Sum.inr ("n" : Str),V.int (1000000)),(Sum.inr ("i" : Str),V.int (20)),(Sum.inr ("f" : Str),V.int (9)),(Sum.inr ("k" : Str),V.int (6)),(Sum.inr ("t" : Str),V.int (1000))]
def uy (A:Ad):List (Key×V):=[(Sum.inl (2:Int),V.int (1)),(Sum.inl (3:Int),V.int (2)),(Sum.inl (4:Int),V.int (1)),(Sum.inl (5:Int),V.int (1)),(Sum.inl (6:Int),V.int (2)),(Sum.inl (9:Int),V.int (1)),(Sum.inl (10:Int),V.int (2)),(Sum.inl (12:Int),V.int (1)),(Sum.inl (13:Int),V.int (1)),(Sum.inl (14:Int),V.int (1)),(Sum.inl (15:Int),V.int (1))]
def jX (A:Ad):List (Key×V):=[(Sum.inl (2:Int),V.int (2)),(Sum.inl (3:Int),V.int (3)),(Sum.inl (9:Int),V.int (2))]
def DF (A:Ad):List (Key×V):=[(Sum.inl (2:Int),V.ref A.jc),(Sum.inl (3:Int),V.ref A.cZ),(Sum.inl (4:Int),V.ref A.k7),(Sum.inl (5:Int),V.ref A.e9),(Sum.inl (6:Int),V.ref A.jb),(Sum.inl (9:Int),V.ref A.ja),(Sum.inl (10:Int),V.ref A.gB),(Sum.inl (12:Int),V.ref A.gA),(Sum.inl (13:Int),V.ref A.gC),(Sum.inl (14:Int),V.ref A.gD),(Sum.inl (15:Int),V.ref A.k6)]
def DD (A:Ad):List (Key×V):=[(Sum.inl (1:Int),V.int (3)),(Sum.inl (2:Int),V.int (3)),(Sum.inl (3:Int),V.int (3)),(Sum.inl (4:Int),V.int (2)),(Sum.inl (5:Int),V.int (2)),(Sum.inl (6:Int),V.int (2)),(Sum.inl (7:Int),V.int (2)),(Sum.inl (8:Int),V.int (2)),(Sum.inl (9:Int),V.int (1)),(Sum.inl (10:Int),V.int (1))]
structure Tx (w:World) (K:PySem.W.Frag) (mg:Str->Option Value) (A:Ad) (D:Fg):Prop where
 v9:dS K "__init__" "Pairs.__init__" kP A.ik D.iD
 vW:Binds K D.iD ["self"] []
 vH:Mk K A.bE A.ik
 wb:dS K "both" "Pairs.both" kQ A.il D.iE
 m8:Binds K D.iE ["self","first","second"] []
 mR:Meth K A.bE "both" A.il
 uR:dS K "first" "Pairs.first" jT A.gH D.gN
 k8:Binds K D.gN ["self","value"] []
 kZ:Meth K A.bE "first" A.gH
 sQ:dS K "second" "Pairs.second" iY A.fC D.fO
 jZ:Binds K D.fO ["self","value"] []
 jW:Meth K A.bE "second" A.fC
 uQ:dS K "__init__" "Reader.__init__" jS A.gG D.gM
 uJ:Binds K D.gM ["self","numbers"] []
 uw:Mk K A.bN A.gG
 pT:dS K "is_done" "Reader.is_done" gs A.dW D.dZ
 ko:Binds K D.dZ ["self"] []
 kn:Meth K A.bN "is_done" A.dW
 uP:dS K "take" "Reader.take" jR A.gF D.gL
 je:Binds K D.gL ["self","most"] []
 i7:Meth K A.bN "take" A.gF
 j9:dS K "read_written" "Reader.read_written" dP A.bp D.bq
 gk:Binds K D.bq ["self","depth"] []
 gh:Meth K A.bN "read_written" A.bp
 ka:dS K "read_pattern" "Reader.read_pattern" dQ A.bF D.bG
 gm:Binds K D.bG ["self","depth"] []
 gi:Meth K A.bN "read_pattern" A.bF
 nO:dS K "read_program" "read_program" iR A.fu D.fH
 sF:Binds K D.fH ["numbers"] []
 sx:mg "read_program" = some (.ref A.fu)
 vq:dS K "operated" "operated" oK A.ll D.lB
 zq:Binds K D.lB ["pairs","k","x","y"] []
 zd:mg "operated" = some (.ref A.ll)
 GU:dS K "half" "half" zY A.zh D.zj
 IH:Binds K D.zj ["pairs","k","x"] []
 IB:mg "half" = some (.ref A.zh)
 vp:dS K "reckoned" "reckoned" oJ A.lj D.lA
 zo:Binds K D.lA ["k","x","y"] []
 zc:mg "reckoned" = some (.ref A.lj)
 j8:dS K "come_round" "come_round" kK A.hZ D.iz
 mZ:Binds K D.iz ["number"] []
 mW:mg "come_round" = some (.ref A.hZ)
 px:dS K "with_kept" "with_kept" mC A.jm D.jx
 tJ:Binds K D.jx ["pairs","pattern","value","variables"] []
 tF:mg "with_kept" = some (.ref A.jm)
 pB:dS K "is_variable" "is_variable" jO A.gz D.gJ
 uH:Binds K D.gJ ["variables","place","value"] []
 uC:mg "is_variable" = some (.ref A.gz)
 sO:dS K "__init__" "Process.__init__" iW A.fA D.fM
 nI:Binds K D.fM ["self","number","name"] []
 nB:Mk K A.aj A.fA
 oy:dS K "work_on" "Process.work_on" f9 A.dC D.dH
 bC:Binds K D.dH ["self","node","variables"] []
 bA:Meth K A.aj "work_on" A.dC
 oz:dS K "come_to" "Process.come_to" gb A.dD D.dI
 bD:Binds K D.dI ["self","value"] []
 bB:Meth K A.aj "come_to" A.dD
 mn:dS K "fail_with" "Process.fail_with" eD A.cQ D.cX
 g0:Binds K D.cX ["self","value"] []
 gX:Meth K A.aj "fail_with" A.cQ
 kG:dS K "await_word" "Process.await_word" d8 A.cy D.cI
 kC:Binds K D.cI ["self","time"] []
 ky:Meth K A.aj "await_word" A.cy
 ml:dS K "has_ended" "Process.has_ended" eC A.cP D.cW
 fh:Binds K D.cW ["self"] []
 eZ:Meth K A.aj "has_ended" A.cP
 sP:dS K "copy" "Process.copy" iX A.fB D.fN
 sJ:Binds K D.fN ["self"] []
 r9:Meth K A.aj "copy" A.fB
 ng:dS K "take_steps" "take_steps" kJ A.hX D.iy
 qS:Binds K D.iy ["world","process","most"] []
 qN:mg "take_steps" = some (.ref A.hX)
 tP:dS K "take_step" "take_step" mG A.jr D.jB
 yc:Binds K D.jB ["world","process"] []
 xS:mg "take_step" = some (.ref A.jr)
 vo:dS K "work_out" "work_out" oI A.lh D.ly
 zm:Binds K D.ly ["world","process"] []
 zb:mg "work_out" = some (.ref A.lh)
 hG:dS K "work_out_variable" "work_out_variable" ek A.cK D.cS
 l6:Binds K D.cS ["process","place"] []
 lW:mg "work_out_variable" = some (.ref A.cK)
 iI:dS K "go_wrong" "go_wrong" oM A.lq D.lC
 jJ:Binds K D.lC ["process"] []
 jl:mg "go_wrong" = some (.ref A.lq)
 ku:dS K "go_on_awaiting" "go_on_awaiting" gr A.dU D.dY
 pR:Binds K D.dY ["world","process"] []
 pQ:mg "go_on_awaiting" = some (.ref A.dU)
 pA:dS K "take_word" "take_word" mF A.jq D.jA
 tL:Binds K D.jA ["world","process","choices"] []
 tH:mg "take_word" = some (.ref A.jq)
 tR:dS K "find_word" "find_word" mI A.jt D.jE
 ye:Binds K D.jE ["world","process","choices"] []
 xU:mg "find_word" = some (.ref A.jt)
 nP:dS K "go_on_raised" "go_on_raised" iS A.fw D.fI
 sG:Binds K D.fI ["world","process"] []
 sy:mg "go_on_raised" = some (.ref A.fw)
 jf:dS K "go_on_with_value" "go_on_with_value" eW A.df D.di
 mY:Binds K D.di ["world","process"] []
 mV:mg "go_on_with_value" = some (.ref A.df)
 yx:dS K "do_both" "do_both" rq A.jc D.oo
 BG:Binds K D.oo ["world","process","thing"] []
 Gp:mg "do_both" = some (.ref A.jc)
 nR:dS K "do_operation" "do_operation" iU A.cZ D.fK
 sI:Binds K D.fK ["world","process","thing"] []
 yP:mg "do_operation" = some (.ref A.cZ)
 Ay:dS K "do_let" "do_let" uc A.k7 D.rM
 DT:Binds K D.rM ["world","process","thing"] []
 HQ:mg "do_let" = some (.ref A.k7)
 tS:dS K "do_choice" "do_choice" mJ A.e9 D.jF
 yf:Binds K D.jF ["world","process","thing"] []
 CU:mg "do_choice" = some (.ref A.e9)
 yw:dS K "do_call" "do_call" rm A.jb D.om
 BF:Binds K D.om ["world","process","thing"] []
 Gn:mg "do_call" = some (.ref A.jb)
 yu:dS K "do_send" "do_send" rk A.ja D.oj
 BE:Binds K D.oj ["world","process","thing"] []
 Gm:mg "do_send" = some (.ref A.ja)
 vx:dS K "do_start" "do_start" oP A.gB D.lF
 zz:Binds K D.lF ["world","process","thing"] []
 E5:mg "do_start" = some (.ref A.gB)
 vw:dS K "do_watch" "do_watch" oO A.gA D.lE
 zy:Binds K D.lE ["world","process","thing"] []
 E4:mg "do_watch" = some (.ref A.gA)
 vz:dS K "do_raise" "do_raise" oQ A.gC D.lG
 zA:Binds K D.lG ["world","process","thing"] []
 E6:mg "do_raise" = some (.ref A.gC)
 vA:dS K "do_catch" "do_catch" oR A.gD D.lH
 zB:Binds K D.lH ["world","process","thing"] []
 E7:mg "do_catch" = some (.ref A.gD)
 Ax:dS K "do_say" "do_say" ub A.k6 D.rL
 DS:Binds K D.rL ["world","process","thing"] []
 HP:mg "do_say" = some (.ref A.k6)
 zK:dS K "told" "told" zX A.zf D.zi
 BC:Binds K D.zi ["world","value"] []
 Bx:mg "told" = some (.ref A.zf)
 jL:dS K "told_name" "told_name" mE A.jo D.jz
 l8:Binds K D.jz ["world","number"] []
 lX:mg "told_name" = some (.ref A.jo)
 k9:dS K "told_values" "told_values" jN A.gy D.gI
 pk:Binds K D.gI ["world","row"] []
 pb:mg "told_values" = some (.ref A.gy)
 nL:dS K "told_process" "told_process" iO A.fm D.fF
 sC:Binds K D.fF ["world","process"] []
 so:mg "told_process" = some (.ref A.fm)
 qY:dS K "told_state" "told_state" kI A.hW D.iw
 vU:Binds K D.iw ["world","process"] []
 vR:mg "told_state" = some (.ref A.hW)
 nM:dS K "told_letters" "told_letters" iP A.ft D.fG
 sD:Binds K D.fG ["world"] []
 sr:mg "told_letters" = some (.ref A.ft)
 pz:dS K "told_word" "told_word" mD A.jn D.jy
 tK:Binds K D.jy ["world","word"] []
 tG:mg "told_word" = some (.ref A.jn)
 v7:dS K "__init__" "World.__init__" kM A.ig D.iB
 m7:Binds K D.iB ["self","functions"] []
 mQ:Mk K A.aR A.ig
 v8:dS K "copy" "World.copy" kO A.ij D.iC
 qT:Binds K D.iC ["self"] []
 qJ:Meth K A.aR "copy" A.ij
 kD:dS K "has_function" "World.has_function" d6 A.cu D.cz
 eH:Binds K D.cz ["self","f"] []
 eG:Meth K A.aR "has_function" A.cu
 mj:dS K "has_process" "World.has_process" ez A.cO D.cV
 b4:Binds K D.cV ["self","number"] []
 bZ:Meth K A.aR "has_process" A.cO
 nh:dS K "process_of" "World.process_of" eX A.dg D.dk
 cb:Binds K D.dk ["self","number"] []
 b9:Meth K A.aR "process_of" A.dg
 uO:dS K "start" "World.start" jQ A.gE D.gK
 pq:Binds K D.gK ["self","name","f","value"] []
 oX:Meth K A.aR "start" A.gE
 mh:dS K "start_child" "World.start_child" eo A.cM D.cT
 l9:Binds K D.cT ["self","parent","f","value"] []
 lS:Meth K A.aR "start_child" A.cM
 v5:dS K "send" "World.send" kL A.ie D.iA
 j7:Binds K D.iA ["self","sender","receiver","word"] []
 j4:Meth K A.aR "send" A.ie
 sN:dS K "arrive" "World.arrive" iV A.fy D.fL
 nH:Binds K D.fL ["self","letter"] []
 nA:Meth K A.aR "arrive" A.fy
 kF:dS K "arrive_watch" "World.arrive_watch" d7 A.cw D.cG
 kz:Binds K D.cG ["self","watched","watcher"] []
 kx:Meth K A.aR "arrive_watch" A.cw
 yy:dS K "end" "World.end" mK A.ju D.jG
 tM:Binds K D.jG ["self","process","mode"] []
 tD:Meth K A.aR "end" A.ju
 ox:dS K "last_word" "World.last_word" f7 A.dB D.dG
 jK:Binds K D.dG ["self","process"] []
 jk:Meth K A.aR "last_word" A.dB
 mi:dS K "is_overfull" "World.is_overfull" et A.cN D.cU
 me:Binds K D.cU ["self"] []
 lT:Meth K A.aR "is_overfull" A.cN
 yA:dS K "__init__" "Line.__init__" mM A.jw D.jI
 yg:Binds K D.jI ["self"] []
 xJ:Mk K A.cLine A.jw
 sR:dS K "program" "Line.program" iZ A.fD D.fP
 sL:Binds K D.fP ["self","written"] []
 sf:Meth K A.cLine "program" A.fD
 we:dS K "begin" "Line.begin" kU A.iu D.iH
 vZ:Binds K D.iH ["self","f","n"] []
 vK:Meth K A.cLine "begin" A.iu
 zL:dS K "run" "Line.run" oS A.lx D.lI
 zC:Binds K D.lI ["self","i","n"] []
 y0:Meth K A.cLine "run" A.lx
 sS:dS K "deliver" "Line.deliver" i3 A.fE D.fQ
 sM:Binds K D.fQ ["self","i","j"] []
 sg:Meth K A.cLine "deliver" A.fE
 wd:dS K "ticks" "Line.ticks" kT A.ir D.iG
 vY:Binds K D.iG ["self","n"] []
 vJ:Meth K A.cLine "ticks" A.ir
 wc:dS K "turns" "Line.turns" kR A.iq D.iF
 vX:Binds K D.iF ["self","n"] []
 vI:Meth K A.cLine "turns" A.iq
 yz:dS K "keep" "Line.keep" mL A.jv D.jH
 tN:Binds K D.jH ["self","trial","answer"] []
 tE:Meth K A.cLine "keep" A.jv
 mq:dS K "tell_process" "Line.tell_process" eF A.cR D.cY
 mf:Binds K D.cY ["self","i"] []
 lU:Meth K A.cLine "tell_process" A.cR
 qZ:dS K "tell_box" "Line.tell_box" gQ A.eJ D.eM
 qU:Binds K D.eM ["self","i"] []
 qK:Meth K A.cLine "tell_box" A.eJ
 pU:dS K "tell_said" "Line.tell_said" gu A.dX D.d5
 pS:Binds K D.d5 ["self","i"] []
 pL:Meth K A.cLine "tell_said" A.dX
 rg:dS K "tell_air" "Line.tell_air" gR A.eK D.eN
 qV:Binds K D.eN ["self"] []
 qL:Meth K A.cLine "tell_air" A.eK
 ni:dS K "tell_counts" "Line.tell_counts" eY A.dh D.dq
 nc:Binds K D.dq ["self"] []
 mS:Meth K A.cLine "tell_counts" A.dh
 nQ:dS K "first_letter" "first_letter" iT A.fx D.fJ
 sH:Binds K D.fJ ["letters","sender","receiver"] []
 sA:mg "first_letter" = some (.ref A.fx)
 tQ:dS K "go_rounds" "go_rounds" mH A.js D.jD
 yd:Binds K D.jD ["world","rounds"] []
 xT:mg "go_rounds" = some (.ref A.js)
 vt:dS K "go_round" "go_round" oN A.lu D.lD
 zx:Binds K D.lD ["world"] []
 ze:mg "go_round" = some (.ref A.lu)
 B6:dS K "answers" "answers" rA A.lZ D.l4
 GH:Binds K D.l4 ["calls"] []
 Gq:mg "answers" = some (.ref A.lZ)
 nN:dS K "size_of_call" "size_of_call" iQ A.ee D.eg
 sE:Binds K D.eg ["calls","place"] []
 su:mg "size_of_call" = some (.ref A.ee)
 pC:dS K "answer_call" "answer_call" jP A.fb D.fc
 uI:Binds K D.fc ["line","call"] []
 uD:mg "answer_call" = some (.ref A.fb)
 jM:dS K "answer_question" "answer_question" fZ A.dA D.dE
 ot:Binds K D.dE ["line","call"] []
 nZ:mg "answer_question" = some (.ref A.dA)
 kPairs:Cf K A.bE
 Gr:mg "Pairs" = some (.ref A.bE)
 fU:aZ K A.bE "halves"
 fT:aZ K A.bE "places"
 gT:Exc K mg "NoProgram" A.fg
 wZ:∀h:Heap,K.In h->OwnClsQ "NoProgram" A.fg [.type "Exception",.type "BaseException",.type "object"] "Exception.__new__" mg h
 de:Cf K A.bN
 DJ:mg "Reader" = some (.ref A.bN)
 fj:aZ K A.bN "numbers"
 fR:aZ K A.bN "place"
 ao:Cf K A.aj
 xX:mg "Process" = some (.ref A.aj)
 bH:aZ K A.aj "number"
 gP:aZ K A.aj "name"
 aN:aZ K A.aj "mode"
 eh:aZ K A.aj "node"
 bh:aZ K A.aj "variables"
 aQ:aZ K A.aj "value"
 eO:aZ K A.aj "since"
 dr:aZ K A.aj "looked"
 bU:aZ K A.aj "todo"
 bW:aZ K A.aj "box"
 fS:aZ K A.aj "said"
 cg:aZ K A.aj "children"
 bQ:aZ K A.aj "watchers"
 fY:Exc K mg "TooManyProcesses" A.bK
 iL:∀h:Heap,K.In h->OwnClsQ "TooManyProcesses" A.bK [.type "Exception",.type "BaseException",.type "object"] "Exception.__new__" mg h
 aL:Cf K A.aR
 Ao:mg "World" = some (.ref A.aR)
 dJ:aZ K A.aR "functions"
 bg:aZ K A.aR "processes"
 br:aZ K A.aR "letters"
 dw:aZ K A.aR "time"
 bV:aZ K A.aR "pairs"
 bS:Cf K A.cLine
 IC:mg "Line" = some (.ref A.cLine)
 aU:aZ K A.cLine "world"
 i9:GI mg "NUMBER" (0)
 xQ:GI mg "NAME" (1)
 HM:GI mg "TWO" (2)
 sh:GI mg "MOST_NUMBERS" (300)
 pP:GI mg "MOST_FUNCTIONS" (10)
 nX:GI mg "DEEPEST_WRITTEN" (20)
 nY:GI mg "DEEPEST_PATTERN" (5)
 Am:GI mg "LOWEST" (-2147483648)
 Ge:GI mg "ROUND" (4294967296)
 Ak:GI mg "WORKS" (0)
 Gf:GI mg "CAME" (1)
 Al:GI mg "RAISED" (2)
 wR:GI mg "AWAITS" (3)
 uA:GI mg "AT_END" (4)
 rG:GI mg "ENDED_BY" (5)
 Gb:GI mg "WRONG" (101)
 Br:GI mg "GOES_ON" (0)
 Gd:GI mg "WAITS" (1)
 xR:GI mg "HAS_VALUE" (2)
 vP:GI mg "HAS_FAILED" (3)
 pO:GI mg "MOST_PROCESSES" (20)
 sj:GI mg "MOST_LETTERS" (200)
 vO:GI mg "MOST_STEPS" (300)
 uz:GI mg "MOST_ROUNDS" (30)
 vN:GI mg "MOST_TICKS" (1000)
 pN:GI mg "STEPS_OF_ROUND" (10)
 rJ:GI mg "BEYOND" (-1)
 hU:GI mg "NO_PROCESS" (-3)
 xP:GI mg "NO_LETTER" (-5)
 rF:GI mg "OVERFULL" (-6)
 Gg:GI mg "BEGUN" (-8)
 CZ:vn w K A.x8 (DE A)
 CT:mg "PARTS" = some (.ref A.x8)
 l0:vn w K A.gj (pM A)
 lV:mg "PATTERN_PARTS" = some (.ref A.gj)
 uF:vn w K A.qP (y8 A)
 uB:mg "GRANTED" = some (.ref A.qP)
 vS:vn w K A.j6 (uy A)
 vQ:mg "FIRST_PART" = some (.ref A.j6)
 ph:vn w K A.jd (jX A)
 oZ:mg "SECOND_PART" = some (.ref A.jd)
 Gx:vn w K A.x9 (DF A)
 Gj:mg "DOING" = some (.ref A.x9)
 Gw:vn w K A.x5 (DD A)
 Gi:mg "SIZES" = some (.ref A.x5)
 qf:∃a vs,mg "FIRST_PROGRAM" = some (.ref a)/\vm K (fun _=>none) vs [eL (.num 0)]/\TupAt K (fun _=>none) a vs
 gc:mg "len" = none
 vC:mg "list" = none
 zO:mg "tuple" = none
 Cg:mg "range" = none
 wY:mg "enumerate" = none
theorem yI:aD ["self"] ["self"] (aA kP):=⟨rfl,rfl,rfl,by decide +kernel,rfl,by decide +kernel,by decide +kernel⟩
theorem rW:aD ["self","first","second","halves"] ["self","first","second"] (aA kQ):=⟨rfl,rfl,rfl,by decide +kernel,rfl,by decide +kernel,by decide +kernel⟩
theorem xn:aD ["self","value"] ["self","value"] (aA jT):=⟨rfl,rfl,rfl,by decide +kernel,rfl,by decide +kernel,by decide +kernel⟩
theorem wo:aD ["self","value"] ["self","value"] (aA iY):=⟨rfl,rfl,rfl,by decide +kernel,rfl,by decide +kernel,by decide +kernel⟩
theorem xm:aD ["self","numbers"] ["self","numbers"] (aA jS):=⟨rfl,rfl,rfl,by decide +kernel,rfl,by decide +kernel,by decide +kernel⟩
theorem t8:aD ["self"] ["self"] (aA gs):=⟨rfl,rfl,rfl,by decide +kernel,rfl,by decide +kernel,by decide +kernel⟩
theorem xl:aD ["self","most"] ["self","most"] (aA jR):=⟨rfl,rfl,rfl,by decide +kernel,rfl,by decide +kernel,by decide +kernel⟩
theorem dt:aD ["self","depth","kind","written","part"] ["self","depth"] (aA dP):=⟨rfl,rfl,rfl,by decide +kernel,rfl,by decide +kernel,by decide +kernel⟩
theorem du:aD ["self","depth","kind","pattern","part"] ["self","depth"] (aA dQ):=⟨rfl,rfl,rfl,by decide +kernel,rfl,by decide +kernel,by decide +kernel⟩
theorem ke:aD ["numbers","reader","functions"] ["numbers"] (aA iR):=⟨rfl,rfl,rfl,by decide +kernel,rfl,by decide +kernel,by decide +kernel⟩
theorem AH:aD ["pairs","k","x","y"] ["pairs","k","x","y"] (aA oK):=⟨rfl,rfl,rfl,by decide +kernel,rfl,by decide +kernel,by decide +kernel⟩
theorem Hq:aD ["pairs","k","x"] ["pairs","k","x"] (aA zY):=⟨rfl,rfl,rfl,by decide +kernel,rfl,by decide +kernel,by decide +kernel⟩
theorem AG:aD ["k","x","y"] ["k","x","y"] (aA oJ):=⟨rfl,rfl,rfl,by decide +kernel,rfl,by decide +kernel,by decide +kernel⟩
theorem yF:aD ["number"] ["number"] (aA kK):=⟨rfl,rfl,rfl,by decide +kernel,rfl,by decide +kernel,by decide +kernel⟩
theorem gn:aD ["pairs","pattern","value","variables","ahead","looked_at","wanted","part"] ["pairs","pattern","value","variables"] (aA mC):=⟨rfl,rfl,rfl,by decide +kernel,rfl,by decide +kernel,by decide +kernel⟩
theorem xh:aD ["variables","place","value"] ["variables","place","value"] (aA jO):=⟨rfl,rfl,rfl,by decide +kernel,rfl,by decide +kernel,by decide +kernel⟩
theorem wm:aD ["self","number","name"] ["self","number","name"] (aA iW):=⟨rfl,rfl,rfl,by decide +kernel,rfl,by decide +kernel,by decide +kernel⟩
theorem sW:aD ["self","node","variables"] ["self","node","variables"] (aA f9):=⟨rfl,rfl,rfl,by decide +kernel,rfl,by decide +kernel,by decide +kernel⟩
theorem sX:aD ["self","value"] ["self","value"] (aA gb):=⟨rfl,rfl,rfl,by decide +kernel,rfl,by decide +kernel,by decide +kernel⟩
theorem qp:aD ["self","value"] ["self","value"] (aA eD):=⟨rfl,rfl,rfl,by decide +kernel,rfl,by decide +kernel,by decide +kernel⟩
theorem pZ:aD ["self","time"] ["self","time"] (aA d8):=⟨rfl,rfl,rfl,by decide +kernel,rfl,by decide +kernel,by decide +kernel⟩
theorem qm:aD ["self"] ["self"] (aA eC):=⟨rfl,rfl,rfl,by decide +kernel,rfl,by decide +kernel,by decide +kernel⟩
theorem pH:aD ["self","twin"] ["self"] (aA iX):=⟨rfl,rfl,rfl,by decide +kernel,rfl,by decide +kernel,by decide +kernel⟩
theorem nj:aD ["world","process","most","taken"] ["world","process","most"] (aA kJ):=⟨rfl,rfl,rfl,by decide +kernel,rfl,by decide +kernel,by decide +kernel⟩
theorem zU:aD ["world","process"] ["world","process"] (aA mG):=⟨rfl,rfl,rfl,by decide +kernel,rfl,by decide +kernel,by decide +kernel⟩
theorem vD:aD ["world","process","node"] ["world","process"] (aA oI):=⟨rfl,rfl,rfl,by decide +kernel,rfl,by decide +kernel,by decide +kernel⟩
theorem qh:aD ["process","place"] ["process","place"] (aA ek):=⟨rfl,rfl,rfl,by decide +kernel,rfl,by decide +kernel,by decide +kernel⟩
theorem AI:aD ["process"] ["process"] (aA oM):=⟨rfl,rfl,rfl,by decide +kernel,rfl,by decide +kernel,by decide +kernel⟩
theorem mB:aD ["world","process","node"] ["world","process"] (aA gr):=⟨rfl,rfl,rfl,by decide +kernel,rfl,by decide +kernel,by decide +kernel⟩
theorem t6:aD ["world","process","choices","found"] ["world","process","choices"] (aA mF):=⟨rfl,rfl,rfl,by decide +kernel,rfl,by decide +kernel,by decide +kernel⟩
theorem kH:aD ["world","process","choices","place","choice","variables"] ["world","process","choices"] (aA mI):=⟨rfl,rfl,rfl,by decide +kernel,rfl,by decide +kernel,by decide +kernel⟩
theorem pE:aD ["world","process","thing"] ["world","process"] (aA iS):=⟨rfl,rfl,rfl,by decide +kernel,rfl,by decide +kernel,by decide +kernel⟩
theorem gO:aD ["world","process","thing","node"] ["world","process"] (aA eW):=⟨rfl,rfl,rfl,by decide +kernel,rfl,by decide +kernel,by decide +kernel⟩
theorem Cr:aD ["world","process","thing"] ["world","process","thing"] (aA rq):=⟨rfl,rfl,rfl,by decide +kernel,rfl,by decide +kernel,by decide +kernel⟩
theorem pF:aD ["world","process","thing","outcome"] ["world","process","thing"] (aA iU):=⟨rfl,rfl,rfl,by decide +kernel,rfl,by decide +kernel,by decide +kernel⟩
theorem EI:aD ["world","process","thing"] ["world","process","thing"] (aA uc):=⟨rfl,rfl,rfl,by decide +kernel,rfl,by decide +kernel,by decide +kernel⟩
theorem oG:aD ["world","process","thing","node","variables"] ["world","process","thing"] (aA mJ):=⟨rfl,rfl,rfl,by decide +kernel,rfl,by decide +kernel,by decide +kernel⟩
theorem xj:aD ["world","process","thing","f"] ["world","process","thing"] (aA rm):=⟨rfl,rfl,rfl,by decide +kernel,rfl,by decide +kernel,by decide +kernel⟩
theorem xi:aD ["world","process","thing","receiver"] ["world","process","thing"] (aA rk):=⟨rfl,rfl,rfl,by decide +kernel,rfl,by decide +kernel,by decide +kernel⟩
theorem vF:aD ["world","process","thing","f"] ["world","process","thing"] (aA oP):=⟨rfl,rfl,rfl,by decide +kernel,rfl,by decide +kernel,by decide +kernel⟩
theorem vE:aD ["world","process","thing","watched"] ["world","process","thing"] (aA oO):=⟨rfl,rfl,rfl,by decide +kernel,rfl,by decide +kernel,by decide +kernel⟩
theorem AJ:aD ["world","process","thing"] ["world","process","thing"] (aA oQ):=⟨rfl,rfl,rfl,by decide +kernel,rfl,by decide +kernel,by decide +kernel⟩
theorem AK:aD ["world","process","thing"] ["world","process","thing"] (aA oR):=⟨rfl,rfl,rfl,by decide +kernel,rfl,by decide +kernel,by decide +kernel⟩
theorem EH:aD ["world","process","thing"] ["world","process","thing"] (aA ub):=⟨rfl,rfl,rfl,by decide +kernel,rfl,by decide +kernel,by decide +kernel⟩
theorem wM:aD ["world","value","numbers","ahead","part"] ["world","value"] (aA zX):=⟨rfl,rfl,rfl,by decide +kernel,rfl,by decide +kernel,by decide +kernel⟩
theorem t5:aD ["world","number","name"] ["world","number"] (aA mE):=⟨rfl,rfl,rfl,by decide +kernel,rfl,by decide +kernel,by decide +kernel⟩
theorem lJ:aD ["world","row","numbers","value"] ["world","row"] (aA jN):=⟨rfl,rfl,rfl,by decide +kernel,rfl,by decide +kernel,by decide +kernel⟩
theorem pD:aD ["world","process","numbers"] ["world","process"] (aA iO):=⟨rfl,rfl,rfl,by decide +kernel,rfl,by decide +kernel,by decide +kernel⟩
theorem yE:aD ["world","process"] ["world","process"] (aA kI):=⟨rfl,rfl,rfl,by decide +kernel,rfl,by decide +kernel,by decide +kernel⟩
theorem kb:aD ["world","numbers","letter"] ["world"] (aA iP):=⟨rfl,rfl,rfl,by decide +kernel,rfl,by decide +kernel,by decide +kernel⟩
theorem zT:aD ["world","word"] ["world","word"] (aA mD):=⟨rfl,rfl,rfl,by decide +kernel,rfl,by decide +kernel,by decide +kernel⟩
theorem yH:aD ["self","functions"] ["self","functions"] (aA kM):=⟨rfl,rfl,rfl,by decide +kernel,rfl,by decide +kernel,by decide +kernel⟩
theorem pX:aD ["self","f"] ["self","f"] (aA d6):=⟨rfl,rfl,rfl,by decide +kernel,rfl,by decide +kernel,by decide +kernel⟩
theorem qk:aD ["self","number"] ["self","number"] (aA ez):=⟨rfl,rfl,rfl,by decide +kernel,rfl,by decide +kernel,by decide +kernel⟩
theorem rQ:aD ["self","number"] ["self","number"] (aA eX):=⟨rfl,rfl,rfl,by decide +kernel,rfl,by decide +kernel,by decide +kernel⟩
theorem qi:aD ["self","name","f","value","process"] ["self","name","f","value"] (aA jQ):=⟨rfl,rfl,rfl,by decide +kernel,rfl,by decide +kernel,by decide +kernel⟩
theorem j2:aD ["self","parent","f","value","child"] ["self","parent","f","value"] (aA eo):=⟨rfl,rfl,rfl,by decide +kernel,rfl,by decide +kernel,by decide +kernel⟩
theorem yG:aD ["self","sender","receiver","word"] ["self","sender","receiver","word"] (aA kL):=⟨rfl,rfl,rfl,by decide +kernel,rfl,by decide +kernel,by decide +kernel⟩
theorem pG:aD ["self","letter","receiver"] ["self","letter"] (aA iV):=⟨rfl,rfl,rfl,by decide +kernel,rfl,by decide +kernel,by decide +kernel⟩
theorem pY:aD ["self","watched","watcher"] ["self","watched","watcher"] (aA d7):=⟨rfl,rfl,rfl,by decide +kernel,rfl,by decide +kernel,by decide +kernel⟩
theorem oH:aD ["self","process","mode","watchers","watcher"] ["self","process","mode"] (aA mK):=⟨rfl,rfl,rfl,by decide +kernel,rfl,by decide +kernel,by decide +kernel⟩
theorem gW:aD ["self","process","how","ending"] ["self","process"] (aA f7):=⟨rfl,rfl,rfl,by decide +kernel,rfl,by decide +kernel,by decide +kernel⟩
theorem qj:aD ["self"] ["self"] (aA et):=⟨rfl,rfl,rfl,by decide +kernel,rfl,by decide +kernel,by decide +kernel⟩
theorem zW:aD ["self"] ["self"] (aA mM):=⟨rfl,rfl,rfl,by decide +kernel,rfl,by decide +kernel,by decide +kernel⟩
theorem pI:aD ["self","written","functions"] ["self","written"] (aA iZ):=⟨rfl,rfl,rfl,by decide +kernel,rfl,by decide +kernel,by decide +kernel⟩
theorem yJ:aD ["self","f","n"] ["self","f","n"] (aA kU):=⟨rfl,rfl,rfl,by decide +kernel,rfl,by decide +kernel,by decide +kernel⟩
theorem qt:aD ["self","i","n","trial","taken"] ["self","i","n"] (aA oS):=⟨rfl,rfl,rfl,by decide +kernel,rfl,by decide +kernel,by decide +kernel⟩
theorem kg:aD ["self","i","j","place","letter"] ["self","i","j"] (aA i3):=⟨rfl,rfl,rfl,by decide +kernel,rfl,by decide +kernel,by decide +kernel⟩
theorem rY:aD ["self","n","world"] ["self","n"] (aA kT):=⟨rfl,rfl,rfl,by decide +kernel,rfl,by decide +kernel,by decide +kernel⟩
theorem rX:aD ["self","n","trial"] ["self","n"] (aA kR):=⟨rfl,rfl,rfl,by decide +kernel,rfl,by decide +kernel,by decide +kernel⟩
theorem zV:aD ["self","trial","answer"] ["self","trial","answer"] (aA mL):=⟨rfl,rfl,rfl,by decide +kernel,rfl,by decide +kernel,by decide +kernel⟩
theorem qr:aD ["self","i"] ["self","i"] (aA eF):=⟨rfl,rfl,rfl,by decide +kernel,rfl,by decide +kernel,by decide +kernel⟩
theorem uX:aD ["self","i"] ["self","i"] (aA gQ):=⟨rfl,rfl,rfl,by decide +kernel,rfl,by decide +kernel,by decide +kernel⟩
theorem t9:aD ["self","i"] ["self","i"] (aA gu):=⟨rfl,rfl,rfl,by decide +kernel,rfl,by decide +kernel,by decide +kernel⟩
theorem uY:aD ["self"] ["self"] (aA gR):=⟨rfl,rfl,rfl,by decide +kernel,rfl,by decide +kernel,by decide +kernel⟩
theorem rR:aD ["self"] ["self"] (aA eY):=⟨rfl,rfl,rfl,by decide +kernel,rfl,by decide +kernel,by decide +kernel⟩
theorem kf:aD ["letters","sender","receiver","place","letter"] ["letters","sender","receiver"] (aA iT):=⟨rfl,rfl,rfl,by decide +kernel,rfl,by decide +kernel,by decide +kernel⟩
theorem t7:aD ["world","rounds","turn"] ["world","rounds"] (aA mH):=⟨rfl,rfl,rfl,by decide +kernel,rfl,by decide +kernel,by decide +kernel⟩
theorem mz:aD ["world","process","arriving","letter"] ["world"] (aA oN):=⟨rfl,rfl,rfl,by decide +kernel,rfl,by decide +kernel,by decide +kernel⟩
theorem gU:aD ["calls","line","answered","place","size","answer"] ["calls"] (aA rA):=⟨rfl,rfl,rfl,by decide +kernel,rfl,by decide +kernel,by decide +kernel⟩
theorem wk:aD ["calls","place"] ["calls","place"] (aA iQ):=⟨rfl,rfl,rfl,by decide +kernel,rfl,by decide +kernel,by decide +kernel⟩
theorem xk:aD ["line","call"] ["line","call"] (aA jP):=⟨rfl,rfl,rfl,by decide +kernel,rfl,by decide +kernel,by decide +kernel⟩
theorem sV:aD ["line","call"] ["line","call"] (aA fZ):=⟨rfl,rfl,rfl,by decide +kernel,rfl,by decide +kernel,by decide +kernel⟩
theorem a8 {X:Cx} {x:Str} {i:Int} {pos:Pos} (h:GI X.mg x i) (hg:Gl X x:=by rfl) (hd:(x==("__debug__" : Str))=false:=by decide):PE X (.Name x pos) (tC (.int i)):=let ⟨_,e⟩:=h;Dx hg e ⟨_,rfl⟩ hd
end Bt
set_option maxHeartbeats 2000000
namespace Bt
open PySem PySem.Spec PyProof.Rows L2
variable {P:Program} {w:World} {K:PySem.W.Frag} {mg:Str->Option Value} {base:Heap} {A:Ad} {D:Fg}
theorem eR {x:V} {l:List V}:Cd (x::l) 0=some x:=at_of (j:=0) rfl rfl
theorem tO {x y:V} {l:List V}:Cd (x::y::l) 1=some y:=at_of (j:=1) rfl rfl
theorem at2 {x y z:V} {l:List V}:Cd (x::y::z::l) 2=some z:=at_of (j:=2) rfl rfl
theorem at3 {x y z u:V} {l:List V}:Cd (x::y::z::u::l) 3=some u:=at_of (j:=3) rfl rfl
theorem at4 {x y z u t:V} {l:List V}:Cd (x::y::z::u::t::l) 4=some t:=at_of (j:=4) rfl rfl
theorem u2 {A:Around} {k:Nat} (r:iJ k A):A.units+2<cLine:=by have:=r.units;omega
theorem dT {c A B:Prop} [Decidable c] (h:c) (k:A):if decide c=true then A else B:=by rw[decide_eq_true h];exact oY k
theorem dF {c A B:Prop} [Decidable c] (h:¬c) (k:B):if decide c=true then A else B:=by rw[decide_eq_false h];exact mw k
theorem d2 {c A B:Prop} [Decidable c] (h1:c->A) (h2:¬c->B):if decide c=true then A else B:=by
 by_cases h:c
 ·exact dT h (h1 h)
 ·exact dF h (h2 h)
theorem nT {c A B:Prop} [Decidable c] (h:¬c) (k:A):if (!decide c)=true then A else B:=by rw[decide_eq_false h];exact oY k
theorem nF {c A B:Prop} [Decidable c] (h:c) (k:B):if (!decide c)=true then A else B:=by rw[decide_eq_true h];exact mw k
theorem n2 {c A B:Prop} [Decidable c] (h1:¬c->A) (h2:c->B):if (!decide c)=true then A else B:=by
 by_cases h:c
 ·exact nF h (h2 h)
 ·exact nT h (h1 h)
inductive B0 (P:Program) (w:World) (C:Addr) (second:Bool) (vs:List V) (H:Hp) (Q:VK):Prop|mk (q:QL) (hv:Tab) (v:V) (i:Nat) (a b:MV):vs=[.ref q.o,v]->nJ P w C H q hv->VA H v (.two i)->hv[i]?=some (a,b)->(∀r,VA H r (if second then b else a)->Q r H)->B0 P w C second vs H Q
def Dn (P:Program) (w:World) (C:Addr) (second:Bool):Sp:=fun vs H Q _=>B0 P w C second vs H Q
theorem lR (T:Tx w K mg A D):aS P w K mg base eV 1 A.gH D.gN ["self","value"] (Dn P w A.bE false):=by
 refine T.uR.ok xn (fun vs H Q E h=>?_) (fun cdv A outer s H vs Q E hr h=>?_)
 ·obtain⟨q,hv,v,i,a,b,rfl,_⟩:=h;rfl
 ·obtain⟨q,hv,v,i,a,b,rfl,pr,⟨av,rfl,hva⟩,hi,k⟩:=h
  obtain⟨as,xs,hl,rel,dn,_,_⟩:=pr.ex
  obtain⟨ai,hai,v1,v2,e,w1,w2⟩:=ug rel hi
  refine⟨_,ak (aF (aK aH (aK bI (az (pv 0) rfl) (aK aH (pv 1) aq (fun _ _=>rfl)) (fun _ _=>rfl)) aq (fun _ _=>rfl))),?_⟩
  refine⟨_,rfl,q.o,_,q.dx,_,_,rfl,pr.ob,T.kPairs,T.fU,zl 0 IJ rfl rfl,_,rfl,av,_,_,_,rfl,rfl,dM.of hva,tO,q.l,_,_,_,rfl,rfl,bM.of hl,at_of (j:=i) rfl (by rw[List.getElem?_map,hai];rfl),ai,_,_,_,rfl,rfl,dM.of e,eR,?_⟩
  exact k _ w1
theorem ki (T:Tx w K mg A D):aS P w K mg base eV 1 A.fC D.fO ["self","value"] (Dn P w A.bE true):=by
 refine T.sQ.ok wo (fun vs H Q E h=>?_) (fun cdv A outer s H vs Q E hr h=>?_)
 ·obtain⟨q,hv,v,i,a,b,rfl,_⟩:=h;rfl
 ·obtain⟨q,hv,v,i,a,b,rfl,pr,⟨av,rfl,hva⟩,hi,k⟩:=h
  obtain⟨as,xs,hl,rel,dn,_,_⟩:=pr.ex
  obtain⟨ai,hai,v1,v2,e,w1,w2⟩:=ug rel hi
  refine⟨_,ak (aF (aK aH (aK bI (az (pv 0) rfl) (aK aH (pv 1) aq (fun _ _=>rfl)) (fun _ _=>rfl)) aq (fun _ _=>rfl))),?_⟩
  refine⟨_,rfl,q.o,_,q.dx,_,_,rfl,pr.ob,T.kPairs,T.fU,zl 0 IJ rfl rfl,_,rfl,av,_,_,_,rfl,rfl,dM.of hva,tO,q.l,_,_,_,rfl,rfl,bM.of hl,at_of (j:=i) rfl (by rw[List.getElem?_map,hai];rfl),ai,_,_,_,rfl,rfl,dM.of e,tO,?_⟩
  exact k _ w2
inductive Ef (P:Program) (w:World) (C:Addr) (vs:List V) (H:Hp) (Q:VK):Prop|mk (q:QL) (hv:Tab) (v1 v2:V) (x y:MV):vs=[.ref q.o,v1,v2]->nJ P w C H q hv->VA H v1 x->VA H v2 y->hv.length<16000000->(∀(H':Hp) (hv':Tab) (v:V) (i:Nat),nJ P w C H' q hv'->hv<+:hv'->hv'.length<=hv.length+1->Ch [q.l,q.d] H H'->VA H' v (.two i)->hv'[i]?=some (x,y)->Q v H')->Ef P w C vs H Q
def Js (P:Program) (w:World) (C:Addr):Sp:=fun vs H Q _=>Ef P w C vs H Q
theorem nlt:(16000000:Nat)<sizeLine:=by decide
theorem ny (T:Tx w K mg A D):aS P w K mg base eV 1 A.il D.iE ["self","first","second"] (Js P w A.bE):=by
 refine T.wb.ok rW (fun vs H Q E h=>?_) (fun cdv A' outer s H vs Q E hr h=>?_)
 ·obtain⟨q,hv,v1,v2,x,y,rfl,_⟩:=h;rfl
 ·obtain⟨q,hv,v1,v2,x,y,rfl,pr,w1,w2,hlen,k⟩:=h
  refine⟨_,ah (aX (i:=3) rW.nd rfl (Or.inl rfl) (bR (aa (pv 1) (aa (pv 2) ag))))
   (ah (aW (aO (Cz (P:=P) (w:=w) (u2 hr) (pv 3) (az (pv 0) rfl)))
    (ah (FN (P:=P) (w:=w) (u2 hr) (az (pv 0) rfl) (pv 3) (a9 aM rfl T.gc PySem.boot_len (aa (az (pv 0) rfl) ag)))
     (ak (aI (dO PySem.F.plainAttrs_list PySem.F.slot_list_append PySem.F.type_list_append bJ (az (pv 0) rfl) (aa (pv 3) ag))))) aT)
   (ak (aF (bR (aa (a8 T.HM) (aa (FU (P:=P) (w:=w) (u2 hr) (az (pv 0) rfl) (pv 3)) ag)))))),?_⟩
  refine⟨_,rfl,_,rfl,(by show 2<=sizeLine;decide),fun p hp=>?_⟩
  have c1:Ch [] H (upd H p (.tup [v1,v2])):=Ch.new hp
  have pr1:=pr.mono c1 (by simp)
  have hf:IQ (upd H p (.tup [v1,v2])) p (x,y):=⟨v1,v2,ae,w1.mono c1,w2.mono c1⟩
  obtain⟨as,xs,hl,rel,dn,hxl,hxs⟩:=pr1.ex
  refine⟨_,rfl,_,rfl,q.o,_,q.dx,_,_,rfl,pr1.ob,T.kPairs,T.fT,zl 1 IJ rfl rfl,q.d,p,xs,k4 (x,y),rfl,rfl,dn,hf.nk,_,rfl,?_⟩
  rcases GJ hxl hxs pr1.nd (x,y) with⟨i,p',t,hi,hat,hpv⟩|⟨hm,hat⟩
  ·rw[hat]
   refine mw ?_
   refine⟨_,rfl,q.o,_,q.dx,_,_,rfl,pr1.ob,T.kPairs,T.fT,zl 1 IJ rfl rfl,_,rfl,q.d,p,xs,k4 (x,y),p',.int (i:Int),rfl,rfl,dn,hf.nk,hat,⟨t,hpv⟩,(by show 2<=sizeLine;decide),fun z hz=>?_⟩
   have c2:Ch [] (upd H p (.tup [v1,v2])) (upd (upd H p (.tup [v1,v2])) z (.tup [.int 2,.int (i:Int)])):=Ch.new hz
   exact k _ hv _ i (pr1.mono c2 (by simp)) (List.prefix_refl _) (by omega) ((c1.trans c2).mono (by simp)) ⟨z,rfl,ae⟩ hi
  ·rw[hat]
   refine oY ?_
   have hlx:as.length=hv.length:=rel.length
   refine⟨_,rfl,q.o,_,q.dx,_,_,rfl,pr1.ob,T.kPairs,T.fU,zl 0 IJ rfl rfl,q.l,_,rfl,.inl (bM.of hl),_,rfl,q.o,_,q.dx,_,_,rfl,pr1.ob,T.kPairs,T.fT,zl 1 IJ rfl rfl,_,rfl,q.d,p,xs,k4 (x,y),rfl,rfl,dn,hf.nk,(by rw[hxl];have:=nlt;omega),fun u ru=>?_⟩
   obtain⟨tk,rfl⟩:=ru
   rw[storedH_new hat]
   have nld:q.l≠q.d:=Bi hl dn.ob (by intro z;cases z)
   have nod:q.o≠q.d:=Bi pr1.ob dn.ob (by intro z;cases z)
   have nol:q.o≠q.l:=Bi pr1.ob hl (by intro z;cases z)
   have npd:p≠q.d:=Bi (ae (H:=H)) dn.ob (by intro z;cases z)
   have npl:p≠q.l:=Bi (ae (H:=H)) hl (by intro z;cases z)
   have c2:Ch [q.l,q.d] (upd H p (.tup [v1,v2])) (upd (upd H p (.tup [v1,v2])) q.d (DN P w q.d (xs++[(k4 (x,y),p,Value.int ((as.map V.ref).length:Int) tk)]))):=Ch.put dn.ob trivial (by simp)
   generalize hH2:upd (upd H p (.tup [v1,v2])) q.d (DN P w q.d (xs++[(k4 (x,y),p,Value.int ((as.map V.ref).length:Int) tk)]))=H2 at c2 ⊢
   have ho2:H2 q.o=some (.ins A.bE q.dx (QN.zip [.ref q.l,.ref q.d])):=by rw[<-hH2,aE nod];exact pr1.ob
   have hl2:H2 q.l=some (.lst (as.map V.ref)):=by rw[<-hH2,aE nld];exact hl
   have hd2:H2 q.d=some (DN P w q.d (xs++[(k4 (x,y),p,Value.int ((as.map V.ref).length:Int) tk)])):=by rw[<-hH2,ae]
   refine⟨_,rfl,q.o,_,q.dx,_,_,rfl,ho2,T.kPairs,T.fU,zl 0 IJ rfl rfl,.inl ⟨rfl,_,bM.of hl2⟩,_,rfl,q.l,_,_,rfl,rfl,hl2,(by rw[List.length_map,hlx];have:=nlt;omega),?_⟩
   have c3:Ch [q.l,q.d] H2 (upd H2 q.l (.lst (as.map V.ref++[.ref p]))):=Ch.put hl2 trivial (by simp)
   generalize hH3:upd H2 q.l (.lst (as.map V.ref++[.ref p]))=H3 at c3 ⊢
   have ho3:H3 q.o=some (.ins A.bE q.dx (QN.zip [.ref q.l,.ref q.d])):=by rw[<-hH3,aE nol];exact ho2
   have hl3:H3 q.l=some (.lst ((as++[p]).map V.ref)):=by rw[<-hH3,ae,List.map_append];rfl
   have hd3:H3 q.d=some (DN P w q.d (xs++[(k4 (x,y),p,Value.int ((as.map V.ref).length:Int) tk)])):=by rw[<-hH3,aE nld.symm];exact hd2
   have c13:Ch [q.l,q.d] H H3:=((c1.mono (by simp)).trans c2).trans c3
   have cc:=c2.trans c3
   have pr3:nJ P w A.bE H3 q (hv++[(x,y)]):=by
    refine⟨ho3,⟨as++[p],xs++[(k4 (x,y),p,Value.int ((as.map V.ref).length:Int) tk)],hl3,Paired.snoc (Paired.bL rel fun _ _ z=>z.mono cc) (hf.mono cc),⟨hd3,fun e he=>?_,dn.sm⟩,by simp[hxl],fun i e he=>?_⟩,?_⟩
    ·rcases List.mem_append.mp he with he|he
     ·exact(dn.ks e he).mono cc.tu
     ·rw[List.mem_singleton.mp he];exact hf.nk.mono cc.tu
    ·by_cases hi:i<xs.length
     ·rw[List.getElem?_append_left hi] at he
      obtain⟨h,q1,q2⟩:=hxs i e he
      exact⟨h,by rw[List.getElem?_append_left (by omega)];exact q1,q2⟩
     ·rw[List.getElem?_append_right (by omega)] at he
      have hi0:i-xs.length=0:=by
       rcases Nat.eq_zero_or_pos (i-xs.length) with z|z
       ·exact z
       ·rw[List.getElem?_eq_none_iff.mpr (show [(k4 (x,y),p,Value.int ((as.map V.ref).length:Int) tk)].length<=i-xs.length from z)] at he;cases he
      rw[hi0] at he
      have hie:i=hv.length:=by omega
      simp at he
      subst he
      refine⟨(x,y),by rw[hie];simp,rfl,tk,?_⟩
      rw[hie,hlx]
    ·exact DA pr1.nd hm
   obtain⟨as3,xs3,hl3',rel3,dn3,hxl3,hxs3⟩:=pr3.ex
   have hf3:=hf.mono cc
   rcases GJ hxl3 hxs3 pr3.nd (x,y) with⟨i,p',t,hi,hat3,hpv⟩|⟨hm3,_⟩
   ·refine⟨_,rfl,q.o,_,q.dx,_,_,rfl,ho3,T.kPairs,T.fT,zl 1 IJ rfl rfl,_,rfl,q.d,p,xs3,k4 (x,y),p',.int (i:Int),rfl,rfl,dn3,hf3.nk,hat3,⟨t,hpv⟩,(by show 2<=sizeLine;decide),fun z hz=>?_⟩
    have c4:Ch [] H3 (upd H3 z (.tup [.int 2,.int (i:Int)])):=Ch.new hz
    exact k _ _ _ i (pr3.mono c4 (by simp)) (List.prefix_append _ _) (by simp) (c13.trans (c4.mono (by simp))) ⟨z,rfl,ae⟩ hi
   ·exact absurd (List.mem_append.mpr (.inr (List.mem_singleton.mpr rfl))) hm3
end Bt
namespace Bt
open PySem PySem.Spec PyProof.Rows L2
variable {P:Program} {w:World} {K:PySem.W.Frag} {mg:Str->Option Value} {base:Heap} {A:Ad} {D:Fg}
theorem lz {ns:List Str} {vs:List V} (h:ns.length<=900):(ns.zip vs).length<1000:=by rw[List.length_zip];omega
theorem lp {vs:List V}:(PN.zip vs).length<1000:=lz (by decide)
def PO (C:Addr) (H:Hp) (p dx:Addr) (vals:List V):Prop:=H p=some (.ins C dx (PN.zip vals))/\vals.length=13
inductive zE (C:Addr) (vs:List V) (H:Hp) (Q:VK):Prop|mk (p dx:Addr) (vals:List V) (n v:V):vs=[.ref p,n,v]->PO C H p dx vals->Q .bo (upd H p (.ins C dx (PN.zip (((vals.set 2 (.int 0)).set 3 n).set 4 v))))->zE C vs H Q
def Fp (C:Addr):Sp:=fun vs H Q _=>zE C vs H Q
theorem bt (T:Tx w K mg A D):aS P w K mg base eV 1 A.dC D.dH ["self","node","variables"] (Fp A.aj):=by
 refine T.oy.ok sW (fun vs H Q E h=>?_) (fun cdv A' outer s H vs Q E hr h=>?_)
 ·obtain⟨p,dx,vals,n,v,rfl,_⟩:=h;rfl
 ·obtain⟨p,dx,vals,n,v,rfl,⟨ho,hl⟩,k⟩:=h
  refine⟨_,ah (aY (pv 0) (a8 T.Ak) rfl) (ah (aY (pv 0) (pv 1) rfl) (ak (aY (pv 0) (pv 2) rfl))),?_⟩
  refine⟨_,rfl,p,_,dx,_,rfl,ho,T.ao,T.aN,lp,?_⟩
  rw[zp 2 ck rfl (by omega)]
  refine⟨_,rfl,_,rfl,p,_,dx,_,rfl,ae,T.ao,T.eh,lp,?_⟩
  rw[zp 3 ck rfl (by simp;omega)]
  refine⟨_,rfl,_,rfl,p,_,dx,_,rfl,ae,T.ao,T.bh,lp,?_⟩
  rw[zp 4 ck rfl (by simp;omega),rh,rh]
  exact k
inductive BL (C:Addr) (m:Int) (vs:List V) (H:Hp) (Q:VK):Prop|mk (p dx:Addr) (vals:List V) (v:V):vs=[.ref p,v]->PO C H p dx vals->Q .bo (upd H p (.ins C dx (PN.zip ((vals.set 2 (.int m)).set 5 v))))->BL C m vs H Q
def Dl (C:Addr) (m:Int):Sp:=fun vs H Q _=>BL C m vs H Q
theorem bu (T:Tx w K mg A D):aS P w K mg base eV 1 A.dD D.dI ["self","value"] (Dl A.aj 1):=by
 refine T.oz.ok sX (fun vs H Q E h=>?_) (fun cdv A' outer s H vs Q E hr h=>?_)
 ·obtain⟨p,dx,vals,v,rfl,_⟩:=h;rfl
 ·obtain⟨p,dx,vals,v,rfl,⟨ho,hl⟩,k⟩:=h
  refine⟨_,ah (aY (pv 0) (a8 T.Gf) rfl) (ak (aY (pv 0) (pv 1) rfl)),?_⟩
  refine⟨_,rfl,p,_,dx,_,rfl,ho,T.ao,T.aN,lp,?_⟩
  rw[zp 2 ck rfl (by omega)]
  refine⟨_,rfl,_,rfl,p,_,dx,_,rfl,ae,T.ao,T.aQ,lp,?_⟩
  rw[zp 5 ck rfl (by simp;omega),rh]
  exact k
theorem j3 (T:Tx w K mg A D):aS P w K mg base eV 1 A.cQ D.cX ["self","value"] (Dl A.aj 2):=by
 refine T.mn.ok qp (fun vs H Q E h=>?_) (fun cdv A' outer s H vs Q E hr h=>?_)
 ·obtain⟨p,dx,vals,v,rfl,_⟩:=h;rfl
 ·obtain⟨p,dx,vals,v,rfl,⟨ho,hl⟩,k⟩:=h
  refine⟨_,ah (aY (pv 0) (a8 T.Al) rfl) (ak (aY (pv 0) (pv 1) rfl)),?_⟩
  refine⟨_,rfl,p,_,dx,_,rfl,ho,T.ao,T.aN,lp,?_⟩
  rw[zp 2 ck rfl (by omega)]
  refine⟨_,rfl,_,rfl,p,_,dx,_,rfl,ae,T.ao,T.aQ,lp,?_⟩
  rw[zp 5 ck rfl (by simp;omega),rh]
  exact k
inductive B4 (C:Addr) (vs:List V) (H:Hp) (Q:VK):Prop|mk (p dx:Addr) (vals:List V) (v:V):vs=[.ref p,v]->PO C H p dx vals->Q .bo (upd H p (.ins C dx (PN.zip (((vals.set 2 (.int 3)).set 6 v).set 7 (.int 0)))))->B4 C vs H Q
def Hl (C:Addr):Sp:=fun vs H Q _=>B4 C vs H Q
theorem p4 (T:Tx w K mg A D):aS P w K mg base eV 1 A.cy D.cI ["self","time"] (Hl A.aj):=by
 refine T.kG.ok pZ (fun vs H Q E h=>?_) (fun cdv A' outer s H vs Q E hr h=>?_)
 ·obtain⟨p,dx,vals,v,rfl,_⟩:=h;rfl
 ·obtain⟨p,dx,vals,v,rfl,⟨ho,hl⟩,k⟩:=h
  refine⟨_,ah (aY (pv 0) (a8 T.wR) rfl) (ah (aY (pv 0) (pv 1) rfl) (ak (aY (pv 0) aq rfl))),?_⟩
  refine⟨_,rfl,p,_,dx,_,rfl,ho,T.ao,T.aN,lp,?_⟩
  rw[zp 2 ck rfl (by omega)]
  refine⟨_,rfl,_,rfl,p,_,dx,_,rfl,ae,T.ao,T.eO,lp,?_⟩
  rw[zp 6 ck rfl (by simp;omega)]
  refine⟨_,rfl,p,_,dx,_,rfl,ae,T.ao,T.dr,lp,?_⟩
  rw[zp 7 ck rfl (by simp;omega),rh,rh]
  exact k
inductive B1 (C:Addr) (vs:List V) (H:Hp) (Q:VK):Prop|mk (p dx:Addr) (vals:List V) (m:Int):vs=[.ref p]->PO C H p dx vals->vals[2]?=some (.int m)->Q (.bl (decide (m=4)||decide (m=5))) H->B1 C vs H Q
def Hg (C:Addr):Sp:=fun vs H Q _=>B1 C vs H Q
theorem gg (T:Tx w K mg A D):aS P w K mg base eV 1 A.cP D.cW ["self"] (Hg A.aj):=by
 refine T.ml.ok qm (fun vs H Q E h=>?_) (fun cdv A' outer s H vs Q E hr h=>?_)
 ·obtain⟨p,dx,vals,m,rfl,_⟩:=h;rfl
 ·obtain⟨p,dx,vals,m,rfl,⟨ho,hl⟩,hm,k⟩:=h
  refine⟨_,ak (aF (pe_or (qz (bc (az (pv 0) rfl) (a8 T.uA))) (Cy (qz (bc (az (pv 0) rfl) (a8 T.rG)))))),?_⟩
  refine⟨_,rfl,p,_,dx,_,_,rfl,ho,T.ao,T.aN,zl 2 ck rfl hm,_,_,rfl,rfl,_,rfl,?_⟩
  by_cases e:m=4
  ·rw[decide_eq_true e] at k
   exact dT e k
  ·rw[decide_eq_false e] at k
   refine dF e ⟨_,rfl,p,_,dx,_,_,rfl,ho,T.ao,T.aN,zl 2 ck rfl hm,_,_,rfl,rfl,?_⟩
   rw[Bool.false_or] at k
   exact k
structure PNew (C:Addr) (H H':Hp) (L:PL) (num:V) (nm:V):Prop where
 ob:∃vr,H' L.p=some (.ins C L.dx (PN.zip [num,nm,.int 0,.bo,vr,.bo,.int 0,.int 0,.ref L.td,.ref L.bx,.ref L.sd,.int 0,.ref L.wt]))
 td:H' L.td=some (.lst [])
 bx:H' L.bx=some (.lst [])
 sd:H' L.sd=some (.lst [])
 wt:H' L.wt=some (.lst [])
 nw:H L.td=none/\H L.bx=none/\H L.sd=none/\H L.wt=none
 nd:L.addrs.Nodup
 ch:Ch [L.p] H H'
inductive D9 (C:Addr) (vs:List V) (H:Hp) (Q:VK):Prop|mk (p dx:Addr) (num nm:V):vs=[.ref p,num,nm]->H p=some (.ins C dx [])->(∀(H':Hp) (L:PL),L.p=p->L.dx=dx->PNew C H H' L num nm->Q .bo H')->D9 C vs H Q
def Jn (C:Addr):Sp:=fun vs H Q _=>D9 C vs H Q
theorem zs {ns:List Str} {vs:List V} {f:Str} {v:V} (h:f∉ns) (hl:ns.length=vs.length):lK f v (ns.zip vs)=(ns++[f]).zip (vs++[v]):=Ih h hl
theorem pK (T:Tx w K mg A D):aS P w K mg base eV 1 A.fA D.fM ["self","number","name"] (Jn A.aj):=by
 refine T.sO.ok wm (fun vs H Q E h=>?_) (fun cdv A' outer s H vs Q E hr h=>?_)
 ·obtain⟨p,dx,num,nm,rfl,_⟩:=h;rfl
 ·obtain⟨p,dx,num,nm,rfl,ho,k⟩:=h
  refine⟨_,(ah (aY (pv 0) (pv 1) rfl)
   (ah (aY (pv 0) (pv 2) rfl)
   (ah (aY (pv 0) (a8 T.Ak) rfl)
   (ah (aY (pv 0) lM rfl)
   (ah (aY (pv 0) (bR ag) rfl)
   (ah (aY (pv 0) lM rfl)
   (ah (aY (pv 0) aq rfl)
   (ah (aY (pv 0) aq rfl)
   (ah (aY (pv 0) (bf ag) rfl)
   (ah (aY (pv 0) (bf ag) rfl)
   (ah (aY (pv 0) (bf ag) rfl)
   (ah (aY (pv 0) aq rfl)
   (ak (aY (pv 0) (bf ag) rfl)))))))))))))),?_⟩
  refine⟨_,rfl,_,rfl,p,_,dx,_,rfl,ho,T.ao,T.bH,(by show 0<1000;decide),?_⟩
  rw[show lK "number" num []=(["number"]:List Str).zip [num] from rfl]
  have c0:Ch [p] H (upd H p (.ins A.aj dx ((["number"]:List Str).zip [num]))):=Ch.put ho trivial (by simp)
  have h0:(upd H p (.ins A.aj dx ((["number"]:List Str).zip [num]))) p=some (.ins A.aj dx ((["number"]:List Str).zip [num])):=ae
  generalize upd H p _=H0 at c0 h0 ⊢
  refine⟨_,rfl,_,rfl,p,_,dx,_,rfl,h0,T.ao,T.gP,lz (by decide),?_⟩
  rw[zs (by decide +kernel) rfl]
  have c1:Ch [p] H0 (upd H0 p (.ins A.aj dx (((["number"]:List Str)++[("name" : Str)]).zip ([num]++[nm])))):=Ch.put h0 trivial (by simp)
  have h1:(upd H0 p (.ins A.aj dx (((["number"]:List Str)++[("name" : Str)]).zip ([num]++[nm])))) p=some (.ins A.aj dx ((["number","name"]:List Str).zip [num,nm])):=ae
  generalize upd H0 p _=H1 at c1 h1 ⊢
  refine⟨_,rfl,p,_,dx,_,rfl,h1,T.ao,T.aN,lz (by decide),?_⟩
  rw[zs (by decide +kernel) rfl]
  have c2:Ch [p] H1 (upd H1 p (.ins A.aj dx (((["number","name"]:List Str)++[("mode" : Str)]).zip ([num,nm]++[.int 0])))):=Ch.put h1 trivial (by simp)
  have h2:(upd H1 p (.ins A.aj dx (((["number","name"]:List Str)++[("mode" : Str)]).zip ([num,nm]++[.int 0])))) p=some (.ins A.aj dx ((["number","name","mode"]:List Str).zip [num,nm,.int 0])):=ae
  generalize upd H1 p _=H2 at c2 h2 ⊢
  refine⟨_,rfl,p,_,dx,_,rfl,h2,T.ao,T.eh,lz (by decide),?_⟩
  rw[zs (by decide +kernel) rfl]
  have c3:Ch [p] H2 (upd H2 p (.ins A.aj dx (((["number","name","mode"]:List Str)++[("node" : Str)]).zip ([num,nm,.int 0]++[.bo])))):=Ch.put h2 trivial (by simp)
  have h3:(upd H2 p (.ins A.aj dx (((["number","name","mode"]:List Str)++[("node" : Str)]).zip ([num,nm,.int 0]++[.bo])))) p=some (.ins A.aj dx ((["number","name","mode","node"]:List Str).zip [num,nm,.int 0,.bo])):=ae
  generalize upd H2 p _=H3 at c3 h3 ⊢
  refine⟨by show 0<=sizeLine;decide,fun tv ntv=>?_⟩
  have c4:Ch [p] H3 (upd H3 tv (.tup [])):=Ch.new ntv
  have h4:=(aE (H:=H3) (o:=.tup []) (ay h3 ntv)).trans h3
  have gtv4:(upd H3 tv (.tup [])) tv=some (.tup []):=ae
  have qtv:tv≠p:=(ay h3 ntv).symm
  generalize upd H3 tv _=H4 at c4 h4 gtv4 ⊢
  refine⟨_,rfl,p,_,dx,_,rfl,h4,T.ao,T.bh,lz (by decide),?_⟩
  rw[zs (by decide +kernel) rfl]
  have c5:Ch [p] H4 (upd H4 p (.ins A.aj dx (((["number","name","mode","node"]:List Str)++[("variables" : Str)]).zip ([num,nm,.int 0,.bo]++[.ref tv])))):=Ch.put h4 trivial (by simp)
  have h5:(upd H4 p (.ins A.aj dx (((["number","name","mode","node"]:List Str)++[("variables" : Str)]).zip ([num,nm,.int 0,.bo]++[.ref tv])))) p=some (.ins A.aj dx ((["number","name","mode","node","variables"]:List Str).zip [num,nm,.int 0,.bo,.ref tv])):=ae
  generalize upd H4 p _=H5 at c5 h5 ⊢
  refine⟨_,rfl,p,_,dx,_,rfl,h5,T.ao,T.aQ,lz (by decide),?_⟩
  rw[zs (by decide +kernel) rfl]
  have c6:Ch [p] H5 (upd H5 p (.ins A.aj dx (((["number","name","mode","node","variables"]:List Str)++[("value" : Str)]).zip ([num,nm,.int 0,.bo,.ref tv]++[.bo])))):=Ch.put h5 trivial (by simp)
  have h6:(upd H5 p (.ins A.aj dx (((["number","name","mode","node","variables"]:List Str)++[("value" : Str)]).zip ([num,nm,.int 0,.bo,.ref tv]++[.bo])))) p=some (.ins A.aj dx ((["number","name","mode","node","variables","value"]:List Str).zip [num,nm,.int 0,.bo,.ref tv,.bo])):=ae
  generalize upd H5 p _=H6 at c6 h6 ⊢
  refine⟨_,rfl,p,_,dx,_,rfl,h6,T.ao,T.eO,lz (by decide),?_⟩
  rw[zs (by decide +kernel) rfl]
  have c7:Ch [p] H6 (upd H6 p (.ins A.aj dx (((["number","name","mode","node","variables","value"]:List Str)++[("since" : Str)]).zip ([num,nm,.int 0,.bo,.ref tv,.bo]++[.int 0])))):=Ch.put h6 trivial (by simp)
  have h7:(upd H6 p (.ins A.aj dx (((["number","name","mode","node","variables","value"]:List Str)++[("since" : Str)]).zip ([num,nm,.int 0,.bo,.ref tv,.bo]++[.int 0])))) p=some (.ins A.aj dx ((["number","name","mode","node","variables","value","since"]:List Str).zip [num,nm,.int 0,.bo,.ref tv,.bo,.int 0])):=ae
  generalize upd H6 p _=H7 at c7 h7 ⊢
  refine⟨_,rfl,p,_,dx,_,rfl,h7,T.ao,T.dr,lz (by decide),?_⟩
  rw[zs (by decide +kernel) rfl]
  have c8:Ch [p] H7 (upd H7 p (.ins A.aj dx (((["number","name","mode","node","variables","value","since"]:List Str)++[("looked" : Str)]).zip ([num,nm,.int 0,.bo,.ref tv,.bo,.int 0]++[.int 0])))):=Ch.put h7 trivial (by simp)
  have h8:(upd H7 p (.ins A.aj dx (((["number","name","mode","node","variables","value","since"]:List Str)++[("looked" : Str)]).zip ([num,nm,.int 0,.bo,.ref tv,.bo,.int 0]++[.int 0])))) p=some (.ins A.aj dx ((["number","name","mode","node","variables","value","since","looked"]:List Str).zip [num,nm,.int 0,.bo,.ref tv,.bo,.int 0,.int 0])):=ae
  generalize upd H7 p _=H8 at c8 h8 ⊢
  refine⟨by show 0<=sizeLine;decide,fun td ntd=>?_⟩
  have c9:Ch [p] H8 (upd H8 td (.lst [])):=Ch.new ntd
  have h9:=(aE (H:=H8) (o:=.lst []) (ay h8 ntd)).trans h8
  have gtd9:(upd H8 td (.lst [])) td=some (.lst []):=ae
  have qtd:td≠p:=(ay h8 ntd).symm
  generalize upd H8 td _=H9 at c9 h9 gtd9 ⊢
  refine⟨_,rfl,p,_,dx,_,rfl,h9,T.ao,T.bU,lz (by decide),?_⟩
  rw[zs (by decide +kernel) rfl]
  have c10:Ch [p] H9 (upd H9 p (.ins A.aj dx (((["number","name","mode","node","variables","value","since","looked"]:List Str)++[("todo" : Str)]).zip ([num,nm,.int 0,.bo,.ref tv,.bo,.int 0,.int 0]++[.ref td])))):=Ch.put h9 trivial (by simp)
  have h10:(upd H9 p (.ins A.aj dx (((["number","name","mode","node","variables","value","since","looked"]:List Str)++[("todo" : Str)]).zip ([num,nm,.int 0,.bo,.ref tv,.bo,.int 0,.int 0]++[.ref td])))) p=some (.ins A.aj dx ((["number","name","mode","node","variables","value","since","looked","todo"]:List Str).zip [num,nm,.int 0,.bo,.ref tv,.bo,.int 0,.int 0,.ref td])):=ae
  have gtd10:(upd H9 p (.ins A.aj dx (((["number","name","mode","node","variables","value","since","looked"]:List Str)++[("todo" : Str)]).zip ([num,nm,.int 0,.bo,.ref tv,.bo,.int 0,.int 0]++[.ref td])))) td=some (.lst []):=by rw[aE qtd];exact gtd9
  generalize upd H9 p _=H10 at c10 h10 gtd10 ⊢
  refine⟨by show 0<=sizeLine;decide,fun bx nbx=>?_⟩
  have c11:Ch [p] H10 (upd H10 bx (.lst [])):=Ch.new nbx
  have h11:=(aE (H:=H10) (o:=.lst []) (ay h10 nbx)).trans h10
  have gbx11:(upd H10 bx (.lst [])) bx=some (.lst []):=ae
  have qbx:bx≠p:=(ay h10 nbx).symm
  have gtd11:(upd H10 bx (.lst [])) td=some (.lst []):=by rw[aE (ay gtd10 nbx)];exact gtd10
  have rtdbx:td≠bx:=ay gtd10 nbx
  generalize upd H10 bx _=H11 at c11 h11 gbx11 gtd11 ⊢
  refine⟨_,rfl,p,_,dx,_,rfl,h11,T.ao,T.bW,lz (by decide),?_⟩
  rw[zs (by decide +kernel) rfl]
  have c12:Ch [p] H11 (upd H11 p (.ins A.aj dx (((["number","name","mode","node","variables","value","since","looked","todo"]:List Str)++[("box" : Str)]).zip ([num,nm,.int 0,.bo,.ref tv,.bo,.int 0,.int 0,.ref td]++[.ref bx])))):=Ch.put h11 trivial (by simp)
  have h12:(upd H11 p (.ins A.aj dx (((["number","name","mode","node","variables","value","since","looked","todo"]:List Str)++[("box" : Str)]).zip ([num,nm,.int 0,.bo,.ref tv,.bo,.int 0,.int 0,.ref td]++[.ref bx])))) p=some (.ins A.aj dx ((["number","name","mode","node","variables","value","since","looked","todo","box"]:List Str).zip [num,nm,.int 0,.bo,.ref tv,.bo,.int 0,.int 0,.ref td,.ref bx])):=ae
  have gtd12:(upd H11 p (.ins A.aj dx (((["number","name","mode","node","variables","value","since","looked","todo"]:List Str)++[("box" : Str)]).zip ([num,nm,.int 0,.bo,.ref tv,.bo,.int 0,.int 0,.ref td]++[.ref bx])))) td=some (.lst []):=by rw[aE qtd];exact gtd11
  have gbx12:(upd H11 p (.ins A.aj dx (((["number","name","mode","node","variables","value","since","looked","todo"]:List Str)++[("box" : Str)]).zip ([num,nm,.int 0,.bo,.ref tv,.bo,.int 0,.int 0,.ref td]++[.ref bx])))) bx=some (.lst []):=by rw[aE qbx];exact gbx11
  generalize upd H11 p _=H12 at c12 h12 gtd12 gbx12 ⊢
  refine⟨by show 0<=sizeLine;decide,fun sd nsd=>?_⟩
  have c13:Ch [p] H12 (upd H12 sd (.lst [])):=Ch.new nsd
  have h13:=(aE (H:=H12) (o:=.lst []) (ay h12 nsd)).trans h12
  have gsd13:(upd H12 sd (.lst [])) sd=some (.lst []):=ae
  have qsd:sd≠p:=(ay h12 nsd).symm
  have gtd13:(upd H12 sd (.lst [])) td=some (.lst []):=by rw[aE (ay gtd12 nsd)];exact gtd12
  have gbx13:(upd H12 sd (.lst [])) bx=some (.lst []):=by rw[aE (ay gbx12 nsd)];exact gbx12
  have rtdsd:td≠sd:=ay gtd12 nsd
  have rbxsd:bx≠sd:=ay gbx12 nsd
  generalize upd H12 sd _=H13 at c13 h13 gsd13 gtd13 gbx13 ⊢
  refine⟨_,rfl,p,_,dx,_,rfl,h13,T.ao,T.fS,lz (by decide),?_⟩
  rw[zs (by decide +kernel) rfl]
  have c14:Ch [p] H13 (upd H13 p (.ins A.aj dx (((["number","name","mode","node","variables","value","since","looked","todo","box"]:List Str)++[("said" : Str)]).zip ([num,nm,.int 0,.bo,.ref tv,.bo,.int 0,.int 0,.ref td,.ref bx]++[.ref sd])))):=Ch.put h13 trivial (by simp)
  have h14:(upd H13 p (.ins A.aj dx (((["number","name","mode","node","variables","value","since","looked","todo","box"]:List Str)++[("said" : Str)]).zip ([num,nm,.int 0,.bo,.ref tv,.bo,.int 0,.int 0,.ref td,.ref bx]++[.ref sd])))) p=some (.ins A.aj dx ((["number","name","mode","node","variables","value","since","looked","todo","box","said"]:List Str).zip [num,nm,.int 0,.bo,.ref tv,.bo,.int 0,.int 0,.ref td,.ref bx,.ref sd])):=ae
  have gtd14:(upd H13 p (.ins A.aj dx (((["number","name","mode","node","variables","value","since","looked","todo","box"]:List Str)++[("said" : Str)]).zip ([num,nm,.int 0,.bo,.ref tv,.bo,.int 0,.int 0,.ref td,.ref bx]++[.ref sd])))) td=some (.lst []):=by rw[aE qtd];exact gtd13
  have gbx14:(upd H13 p (.ins A.aj dx (((["number","name","mode","node","variables","value","since","looked","todo","box"]:List Str)++[("said" : Str)]).zip ([num,nm,.int 0,.bo,.ref tv,.bo,.int 0,.int 0,.ref td,.ref bx]++[.ref sd])))) bx=some (.lst []):=by rw[aE qbx];exact gbx13
  have gsd14:(upd H13 p (.ins A.aj dx (((["number","name","mode","node","variables","value","since","looked","todo","box"]:List Str)++[("said" : Str)]).zip ([num,nm,.int 0,.bo,.ref tv,.bo,.int 0,.int 0,.ref td,.ref bx]++[.ref sd])))) sd=some (.lst []):=by rw[aE qsd];exact gsd13
  generalize upd H13 p _=H14 at c14 h14 gtd14 gbx14 gsd14 ⊢
  refine⟨_,rfl,p,_,dx,_,rfl,h14,T.ao,T.cg,lz (by decide),?_⟩
  rw[zs (by decide +kernel) rfl]
  have c15:Ch [p] H14 (upd H14 p (.ins A.aj dx (((["number","name","mode","node","variables","value","since","looked","todo","box","said"]:List Str)++[("children" : Str)]).zip ([num,nm,.int 0,.bo,.ref tv,.bo,.int 0,.int 0,.ref td,.ref bx,.ref sd]++[.int 0])))):=Ch.put h14 trivial (by simp)
  have h15:(upd H14 p (.ins A.aj dx (((["number","name","mode","node","variables","value","since","looked","todo","box","said"]:List Str)++[("children" : Str)]).zip ([num,nm,.int 0,.bo,.ref tv,.bo,.int 0,.int 0,.ref td,.ref bx,.ref sd]++[.int 0])))) p=some (.ins A.aj dx ((["number","name","mode","node","variables","value","since","looked","todo","box","said","children"]:List Str).zip [num,nm,.int 0,.bo,.ref tv,.bo,.int 0,.int 0,.ref td,.ref bx,.ref sd,.int 0])):=ae
  have gtd15:(upd H14 p (.ins A.aj dx (((["number","name","mode","node","variables","value","since","looked","todo","box","said"]:List Str)++[("children" : Str)]).zip ([num,nm,.int 0,.bo,.ref tv,.bo,.int 0,.int 0,.ref td,.ref bx,.ref sd]++[.int 0])))) td=some (.lst []):=by rw[aE qtd];exact gtd14
  have gbx15:(upd H14 p (.ins A.aj dx (((["number","name","mode","node","variables","value","since","looked","todo","box","said"]:List Str)++[("children" : Str)]).zip ([num,nm,.int 0,.bo,.ref tv,.bo,.int 0,.int 0,.ref td,.ref bx,.ref sd]++[.int 0])))) bx=some (.lst []):=by rw[aE qbx];exact gbx14
  have gsd15:(upd H14 p (.ins A.aj dx (((["number","name","mode","node","variables","value","since","looked","todo","box","said"]:List Str)++[("children" : Str)]).zip ([num,nm,.int 0,.bo,.ref tv,.bo,.int 0,.int 0,.ref td,.ref bx,.ref sd]++[.int 0])))) sd=some (.lst []):=by rw[aE qsd];exact gsd14
  generalize upd H14 p _=H15 at c15 h15 gtd15 gbx15 gsd15 ⊢
  refine⟨by show 0<=sizeLine;decide,fun wt nwt=>?_⟩
  have c16:Ch [p] H15 (upd H15 wt (.lst [])):=Ch.new nwt
  have h16:=(aE (H:=H15) (o:=.lst []) (ay h15 nwt)).trans h15
  have gwt16:(upd H15 wt (.lst [])) wt=some (.lst []):=ae
  have qwt:wt≠p:=(ay h15 nwt).symm
  have gtd16:(upd H15 wt (.lst [])) td=some (.lst []):=by rw[aE (ay gtd15 nwt)];exact gtd15
  have gbx16:(upd H15 wt (.lst [])) bx=some (.lst []):=by rw[aE (ay gbx15 nwt)];exact gbx15
  have gsd16:(upd H15 wt (.lst [])) sd=some (.lst []):=by rw[aE (ay gsd15 nwt)];exact gsd15
  have rtdwt:td≠wt:=ay gtd15 nwt
  have rbxwt:bx≠wt:=ay gbx15 nwt
  have rsdwt:sd≠wt:=ay gsd15 nwt
  generalize upd H15 wt _=H16 at c16 h16 gwt16 gtd16 gbx16 gsd16 ⊢
  refine⟨_,rfl,p,_,dx,_,rfl,h16,T.ao,T.bQ,lz (by decide),?_⟩
  rw[zs (by decide +kernel) rfl]
  have c17:Ch [p] H16 (upd H16 p (.ins A.aj dx (((["number","name","mode","node","variables","value","since","looked","todo","box","said","children"]:List Str)++[("watchers" : Str)]).zip ([num,nm,.int 0,.bo,.ref tv,.bo,.int 0,.int 0,.ref td,.ref bx,.ref sd,.int 0]++[.ref wt])))):=Ch.put h16 trivial (by simp)
  have h17:(upd H16 p (.ins A.aj dx (((["number","name","mode","node","variables","value","since","looked","todo","box","said","children"]:List Str)++[("watchers" : Str)]).zip ([num,nm,.int 0,.bo,.ref tv,.bo,.int 0,.int 0,.ref td,.ref bx,.ref sd,.int 0]++[.ref wt])))) p=some (.ins A.aj dx ((["number","name","mode","node","variables","value","since","looked","todo","box","said","children","watchers"]:List Str).zip [num,nm,.int 0,.bo,.ref tv,.bo,.int 0,.int 0,.ref td,.ref bx,.ref sd,.int 0,.ref wt])):=ae
  have gtd17:(upd H16 p (.ins A.aj dx (((["number","name","mode","node","variables","value","since","looked","todo","box","said","children"]:List Str)++[("watchers" : Str)]).zip ([num,nm,.int 0,.bo,.ref tv,.bo,.int 0,.int 0,.ref td,.ref bx,.ref sd,.int 0]++[.ref wt])))) td=some (.lst []):=by rw[aE qtd];exact gtd16
  have gbx17:(upd H16 p (.ins A.aj dx (((["number","name","mode","node","variables","value","since","looked","todo","box","said","children"]:List Str)++[("watchers" : Str)]).zip ([num,nm,.int 0,.bo,.ref tv,.bo,.int 0,.int 0,.ref td,.ref bx,.ref sd,.int 0]++[.ref wt])))) bx=some (.lst []):=by rw[aE qbx];exact gbx16
  have gsd17:(upd H16 p (.ins A.aj dx (((["number","name","mode","node","variables","value","since","looked","todo","box","said","children"]:List Str)++[("watchers" : Str)]).zip ([num,nm,.int 0,.bo,.ref tv,.bo,.int 0,.int 0,.ref td,.ref bx,.ref sd,.int 0]++[.ref wt])))) sd=some (.lst []):=by rw[aE qsd];exact gsd16
  have gwt17:(upd H16 p (.ins A.aj dx (((["number","name","mode","node","variables","value","since","looked","todo","box","said","children"]:List Str)++[("watchers" : Str)]).zip ([num,nm,.int 0,.bo,.ref tv,.bo,.int 0,.int 0,.ref td,.ref bx,.ref sd,.int 0]++[.ref wt])))) wt=some (.lst []):=by rw[aE qwt];exact gwt16
  have cc:=(((((((((((((((((c0.trans c1).trans c2).trans c3).trans c4).trans c5).trans c6).trans c7).trans c8).trans c9).trans c10).trans c11).trans c12).trans c13).trans c14).trans c15).trans c16).trans c17)
  refine k _ ⟨p,dx,td,bx,sd,wt⟩ rfl rfl ⟨⟨.ref tv,h17⟩,gtd17,gbx17,gsd17,gwt17,⟨(((((((((c0.trans c1).trans c2).trans c3).trans c4).trans c5).trans c6).trans c7).trans c8)).free ntd (by simp;exact qtd),(((((((((((c0.trans c1).trans c2).trans c3).trans c4).trans c5).trans c6).trans c7).trans c8).trans c9).trans c10)).free nbx (by simp;exact qbx),(((((((((((((c0.trans c1).trans c2).trans c3).trans c4).trans c5).trans c6).trans c7).trans c8).trans c9).trans c10).trans c11).trans c12)).free nsd (by simp;exact qsd),((((((((((((((((c0.trans c1).trans c2).trans c3).trans c4).trans c5).trans c6).trans c7).trans c8).trans c9).trans c10).trans c11).trans c12).trans c13).trans c14).trans c15)).free nwt (by simp;exact qwt)⟩,?_,cc⟩
  simp[PL.addrs,qtd.symm,qbx.symm,qsd.symm,qwt.symm,rtdbx,rtdsd,rtdwt,rbxsd,rbxwt,rsdwt]
inductive BV (vs:List V) (H:Hp) (Q:VK):Prop|mk (z:Int):vs=[.int z]->Q (.int (Ha09.wrap z)) H->BV vs H Q
def Hb:Sp:=fun vs H Q _=>BV vs H Q
theorem nt (T:Tx w K mg A D):aS P w K mg base eV 1 A.hZ D.iz ["number"] Hb:=by
 refine T.j8.ok yF (fun vs H Q E h=>?_) (fun cdv A' outer s H vs Q E hr h=>?_)
 ·obtain⟨z,rfl,_⟩:=h;rfl
 ·obtain⟨z,rfl,k⟩:=h
  refine⟨_,(ak (aF (eT oV (eT JE (eT tj (pv 0) (a8 T.Am)) (a8 T.Ge)) (a8 T.Am)))),?_⟩
  refine⟨_,rfl,_,_,rfl,rfl,_,_,rfl,rfl,(by show(0:Int)<4294967296;decide),_,_,rfl,rfl,?_⟩
  have e:Ha09.wrap z=(z - -2147483648) % 4294967296 + -2147483648:=by unfold Ha09.wrap;omega
  rw[e] at k
  exact k
def FF (k:Int) (x y:Int):Int:=if k=0 then Ha09.wrap (x+y) else if k=1 then Ha09.wrap (x-y) else if k=2 then Ha09.wrap (x*y) else if x<y then 1 else 0
inductive D2 (vs:List V) (H:Hp) (Q:VK):Prop|mk (k x y:Int):vs=[.int k,.int x,.int y]->AA x->Q (.int (FF k x y)) H->D2 vs H Q
def Jh:Sp:=fun vs H Q _=>D2 vs H Q
theorem A8 (T:Tx w K mg A D):aS P w K mg base eV 2 A.lj D.lA ["k","x","y"] Jh:=by
 refine T.vp.ok AG (fun vs H Q E h=>?_) (fun cdv A' outer s H vs Q E hr h=>?_)
 ·obtain⟨k,x,y,rfl,_⟩:=h;rfl
 ·obtain⟨k,x,y,rfl,hx,q⟩:=h
  refine⟨_,(ah (aW (aO (bc (pv 0) aq)) (ak (aF (aV (nt T) (hr.mono (by decide)) rfl T.mW T.j8.kp T.mZ .nil aJ (aa (eT oV (pv 1) (pv 2)) ag)))) aT)
   (ah (aW (aO (bc (pv 0) aq)) (ak (aF (aV (nt T) (hr.mono (by decide)) rfl T.mW T.j8.kp T.mZ .nil aJ (aa (eT tj (pv 1) (pv 2)) ag)))) aT)
   (ah (aW (aO (bc (pv 0) aq)) (ak (aF (aV (nt T) (hr.mono (by decide)) rfl T.mW T.j8.kp T.mZ .nil aJ (aa (eT JD (pv 1) (pv 2)) ag)))) aT)
   (ak (aF (uh (aO (xy (pv 1) (pv 2))) aq aq)))))),?_⟩
  unfold FF at q
  refine⟨_,rfl,_,_,rfl,rfl,_,rfl,?_⟩
  refine d2 (fun e=>?_) fun e=>?_
  ·rw[if_pos e] at q
   exact⟨_,rfl,_,rfl,_,_,rfl,rfl,_,rfl,q⟩
  rw[if_neg e] at q
  refine⟨_,rfl,_,_,rfl,rfl,_,rfl,?_⟩
  refine d2 (fun e=>?_) fun e=>?_
  ·rw[if_pos e] at q
   exact⟨_,rfl,_,rfl,_,_,rfl,rfl,_,rfl,q⟩
  rw[if_neg e] at q
  refine⟨_,rfl,_,_,rfl,rfl,_,rfl,?_⟩
  refine d2 (fun e=>?_) fun e=>?_
  ·rw[if_pos e] at q
   exact⟨_,rfl,_,rfl,_,_,rfl,rfl,.inl ⟨by have:=hx.1;omega,by have:=hx.2;omega⟩,_,rfl,q⟩
  rw[if_neg e] at q
  refine⟨_,rfl,_,rfl,_,_,rfl,rfl,_,rfl,?_⟩
  refine d2 (fun e=>?_) fun e=>?_
  ·rw[if_pos e] at q;exact q
  ·rw[if_neg e] at q;exact q
inductive Ec (P:Program) (w:World) (C:Addr) (vs:List V) (H:Hp) (Q:VK):Prop|mk (q:QL) (hv:Tab) (v:V) (m:MV) (k:Int):vs=[.ref q.o,.int k,v]->nJ P w C H q hv->VA H v m->((m.tag≠2/\Q .bo H)\/∃i a b,m=.two i/\hv[i]?=some (a,b)/\∀r,VA H r (if k=5 then a else b)->Q r H)->Ec P w C vs H Q
def Fw (P:Program) (w:World) (C:Addr):Sp:=fun vs H Q _=>Ec P w C vs H Q
theorem HG (T:Tx w K mg A D):aS P w K mg base eV 2 A.zh D.zj ["pairs","k","x"] (Fw P w A.bE):=by
 refine T.GU.ok Hq (fun vs H Q E h=>?_) (fun cdv A' outer s H vs Q E hr h=>?_)
 ·obtain⟨q,hv,v,m,k,rfl,_⟩:=h;rfl
 ·obtain⟨q,hv,v,m,k,rfl,pr,⟨a,rfl,ha⟩,h⟩:=h
  refine⟨_,(ah (aW (aO (z8 (aK aH (pv 2) aq (fun _ _=>rfl)) (a8 T.HM))) (ak (aF lM)) aT)
   (ak (aF (uh (aO (bc (pv 1) aq)) (aG (pv 0) T.kPairs T.kZ (lR T) (hr.mono (by decide)) T.k8 .nil aJ (aa (pv 2) ag)) (aG (pv 0) T.kPairs T.jW (ki T) (hr.mono (by decide)) T.jZ .nil aJ (aa (pv 2) ag)))))),?_⟩
  refine⟨_,rfl,a,_,_,_,rfl,rfl,dM.of ha,eR,_,_,rfl,rfl,_,rfl,?_⟩
  rcases h with⟨hm,h⟩|⟨i,x,y,rfl,hi,h⟩
  ·exact nT hm h
  ·refine nF rfl ?_
   refine⟨_,rfl,_,_,rfl,rfl,_,rfl,?_⟩
   refine d2 (fun e=>?_) fun e=>?_
   ·rw[if_pos e] at h
    exact⟨_,rfl,q.o,q.dx,_,rfl,pr.ob,zn (by decide +kernel),_,rfl,q,hv,_,i,x,y,rfl,pr,⟨a,rfl,ha⟩,hi,h⟩
   ·rw[if_neg e] at h
    exact⟨_,rfl,q.o,q.dx,_,rfl,pr.ob,zn (by decide +kernel),_,rfl,q,hv,_,i,x,y,rfl,pr,⟨a,rfl,ha⟩,hi,h⟩
theorem Dp.va {H:Hp} {v:V} {m:MV} (h:VA H v m):Dp K H v (.tuple [.int m.tag,.int m.CA]):=by
 obtain⟨a,rfl,e⟩:=h
 exact .tup (dM.of e) (.cons (.int _) (.cons (.int _) .nil))
theorem Gv (m n:MV):PyData.eqv (.tuple [.int m.tag,.int m.CA]) (.tuple [.int n.tag,.int n.CA])=decide (m=n):=by
 show((m.tag==n.tag)&&((m.CA==n.CA)&&true))=_
 by_cases h:m=n
 ·subst h;simp
 ·rw[decide_eq_false h]
  by_cases h1:m.tag=n.tag
  ·by_cases h2:m.CA=n.CA
   ·exact absurd (MV.inj h1 h2) h
   ·simp[h2]
  ·simp[h1]
theorem rj (m:MV):SeqAt.shaped (.tuple [.int m.tag,.int m.CA])=true:=rfl
theorem eqV {H:Hp} {x y:V} {m n:MV} {Q:VK} (h1:VA H x m) (h2:VA H y n) (k:Q (.bl (decide (m=n))) H):rEqD K x y H Q :=
 ⟨_,_,Dp.va h1,Dp.va h2,rj m,rj n,by rw[Gv];exact k⟩
theorem neV {H:Hp} {x y:V} {m n:MV} {Q:VK} (h1:VA H x m) (h2:VA H y n) (k:Q (.bl (!decide (m=n))) H):rNeD K x y H Q :=
 ⟨_,_,Dp.va h1,Dp.va h2,rj m,rj n,by rw[Gv];exact k⟩
theorem C0 {hv:Tab} {bz:qX} (n1:hv.Nodup) (n2:bz.Nodup) {m n:MV} {x y:Ha09.Val} (d:Den hv bz m x) (e:Den hv bz n y):m=n↔x=y :=
 ⟨fun q=>by subst q;exact d.fn e,fun q=>by subst q;exact d.inj n1 n2 e⟩
theorem xO (z:Int):AA (Ha09.wrap z):=by unfold AA Ha09.wrap;omega
theorem Ga {k x y:Int}:AA (FF k x y):=by
 unfold FF
 split
 ·exact xO _
 ·split
  ·exact xO _
  ·split
   ·exact xO _
   ·split<;>(unfold AA;omega)
theorem A6 {hv:Tab} {bz:qX} {k:Nat} {m n:MV} {x y:Ha09.Val} (hk:k<=3) (dx:Den hv bz m x) (dy:Den hv bz n y) (h:¬m.tag=0\/¬n.tag=0):Ha09.operate k x y=.error Ha09.BAD:=by
 have hk':k=0\/k=1\/k=2\/k=3:=by omega
 cases dx<;>cases dy<;>first|(rcases hk' with rfl|rfl|rfl|rfl<;>rfl)|(exfalso;rcases h with h|h<;>exact h rfl)
theorem HD {k:Nat} (hk:k<=3) (a b:Int):Ha09.operate k (.num a) (.num b)=.ok (.num (FF k a b)):=by
 have hk':k=0\/k=1\/k=2\/k=3:=by omega
 rcases hk' with rfl|rfl|rfl|rfl<;>rfl
inductive D5 (P:Program) (w:World) (C:Addr) (vs:List V) (H:Hp) (Q:VK):Prop|mk (q:QL) (hv:Tab) (bz:qX) (k:Nat) (v1 v2:V) (x y:Ha09.Val):vs=[.ref q.o,.int (k:Int),v1,v2]->nJ P w C H q hv->bz.Nodup->k<=6->VR H hv bz v1 x->VR H hv bz v2 y->(∀r,Ha09.operate k x y=.ok r->∀H' v,Ch [] H H'->VR H' hv bz v r->Q v H')->(∀r,Ha09.operate k x y=.error r->Q .bo H)->D5 P w C vs H Q
def Jk (P:Program) (w:World) (C:Addr):Sp:=fun vs H Q _=>D5 P w C vs H Q
theorem A9 (T:Tx w K mg A D):aS P w K mg base eV 3 A.ll D.lB ["pairs","k","x","y"] (Jk P w A.bE):=by
 refine T.vq.ok AH (fun vs H Q E h=>?_) (fun cdv A' outer s H vs Q E hr h=>?_)
 ·obtain⟨q,hv,bz,k,v1,v2,x,y,rfl,_⟩:=h;rfl
 ·obtain⟨q,hv,bz,k,v1,v2,x,y,rfl,pr,nn,hk,⟨m,va,dx⟩,⟨n,vb,dy⟩,ho,he⟩:=h
  refine⟨_,(ah (aW (aO (bc (pv 1) aq)) (ak (aF (bR (aa (a8 T.i9) (aa (uh (ue (FY hr.units) (pv 2) (pv 3) (vh _)) aq aq) ag))))) aT)
   (ah (aW (PW.pt (xr (aO (bc (pv 1) aq)) (sY (aO (bc (pv 1) aq))))) (ak (aF (aV (HG T) (hr.mono (by decide)) rfl T.IB T.GU.kp T.IH .nil aJ (aa (pv 0) (aa (pv 1) (aa (pv 2) ag)))))) aT)
   (ah (aW (PW.pt (xr (aO (z8 (aK aH (pv 2) aq (fun _ _=>rfl)) (a8 T.i9))) (sY (aO (z8 (aK aH (pv 3) aq (fun _ _=>rfl)) (a8 T.i9)))))) (ak (aF lM)) aT)
   (ak (aF (bR (aa (a8 T.i9) (aa (aV (A8 T) (hr.mono (by decide)) rfl T.zc T.vp.kp T.zo .nil aJ (aa (pv 1) (aa (aK aH (pv 2) aq (fun _ _=>rfl)) (aa (aK aH (pv 3) aq (fun _ _=>rfl)) ag)))) ag)))))))),?_⟩
  refine⟨_,rfl,_,_,rfl,rfl,_,rfl,?_⟩
  refine d2 (fun e=>?_) fun e=>?_
  ·obtain rfl:k=4:=by omega
   have e1:Ha09.operate 4 x y=.ok (.num (if x=y then 1 else 0)):=by unfold Ha09.operate;rfl
   refine⟨_,rfl,_,rfl,eqV va vb ⟨_,rfl,?_⟩⟩
   refine d2 (fun e=>?_) fun e=>?_
   ·have exy:=(C0 pr.nd nn dx dy).mp e
    rw[if_pos exy] at e1
    exact⟨by show 2<=sizeLine;decide,fun p hp=>ho _ e1 _ _ (Ch.new hp) (.num ae (by unfold AA;omega))⟩
   ·have exy:¬x=y:=fun z=>e ((C0 pr.nd nn dx dy).mpr z)
    rw[if_neg exy] at e1
    exact⟨by show 2<=sizeLine;decide,fun p hp=>ho _ e1 _ _ (Ch.new hp) (.num ae (by unfold AA;omega))⟩
  obtain⟨a,rfl,ha⟩:=id va
  obtain⟨b,rfl,hb⟩:=id vb
  refine⟨_,rfl,_,_,rfl,rfl,_,rfl,?_⟩
  have half:(k=5\/k=6)->Fw P w A.bE [.ref q.o,.int (k:Int),.ref a] H Q E0:=fun hk56=>by
   refine⟨q,hv,_,m,k,rfl,pr,⟨a,rfl,ha⟩,?_⟩
   cases dx with
   | num _ =>
    refine .inl ⟨by show(0:Int)≠2;decide,he Ha09.BAD ?_⟩
    rcases hk56 with rfl|rfl<;>rfl
   | name _ =>
    refine .inl ⟨by show(1:Int)≠2;decide,he Ha09.BAD ?_⟩
    rcases hk56 with rfl|rfl<;>rfl
   | @two i a1 b1 x1 y1 hi d1 d2' =>
    refine .inr ⟨i,a1,b1,rfl,hi,fun r hr'=>?_⟩
    rcases hk56 with rfl|rfl
    ·exact ho x1 rfl H r (Ch.refl _ _) ⟨a1,hr',d1⟩
    ·exact ho y1 rfl H r (Ch.refl _ _) ⟨b1,hr',d2'⟩
  refine d2 (fun e=>?_) fun e=>?_
  ·refine oY ?_
   exact⟨_,rfl,_,rfl,_,rfl,half (.inl (by omega))⟩
  ·refine⟨_,rfl,_,_,rfl,rfl,_,rfl,?_⟩
   refine d2 (fun e=>?_) fun e=>?_
   ·exact⟨_,rfl,_,rfl,_,rfl,half (.inr (by omega))⟩
   ·have hk3:k<=3:=by omega
    refine⟨_,rfl,a,_,_,_,rfl,rfl,dM.of ha,eR,_,_,rfl,rfl,_,rfl,?_⟩
    refine n2 (fun e=>?_) fun e=>?_
    ·exact oY (he _ (A6 hk3 dx dy (.inl e)))
    refine⟨_,rfl,b,_,_,_,rfl,rfl,dM.of hb,eR,_,_,rfl,rfl,_,rfl,?_⟩
    refine n2 (fun e=>?_) fun e=>?_
    ·exact he _ (A6 hk3 dx dy (.inr e))
    cases dx with
    | name _=>exact absurd e (by show ¬(1:Int)=0;decide)
    | two _ _ _=>exact absurd e (by show ¬(2:Int)=0;decide)
    | @num z1 r1 =>
     cases dy with
     | name _=>exact absurd ‹(MV.name _).tag=0› (by show ¬(1:Int)=0;decide)
     | two _ _ _=>exact absurd ‹(MV.two _).tag=0› (by show ¬(2:Int)=0;decide)
     | @num z2 r2 =>
      refine⟨_,rfl,_,rfl,a,_,_,_,rfl,rfl,dM.of ha,tO,_,rfl,b,_,_,_,rfl,rfl,dM.of hb,tO,_,_,_,rfl,r1,?_⟩
      exact⟨by show 2<=sizeLine;decide,fun p hp=>ho _ (HD hk3 z1 z2) _ _ (Ch.new hp) (.num ae Ga)⟩
inductive BZ (vs:List V) (H:Hp) (Q:VK):Prop|mk (hv:Tab) (bz:qX) (vv v:V) (i:Nat) (e:List Ha09.Val) (x:Ha09.Val):vs=[vv,.int (i:Int),v]->hv.Nodup->bz.Nodup->Fd H hv bz vv e->VR H hv bz v x->Q (.bl (match e[i]? with|some y=>decide (x=y)|none=>false)) H->BZ vs H Q
def Hf:Sp:=fun vs H Q _=>BZ vs H Q
theorem xE (T:Tx w K mg A D):aS P w K mg base eV 1 A.gz D.gJ ["variables","place","value"] Hf:=by
 refine T.pB.ok xh (fun vs H Q E h=>?_) (fun cdv A' outer s H vs Q E hr h=>?_)
 ·obtain⟨hv,bz,vv,v,i,e,x,rfl,_⟩:=h;rfl
 ·obtain⟨hv,bz,vv,v,i,e,x,rfl,n1,n2,⟨a,us,rfl,ha,rel⟩,⟨m,va,dm⟩,k⟩:=h
  refine⟨_,(ak (aF (FX (qz (xy (pv 1) (a9 aM rfl T.gc PySem.boot_len (aa (pv 0) ag)))) (Cy (HB (FY hr.units) (aK aH (pv 0) (pv 1) (fun _ _=>rfl)) (pv 2) (vh _)))))),?_⟩
  have hl:us.length=e.length:=rel.length
  refine⟨_,rfl,_,rfl,a,us,rfl,.inr (dM.of ha),_,_,rfl,rfl,_,rfl,?_⟩
  refine d2 (fun h=>?_) fun h=>?_
  ·have hi:i<e.length:=by omega
   obtain⟨u,hu,m2,va2,dm2⟩:=ug rel (List.getElem?_eq_getElem hi)
   rw[List.getElem?_eq_getElem hi] at k
   refine⟨_,rfl,_,rfl,a,us,_,_,rfl,rfl,dM.of ha,at_of rfl hu,_,rfl,eqV va2 va ?_⟩
   have e1:decide (m2=m)=decide (x=e[i]):=by
    apply decide_eq_decide.mpr
    rw[C0 n1 n2 dm2 dm]
    exact eq_comm
   rw[e1]
   exact k
  ·rw[List.getElem?_eq_none_iff.mpr (show e.length<=i by omega)] at k
   exact k
def i6:List (Ha09.Pat×Ha09.Val)->List Ha09.Val->Option (List Ha09.Val)
 | [],e=>some e
 | (p,x)::r,e=>(Ha09.matches_ p x e).bind (i6 r)
theorem Ai (p:Ha09.Pat) (x:Ha09.Val) (e:List Ha09.Val):i6 [(p,x)] e=Ha09.matches_ p x e:=by
 unfold i6
 cases Ha09.matches_ p x e<;>rfl
def oU:List (Ha09.Pat×Ha09.Val)->Nat
 | []=>0
 | (p,_)::r=>vG p+oU r
theorem Dr (p:Ha09.Pat):0<vG p:=by cases p<;>simp[vG]
theorem AV:∀st:List (Ha09.Pat×Ha09.Val),st.length<=oU st
 | []=>Nat.le_refl _
 | (p,x)::r=>by
  have:=AV r
  have:=Dr p
  simp[oU];omega
theorem mP:∀(p:Ha09.Pat) (x:Ha09.Val) (e f:List Ha09.Val),Ha09.matches_ p x e=some f->f.length<=e.length+vG p
 | .any,x,e,f,h=>by simp[Ha09.matches_] at h;subst h;omega
 | .keep,x,e,f,h=>by simp[Ha09.matches_] at h;subst h;simp[vG]
 | .num z,x,e,f,h=>by
  unfold Ha09.matches_ at h
  split at h
  ·cases h;omega
  ·cases h
 | .same i,x,e,f,h=>by
  unfold Ha09.matches_ at h
  split at h
  ·split at h
   ·cases h;omega
   ·cases h
  ·cases h
 | .pair p q,.pair a b,e,f,h=>by
  unfold Ha09.matches_ at h
  cases h1:Ha09.matches_ p a e with
  | none=>rw[h1] at h;cases h
  | some g =>
   rw[h1] at h
   have r1:=mP p a e g h1
   have r2:=mP q b g f h
   simp[vG];omega
 | .pair p q,.num z,e,f,h=>by simp[Ha09.matches_] at h
 | .pair p q,.pid z,e,f,h=>by simp[Ha09.matches_] at h
inductive ItR (K:PySem.W.Frag) (H:Hp) (hv:Tab) (bz:qX) (v:V) (t:Ha09.Pat×Ha09.Val):Prop|mk (a:_) (p:_) (x:_):v=.ref a->H a=some (.tup [p,x])->TR K H p (oh t.1)->VR H hv bz x t.2->ItR K H hv bz v t
theorem ItR.mono {H H':Hp} {hv:Tab} {bz:qX} {v:V} {t:Ha09.Pat×Ha09.Val} {ex:List Addr} (c:Ch ex H H') (h:ItR K H hv bz v t):ItR K H' hv bz v t :=
 let ⟨a,p,x,e,q,q1,q2⟩:=h;⟨a,p,x,e,c.tu _ _ q,q1.mono c,q2.mono c (List.prefix_refl _) (List.prefix_refl _)⟩
inductive D7 (P:Program) (w:World) (K:PySem.W.Frag) (C:Addr) (vs:List V) (H:Hp) (Q:VK):Prop|mk (q:QL) (hv:Tab) (bz:qX) (pt v vv:V) (p:Ha09.Pat) (x:Ha09.Val) (e:List Ha09.Val):vs=[.ref q.o,pt,v,vv]->nJ P w C H q hv->bz.Nodup->vG p<=31->e.length<=1000->TR K H pt (oh p)->VR H hv bz v x->Fd H hv bz vv e->(∀f,Ha09.matches_ p x e=some f->∀H' u,Ch [] H H'->Fd H' hv bz u f->Q u H')->(Ha09.matches_ p x e=none->∀H',Ch [] H H'->Q .bo H')->D7 P w K C vs H Q
def Jm (P:Program) (w:World) (K:PySem.W.Frag) (C:Addr):Sp:=fun vs H Q _=>D7 P w K C vs H Q
inductive TupI (K:PySem.W.Frag) (H:Hp) (v:V) (ts:List T):Prop|mk (a:Addr) (vs:List V):v=.ref a->TupAt K H a vs->vm K H vs ts->TupI K H v ts
theorem TR.tup {H:Hp} {v:V} {ts:List T} (h:TR K H v (.node ts)):TupI K H v ts:=by
 cases h with
 | node h r=>exact⟨_,_,rfl,h,r⟩
theorem TR.int {H:Hp} {v:V} {i:Int} (h:TR K H v (.leaf i)):v=.int i:=by cases h;rfl
inductive InvI (K:PySem.W.Frag) (H:Hp) (vs:List V) (t:T) (ts:List T):Prop|mk (v:V) (r:List V):vs=v::r->TR K H v t->vm K H r ts->InvI K H vs t ts
theorem vm.inv {H:Hp} {vs:List V} {t:T} {ts:List T} (h:vm K H vs (t::ts)):InvI K H vs t ts:=by
 cases h with
 | cons a b=>exact⟨_,_,rfl,a,b⟩
theorem vm.nil_inv {H:Hp} {vs:List V} (h:vm K H vs []):vs=[]:=by cases h;rfl
theorem ui (T:Tx w K mg A D):aS P w K mg base eV 2 A.jm D.jx ["pairs","pattern","value","variables"] (Jm P w K A.bE):=by
 refine T.px.ok gn (fun vs H Q E h=>?_) (fun cdv A' outer s H vs Q E hr h=>?_)
 ·obtain⟨q,hv,bz,pt,v,vv,p,x,e,rfl,_⟩:=h;rfl
 ·obtain⟨q,hv,bz,pt,v,vv,p,x,e,rfl,pr,nn,hps,hel,hpt,hvx,hve,kS,kN⟩:=h
  refine⟨_,(ah (aX (i:=4) gn.nd rfl (Or.inl rfl) (bf (aa (bR (aa (pv 1) (aa (pv 2) ag))) ag)))
   (ah (qu PassesOwn.never (aO (nV (a9 aM rfl T.gc PySem.boot_len (aa (pv 4) ag)) aq)) (ah (aX (i:=5) gn.nd rfl (Or.inl rfl) (z7 PySem.F.plainAttrs_list PySem.F.slot_list_pop PySem.F.type_list_pop Ah (pv 4)))
   (ah (aX (i:=6) gn.nd rfl (Or.inl rfl) (aK aH (pv 5) aq (fun _ _=>rfl)))
   (ah (aX (i:=7) gn.nd rfl (Or.inl rfl) (aK aH (pv 5) aq (fun _ _=>rfl)))
   (ak (aW (aO (bc (aK aH (pv 6) aq (fun _ _=>rfl)) aq)) (ak (aX (i:=3) gn.nd rfl (Or.inl rfl) (eT wN (bR (aa (pv 7) ag)) (pv 3)))) (ak (aW (PW.pt (xt (aO (bc (aK aH (pv 6) aq (fun _ _=>rfl)) aq)) (ud (ue (JC hr.units) (pv 7) (bR (aa (a8 T.i9) (aa (aK aH (pv 6) aq (fun _ _=>rfl)) ag))) (vh _))))) (ak (aF lM)) (ak (aW (PW.pt (xt (aO (bc (aK aH (pv 6) aq (fun _ _=>rfl)) aq)) (ud (nq (fW (aV (xE T) (hr.mono (by decide)) rfl T.uC T.pB.kp T.uH .nil aJ (aa (pv 3) (aa (aK aH (pv 6) aq (fun _ _=>rfl)) (aa (pv 7) ag))))))))) (ak (aF lM)) (ak (aW (aO (bc (aK aH (pv 6) aq (fun _ _=>rfl)) aq)) (ah (aW (aO (z8 (aK aH (pv 7) aq (fun _ _=>rfl)) (a8 T.HM))) (ak (aF lM)) aT)
   (ah (aI (dO PySem.F.plainAttrs_list PySem.F.slot_list_append PySem.F.type_list_append bJ (pv 4) (aa (bR (aa (aK aH (pv 6) aq (fun _ _=>rfl)) (aa (aG (pv 0) T.kPairs T.jW (ki T) (hr.mono (by decide)) T.jZ .nil aJ (aa (pv 7) ag)) ag))) ag)))
   (ak (aI (dO PySem.F.plainAttrs_list PySem.F.slot_list_append PySem.F.type_list_append bJ (pv 4) (aa (bR (aa (aK aH (pv 6) aq (fun _ _=>rfl)) (aa (aG (pv 0) T.kPairs T.kZ (lR T) (hr.mono (by decide)) T.k8 .nil aJ (aa (pv 7) ag)) ag))) ag)))))) aT))))))))))))
   (ak (aF (pv 3))))),?_⟩
  refine⟨_,rfl,_,rfl,(by show 2<=sizeLine;decide),fun p0 hp0=>⟨by show 1<=sizeLine;decide,fun l hl=>?_⟩⟩
  have c0:Ch [] H (upd H p0 (.tup [pt,v])):=Ch.new hp0
  have c1:Ch [] (upd H p0 (.tup [pt,v])) (upd (upd H p0 (.tup [pt,v])) l (.lst [.ref p0])):=Ch.new hl
  have hlH:H l=none:=c0.free hl (by simp)
  have g1:(upd (upd H p0 (.tup [pt,v])) l (.lst [.ref p0])) l=some (.lst [.ref p0]):=ae
  have c01:=c0.trans c1
  have gp:(upd (upd H p0 (.tup [pt,v])) l (.lst [.ref p0])) p0=some (.tup [pt,v]):=c1.tu _ _ ae
  generalize upd (upd H p0 _) l _=H1 at c1 g1 c01 gp ⊢
  refine⟨fun m σ H2=>∃st ec vc o5 o6 o7 ws,m=oU st/\σ=[some (.ref q.o),some pt,some v,some vc,some (.ref l),o5,o6,o7]/\H2 l=some (.lst ws.reverse)/\Paired (ItR K H2 hv bz) ws st/\Fd H2 hv bz vc ec/\ec.length+oU st<=1100/\i6 st ec=Ha09.matches_ p x e/\Ch [] H H2,
   ⟨_,[(p,x)],e,vv,none,none,none,[.ref p0],rfl,rfl,g1,.cons ⟨p0,pt,v,rfl,gp,hpt.mono c01,hvx.mono c01 (List.prefix_refl _) (List.prefix_refl _)⟩ .nil,hve.mono c01 (List.prefix_refl _) (List.prefix_refl _),by simp[oU];omega,Ai p x e,c01⟩,?_⟩
  rintro m σ H2 ⟨st,ec,vc,o5,o6,o7,ws,rfl,rfl,hL,rel,hvc,hsz,hma,ch⟩
  refine⟨_,rfl,l,_,rfl,.inl (bM.of hL),_,_,rfl,rfl,_,rfl,?_⟩
  cases rel with
  | nil =>
   refine dF (by simp) ?_
   exact⟨_,rfl,kS ec (by rw[<-hma];rfl) H2 vc ch hvc⟩
  | @cons w1 t1 ws1 st1 h1 rest =>
   refine dT (by simp) ⟨_,fun _ _ h=>h,?_⟩
   obtain⟨p1,x1⟩:=t1
   obtain⟨a1,pv1,xv1,rfl,hob,htr,hvr⟩:=h1
   have hlast:((V.ref a1::ws1).reverse)[((V.ref a1::ws1).reverse).length-1]?=some (V.ref a1):=by simp
   refine⟨_,rfl,.inl ⟨rfl,_,bM.of hL⟩,l,_,_,rfl,rfl,hL,hlast,?_⟩
   have hdl:((V.ref a1::ws1).reverse).dropLast=ws1.reverse:=by simp
   rw[hdl]
   have c2:Ch [l] H2 (upd H2 l (.lst ws1.reverse)):=Ch.put hL trivial (by simp)
   have g2:(upd H2 l (.lst ws1.reverse)) l=some (.lst ws1.reverse):=ae
   generalize upd H2 l _=H3 at c2 g2 ⊢
   have ch3:Ch [] H H3:=ch.trans' c2 (by simp[hlH])
   have hob3:=c2.tu _ _ hob
   have htr3:=htr.mono c2
   have hvr3:VR H3 hv bz xv1 x1:=hvr.mono c2 (List.prefix_refl _) (List.prefix_refl _)
   have hvc3:Fd H3 hv bz vc ec:=hvc.mono c2 (List.prefix_refl _) (List.prefix_refl _)
   have rel3:Paired (ItR K H3 hv bz) ws1 st1:=Paired.bL rest fun _ _ z=>z.mono c2
   have pr3:nJ P w A.bE H3 q hv:=pr.mono ch3 (by simp)
   refine⟨_,rfl,a1,_,_,_,rfl,rfl,dM.of hob3,eR,_,rfl,a1,_,_,_,rfl,rfl,dM.of hob3,tO,?_⟩
   simp only[oU] at hsz
   unfold i6 at hma
   obtain⟨mx,va,dx⟩:=id hvr3
   cases p1 with
   | any =>
    obtain⟨ap,us,rfl,tp,rs⟩:=htr3.tup
    obtain⟨u0,r0,rfl,t0,rs0⟩:=rs.inv
    obtain rfl:=t0.int
    obtain rfl:=rs0.nil_inv
    refine⟨_,rfl,ap,_,_,_,rfl,rfl,tp.sq,eR,_,_,rfl,rfl,_,rfl,dF (by decide) ?_⟩
    refine⟨_,rfl,ap,_,_,_,rfl,rfl,tp.sq,eR,_,_,rfl,rfl,_,rfl,dF (by decide) ?_⟩
    refine mw ⟨_,rfl,ap,_,_,_,rfl,rfl,tp.sq,eR,_,_,rfl,rfl,_,rfl,dF (by decide) ?_⟩
    refine mw ⟨_,rfl,ap,_,_,_,rfl,rfl,tp.sq,eR,_,_,rfl,rfl,_,rfl,dF (by decide) ?_⟩
    refine⟨oU st1,?_,st1,ec,vc,_,_,_,ws1,rfl,rfl,g2,rel3,hvc3,by omega,hma,ch3⟩
    have:=Dr Ha09.Pat.any
    simp only[oU];omega
   | keep =>
    obtain⟨ap,us,rfl,tp,rs⟩:=htr3.tup
    obtain⟨u0,r0,rfl,t0,rs0⟩:=rs.inv
    obtain rfl:=t0.int
    obtain rfl:=rs0.nil_inv
    refine⟨_,rfl,ap,_,_,_,rfl,rfl,tp.sq,eR,_,_,rfl,rfl,_,rfl,dT rfl ?_⟩
    obtain⟨av,vl,rfl,hav,rvl⟩:=id hvc3
    have hll:vl.length=ec.length:=rvl.length
    refine⟨_,rfl,by show 1<=sizeLine;decide,fun p5 hp5=>?_⟩
    have c5:Ch [] H3 (upd H3 p5 (.tup [xv1])):=Ch.new hp5
    have g5:(upd H3 p5 (.tup [xv1])) p5=some (.tup [xv1]):=ae
    have l5:(upd H3 p5 (.tup [xv1])) l=some (.lst ws1.reverse):=c5.fr _ _ g2 (by simp)
    generalize upd H3 p5 _=H5 at c5 g5 l5 ⊢
    refine⟨_,rfl,p5,av,[xv1],vl,rfl,rfl,dM.of g5,dM.of (c5.tu _ _ hav),by simp,by simp only[List.length_singleton];rw[sizeLine_eq];omega,fun hnil=>?_,fun hne p6 hp6=>?_⟩
    ·subst hnil
     have:ec=[]:=List.eq_nil_of_length_eq_zero (by rw[<-hll];rfl)
     subst this
     refine⟨oU st1,?_,st1,[x1],.ref p5,_,_,_,ws1,rfl,rfl,l5,Paired.bL rel3 fun _ _ z=>z.mono c5,⟨p5,[xv1],rfl,g5,.cons (hvr3.mono c5 (List.prefix_refl _) (List.prefix_refl _)) .nil⟩,?_,hma,ch3.trans c5⟩
     ·simp only[oU,vG];omega
     ·simp only[List.length_nil,List.length_singleton,vG] at hsz ⊢;omega
    ·have c6:Ch [] H5 (upd H5 p6 (.tup ([xv1]++vl))):=Ch.new hp6
     have c56:=c5.trans c6
     refine⟨oU st1,?_,st1,x1::ec,.ref p6,_,_,_,ws1,rfl,rfl,c6.fr _ _ l5 (by simp),Paired.bL rel3 fun _ _ z=>z.mono c56,⟨p6,xv1::vl,rfl,ae,.cons (hvr3.mono c56 (List.prefix_refl _) (List.prefix_refl _)) (Paired.bL rvl fun _ _ z=>z.mono c56 (List.prefix_refl _) (List.prefix_refl _))⟩,?_,hma,ch3.trans c56⟩
     ·simp only[oU,vG];omega
     ·simp only[List.length_cons,vG] at hsz ⊢;omega
   | num z =>
    obtain⟨ap,us,rfl,tp,rs⟩:=htr3.tup
    obtain⟨u0,r0,rfl,t0,rs0⟩:=rs.inv
    obtain rfl:=t0.int
    obtain⟨u1,r1,rfl,t1,rs1⟩:=rs0.inv
    obtain rfl:=t1.int
    obtain rfl:=rs1.nil_inv
    refine⟨_,rfl,ap,_,_,_,rfl,rfl,tp.sq,eR,_,_,rfl,rfl,_,rfl,dF (by decide) ?_⟩
    refine⟨_,rfl,ap,_,_,_,rfl,rfl,tp.sq,eR,_,_,rfl,rfl,_,rfl,dT rfl ?_⟩
    refine⟨_,rfl,_,rfl,ap,_,_,_,rfl,rfl,tp.sq,tO,by show 2<=sizeLine;decide,fun p5 hp5=>?_⟩
    have c5:Ch [] H3 (upd H3 p5 (.tup [.int 0,.int z])):=Ch.new hp5
    have g5:(upd H3 p5 (.tup [.int 0,.int z])) p5=some (.tup [.int 0,.int z]):=ae
    have l5:(upd H3 p5 (.tup [.int 0,.int z])) l=some (.lst ws1.reverse):=c5.fr _ _ g2 (by simp)
    generalize upd H3 p5 _=H5 at c5 g5 l5 ⊢
    have ed:mx=.num z↔x1=.num z:=by
     constructor
     ·rintro rfl;cases dx;rfl
     ·rintro rfl;cases dx;rfl
    refine neV (n:=.num z) (va.mono c5) ⟨p5,rfl,g5⟩ ⟨_,rfl,?_⟩
    refine n2 (fun h=>?_) fun h=>?_
    ·have e1:Ha09.matches_ (.num z) x1 ec=none:=by
      unfold Ha09.matches_
      rw[if_neg fun q=>h (ed.mpr q)]
     rw[e1] at hma
     exact kN hma.symm H5 (ch3.trans c5)
    ·have e1:Ha09.matches_ (.num z) x1 ec=some ec:=by
      unfold Ha09.matches_
      rw[if_pos (ed.mp h)]
     rw[e1] at hma
     have tp5:=tp.mono c5
     refine⟨_,rfl,ap,_,_,_,rfl,rfl,tp5.sq,eR,_,_,rfl,rfl,_,rfl,dF (by decide) ?_⟩
     refine mw ⟨_,rfl,ap,_,_,_,rfl,rfl,tp5.sq,eR,_,_,rfl,rfl,_,rfl,dF (by decide) ?_⟩
     refine⟨oU st1,?_,st1,ec,vc,_,_,_,ws1,rfl,rfl,l5,Paired.bL rel3 fun _ _ z=>z.mono c5,hvc3.mono c5 (List.prefix_refl _) (List.prefix_refl _),by omega,hma,ch3.trans c5⟩
     simp only[oU,vG];omega
   | same i =>
    obtain⟨ap,us,rfl,tp,rs⟩:=htr3.tup
    obtain⟨u0,r0,rfl,t0,rs0⟩:=rs.inv
    obtain rfl:=t0.int
    obtain⟨u1,r1,rfl,t1,rs1⟩:=rs0.inv
    obtain rfl:=t1.int
    obtain rfl:=rs1.nil_inv
    refine⟨_,rfl,ap,_,_,_,rfl,rfl,tp.sq,eR,_,_,rfl,rfl,_,rfl,dF (by decide) ?_⟩
    refine⟨_,rfl,ap,_,_,_,rfl,rfl,tp.sq,eR,_,_,rfl,rfl,_,rfl,dF (by decide) ?_⟩
    refine mw ⟨_,rfl,ap,_,_,_,rfl,rfl,tp.sq,eR,_,_,rfl,rfl,_,rfl,dT rfl ?_⟩
    refine⟨_,rfl,_,rfl,ap,_,_,_,rfl,rfl,tp.sq,tO,_,rfl,hv,bz,vc,xv1,i,ec,x1,rfl,pr.nd,nn,hvc3,hvr3,_,rfl,?_⟩
    have e0:Ha09.matches_ (.same i) x1 ec=if (match ec[i]? with|some y=>decide (x1=y)|none=>false)=true then some ec else none:=by
     unfold Ha09.matches_
     cases ec[i]? with
     | none=>rfl
     | some y =>
      by_cases h:x1=y
      ·simp[h]
      ·simp[h]
    rw[e0] at hma
    generalize (match ec[i]? with|some y=>decide (x1=y)|none=>false)=b at hma ⊢
    cases b with
    | false=>exact oY (kN hma.symm H3 ch3)
    | true =>
     refine mw ⟨_,rfl,ap,_,_,_,rfl,rfl,tp.sq,eR,_,_,rfl,rfl,_,rfl,dF (by decide) ?_⟩
     refine⟨oU st1,?_,st1,ec,vc,_,_,_,ws1,rfl,rfl,g2,rel3,hvc3,by omega,hma,ch3⟩
     simp only[oU,vG];omega
   | pair p2 q2 =>
    obtain⟨ap,us,rfl,tp,rs⟩:=htr3.tup
    obtain⟨u0,r0,rfl,t0,rs0⟩:=rs.inv
    obtain rfl:=t0.int
    obtain⟨u1,r1,rfl,t1,rs1⟩:=rs0.inv
    obtain⟨u2,r2,rfl,t2,rs2⟩:=rs1.inv
    obtain rfl:=rs2.nil_inv
    refine⟨_,rfl,ap,_,_,_,rfl,rfl,tp.sq,eR,_,_,rfl,rfl,_,rfl,dF (by decide) ?_⟩
    refine⟨_,rfl,ap,_,_,_,rfl,rfl,tp.sq,eR,_,_,rfl,rfl,_,rfl,dF (by decide) ?_⟩
    refine mw ⟨_,rfl,ap,_,_,_,rfl,rfl,tp.sq,eR,_,_,rfl,rfl,_,rfl,dF (by decide) ?_⟩
    refine mw ⟨_,rfl,ap,_,_,_,rfl,rfl,tp.sq,eR,_,_,rfl,rfl,_,rfl,dT rfl ?_⟩
    obtain⟨ax,rfl,hax⟩:=id va
    refine⟨_,rfl,ax,_,_,_,rfl,rfl,dM.of hax,eR,_,_,rfl,rfl,_,rfl,?_⟩
    cases dx with
    | num _=>exact nT (by show ¬(0:Int)=2;decide) (kN (by rw[<-hma];rfl) H3 ch3)
    | name _=>exact nT (by show ¬(1:Int)=2;decide) (kN (by rw[<-hma];rfl) H3 ch3)
    | @two j ma mb xa xb hj da db =>
     refine nF rfl ?_
     have e0:(Ha09.matches_ (.pair p2 q2) (.pair xa xb) ec).bind (i6 st1)=i6 ((p2,xa)::(q2,xb)::st1) ec:=by
      show((Ha09.matches_ p2 xa ec).bind fun f=>Ha09.matches_ q2 xb f).bind (i6 st1)=(Ha09.matches_ p2 xa ec).bind (i6 ((q2,xb)::st1))
      cases Ha09.matches_ p2 xa ec<;>rfl
     rw[e0] at hma
     have hlen:=AV st1
     have hwl:ws1.length=st1.length:=rel3.length
     refine⟨_,rfl,.inl ⟨rfl,_,bM.of g2⟩,_,rfl,ap,_,_,_,rfl,rfl,tp.sq,at2,_,rfl,q.o,q.dx,_,rfl,pr3.ob,zn (by decide +kernel),_,rfl,q,hv,_,j,ma,mb,rfl,pr3,⟨ax,rfl,hax⟩,hj,fun rb hrb=>?_⟩
     refine⟨by show 2<=sizeLine;decide,fun p5 hp5=>⟨l,_,_,rfl,rfl,by rw[aE (ay g2 hp5)];exact g2,by rw[List.length_reverse,hwl,sizeLine_eq];omega,?_⟩⟩
     have c5:Ch [] H3 (upd H3 p5 (.tup [u2,rb])):=Ch.new hp5
     have g5:(upd H3 p5 (.tup [u2,rb])) p5=some (.tup [u2,rb]):=ae
     have l5:(upd H3 p5 (.tup [u2,rb])) l=some (.lst ws1.reverse):=c5.fr _ _ g2 (by simp)
     generalize upd H3 p5 _=H5 at c5 g5 l5 ⊢
     have c6:Ch [l] H5 (upd H5 l (.lst (ws1.reverse++[.ref p5]))):=Ch.put l5 trivial (by simp)
     have g6:(upd H5 l (.lst (ws1.reverse++[.ref p5]))) l=some (.lst (V.ref p5::ws1).reverse):=by rw[ae];simp
     generalize upd H5 l _=H6 at c6 g6 ⊢
     have c56:Ch [l] H3 H6:=(c5.mono (by simp)).trans c6
     have ch6:Ch [] H H6:=ch3.trans' c56 (by simp[hlH])
     have pr6:nJ P w A.bE H6 q hv:=pr.mono ch6 (by simp)
     refine⟨_,rfl,.inl ⟨rfl,_,bM.of g6⟩,_,rfl,ap,_,_,_,rfl,rfl,(tp.mono c56).sq,tO,_,rfl,q.o,q.dx,_,rfl,pr6.ob,zn (by decide +kernel),_,rfl,q,hv,_,j,ma,mb,rfl,pr6,⟨ax,rfl,c56.tu _ _ hax⟩,hj,fun ra hra=>?_⟩
     refine⟨by show 2<=sizeLine;decide,fun p7 hp7=>⟨l,_,_,rfl,rfl,by rw[aE (ay g6 hp7)];exact g6,by simp only[List.length_reverse,List.length_cons];rw[hwl,sizeLine_eq];omega,?_⟩⟩
     have c7:Ch [] H6 (upd H6 p7 (.tup [u1,ra])):=Ch.new hp7
     have g7:(upd H6 p7 (.tup [u1,ra])) p7=some (.tup [u1,ra]):=ae
     have l7:(upd H6 p7 (.tup [u1,ra])) l=some (.lst (V.ref p5::ws1).reverse):=c7.fr _ _ g6 (by simp)
     generalize upd H6 p7 _=H7 at c7 g7 l7 ⊢
     have c8:Ch [l] H7 (upd H7 l (.lst ((V.ref p5::ws1).reverse++[.ref p7]))):=Ch.put l7 trivial (by simp)
     have g8:(upd H7 l (.lst ((V.ref p5::ws1).reverse++[.ref p7]))) l=some (.lst (V.ref p7::V.ref p5::ws1).reverse):=by rw[ae];simp
     generalize upd H7 l _=H8 at c8 g8 ⊢
     have c78:Ch [l] H6 H8:=(c7.mono (by simp)).trans c8
     have c38:Ch [l] H3 H8:=c56.trans c78
     have ch8:Ch [] H H8:=ch3.trans' c38 (by simp[hlH])
     refine⟨_,?_,(p2,xa)::(q2,xb)::st1,ec,vc,_,_,_,V.ref p7::V.ref p5::ws1,rfl,rfl,g8,.cons ⟨p7,u1,ra,rfl,c8.tu _ _ g7,t1.mono c38,⟨ma,hra.mono c78,da⟩⟩ (.cons ⟨p5,u2,rb,rfl,(c6.mono (fun _ h=>h)).tu _ _ g5 |> c78.tu _ _,t2.mono c38,⟨mb,hrb.mono c38,db⟩⟩ (Paired.bL rel3 fun _ _ z=>z.mono c38)),hvc3.mono c38 (List.prefix_refl _) (List.prefix_refl _),?_,hma,ch8⟩
     ·simp only[oU,vG];omega
     ·simp only[oU,vG] at hsz ⊢;omega
end Bt
set_option maxHeartbeats 1000000
namespace Bp
open Ha09
def iK (p:Proc):Nat:=p.frames.length+p.box.length+3*p.watchers.length+p.said.length
def zP (l:Letter):Nat:=match l.what with|none=>3|some _=>1
def rP (a:List Letter):Nat:=(a.map zP).sum
def oA (ps:List Proc):Nat:=(ps.map iK).sum
def wt (s:St):Nat:=rP s.air+oA s.procs
theorem wJ (a b:List Letter):rP (a++b)=rP a+rP b:=by unfold rP;simp
theorem Fh (a b:List Proc):oA (a++b)=oA a+oA b:=by unfold oA;simp
theorem w8:∀{ps:List Proc} {i:Nat} {p:Proc} (p':Proc),ps[i]?=some p->oA (ps.set i p')+iK p=oA ps+iK p'
 | [],i,p,p',h=>by simp at h
 | a::r,0,p,p',h=>by
  simp at h;subst h
  simp[oA];omega
 | a::r,i+1,p,p',h=>by
  have ih:=w8 (ps:=r) (i:=i) p' (by simpa using h)
  simp only[oA,List.set_cons_succ,List.map_cons,List.sum_cons] at ih ⊢
  omega
theorem IW {ps:List Proc} {i:Nat} {p:Proc} (h:ps[i]?=some p):iK p<=oA ps:=by
 have:=w8 ⟨p.name,p.ctrl,[],[],0,[],[]⟩ h
 simp[iK] at this ⊢
 omega
theorem Di (a:List Letter):a.length<=rP a:=by
 induction a with
 | nil=>simp[rP]
 | cons l r ih =>
  simp only[rP,List.map_cons,List.sum_cons,List.length_cons] at ih ⊢
  have:1<=zP l:=by unfold zP;split<;>omega
  omega
def bw (s:St) (i:Nat) (p:Proc):St:={s with procs:=s.procs.set i p}
def aP (s:St) (i:Nat) (o:Out):St:={s with procs:=s.procs.set i o.proc++o.child.toList,air:=s.air++o.letters}
def bz (s:St):List (List Nat):=s.procs.map (·.name)
structure Good (s:St):Prop where
 nd:(bz s).Nodup
 ch:∀q∈s.procs,∀(r:List Nat) (i:Nat),q.name=r++[i]->∃p∈s.procs,p.name=r/\i<=p.born
 ln:∀q∈s.procs,q.name.length<s.procs.length
theorem wV:∀{ps:List Proc} {i:Nat} {p:Proc},(ps.map (·.name)).Nodup->ps[i]?=some p->ps.find? (fun q=>q.name==p.name)=some p
 | [],i,p,_,h=>by simp at h
 | a::r,0,p,nd,h=>by
  simp at h;subst h
  simp
 | a::r,i+1,p,nd,h=>by
  have h':r[i]?=some p:=by simpa using h
  have nd':=List.nodup_cons.mp nd
  have ne:(a.name==p.name)=false:=beq_eq_false_iff_ne.mpr fun e=>nd'.1 (by show a.name∈_;rw[e];exact List.mem_map.mpr ⟨p,List.mem_of_getElem? h',rfl⟩)
  simp only[List.find?_cons,ne]
  exact wV nd'.2 h'
theorem u9 {s:St} {i:Nat} {p:Proc} (nd:(bz s).Nodup) (h:s.procs[i]?=some p):procOf s p.name=some p:=wV nd h
theorem F5:∀{ps:List Proc} {i:Nat} {p p':Proc},(ps.map (·.name)).Nodup->ps[i]?=some p->p'.name=p.name->(ps.map fun q=>if q.name=p'.name then p' else q)=ps.set i p'
 | [],i,p,p',_,h,_=>by simp at h
 | a::r,0,p,p',nd,h,e=>by
  simp at h;subst h
  have nd':=List.nodup_cons.mp nd
  rw[List.map_cons,if_pos e.symm]
  show p'::_=p'::r
  congr 1
  have:∀q∈r,(if q.name=p'.name then p' else q)=q:=fun q hq=>if_neg fun z=>nd'.1 (by show a.name∈_;rw[<-e,<-z];exact List.mem_map.mpr ⟨q,hq,rfl⟩)
  calc r.map _=r.map id:=List.map_congr_left this
   _=r:=List.map_id _
 | a::r,i+1,p,p',nd,h,e=>by
  have h':r[i]?=some p:=by simpa using h
  have nd':=List.nodup_cons.mp nd
  have ne:¬a.name=p'.name:=fun z=>nd'.1 (by show a.name∈_;rw[z,e];exact List.mem_map.mpr ⟨p,List.mem_of_getElem? h',rfl⟩)
  rw[List.map_cons,if_neg ne,F5 nd'.2 h' e]
  rfl
theorem sU {s:St} {i:Nat} {p p':Proc} (nd:(bz s).Nodup) (h:s.procs[i]?=some p) (e:p'.name=p.name):setProc s p'=bw s i p':=by
 unfold setProc bw
 rw[F5 nd h e]
theorem vV (n:Nat) (p:Proc) (a:Expr) (e:Env):(begins n p a e).name=p.name/\(begins n p a e).born=p.born:=by
 unfold begins
 cases a with
 | var i=>dsimp only;cases e[i]?<;>exact⟨rfl,rfl⟩
 | _=>exact⟨rfl,rfl⟩
def Child (p:Proc) (o:Out):Prop:=o.proc.name=p.name/\((o.child=none/\o.proc.born=p.born)\/∃c,o.child=some c/\c.name=p.name++[p.born+1]/\o.proc.born=p.born+1/\c.frames=[]/\c.box=[]/\c.watchers=[]/\c.said=[])
theorem yK (prog:List Expr) (p:Proc) (v:Val):Child p (returns prog p v):=by
 unfold returns
 cases hf:p.frames with
 | nil=>exact⟨rfl,.inl ⟨rfl,rfl⟩⟩
 | cons f r =>
  cases f with
  | opR k a=>dsimp only[quiet];cases operate k a v<;>exact⟨rfl,.inl ⟨rfl,rfl⟩⟩
  | case q b c e=>dsimp only[quiet];cases matches_ q v e<;>exact⟨rfl,.inl ⟨rfl,rfl⟩⟩
  | call g=>dsimp only[quiet];cases prog[g]?<;>exact⟨rfl,.inl ⟨rfl,rfl⟩⟩
  | sendWhat a=>dsimp only;cases a<;>exact⟨rfl,.inl ⟨rfl,rfl⟩⟩
  | spawn g =>
   dsimp only
   cases prog[g]? with
   | none=>exact⟨rfl,.inl ⟨rfl,rfl⟩⟩
   | some b=>exact⟨rfl,.inr ⟨_,rfl,rfl,rfl,rfl,rfl,rfl,rfl⟩⟩
  | watch=>dsimp only;cases v<;>exact⟨rfl,.inl ⟨rfl,rfl⟩⟩
  | _=>exact⟨rfl,.inl ⟨rfl,rfl⟩⟩
theorem AQ (p:Proc) (v:Val):Child p (rises p v):=by
 unfold rises
 split<;>exact⟨rfl,.inl ⟨rfl,rfl⟩⟩
theorem tY {prog:List Expr} {now:Nat} {p:Proc} {o:Out} (h:stepOf prog now p=some o):Child p o:=by
 unfold stepOf at h
 split at h
 ·cases h;exact⟨(vV _ _ _ _).1,.inl ⟨rfl,(vV _ _ _ _).2⟩⟩
 ·cases h;exact yK _ _ _
 ·cases h;exact AQ _ _
 ·obtain⟨x,_,rfl⟩:=Option.map_eq_some_iff.mp h
  exact⟨rfl,.inl ⟨rfl,rfl⟩⟩
 ·split at h
  ·cases h;exact⟨rfl,.inl ⟨rfl,rfl⟩⟩
  ·split at h
   ·cases h;exact⟨rfl,.inl ⟨rfl,rfl⟩⟩
   ·cases h
 ·cases h
 ·cases h
theorem wK {s:St} {i:Nat} {p p':Proc} (h:s.procs[i]?=some p) (e:p'.name=p.name):(s.procs.set i p').map (·.name)=s.procs.map (·.name):=by
 apply List.ext_getElem?
 intro j
 rw[List.getElem?_map,List.getElem?_map]
 by_cases z:i=j
 ·subst z
  rw[List.getElem?_set_self (List.getElem?_eq_some_iff.mp h).1,h]
  simp[e]
 ·rw[List.getElem?_set_ne z]
theorem Good.apply {s:St} {i:Nat} {p:Proc} {o:Out} (g:Good s) (h:s.procs[i]?=some p) (c:Child p o):Good (aP s i o):=by
 obtain⟨e,c⟩:=c
 have hlt:=(List.getElem?_eq_some_iff.mp h).1
 have mem_set:o.proc∈s.procs.set i o.proc:=List.mem_of_getElem? (List.getElem?_set_self hlt)
 have step:∀q∈s.procs,∃q'∈s.procs.set i o.proc,q'.name=q.name/\q.born<=q'.born:=fun q hq=>by
  obtain⟨j,hj⟩:=List.mem_iff_getElem?.mp hq
  by_cases z:i=j
  ·subst z
   rw[h] at hj;cases hj
   refine⟨o.proc,mem_set,e,?_⟩
   rcases c with⟨_,b⟩|⟨_,_,_,b,_⟩<;>omega
  ·exact⟨q,List.mem_of_getElem? (by rw[List.getElem?_set_ne z];exact hj),rfl,Nat.le_refl _⟩
 have back:∀q'∈s.procs.set i o.proc,∃q∈s.procs,q'.name=q.name:=fun q' hq=>by
  have:q'.name∈(s.procs.set i o.proc).map (·.name):=List.mem_map.mpr ⟨q',hq,rfl⟩
  rw[wK h e] at this
  obtain⟨q,h1,h2⟩:=List.mem_map.mp this
  exact⟨q,h1,h2.symm⟩
 rcases c with⟨c0,b⟩|⟨c1,c0,cn,b,_⟩
 ·have en:(aP s i o).procs=s.procs.set i o.proc:=by unfold aP;simp[c0]
  refine⟨?_,fun q hq r k hr=>?_,fun q hq=>?_⟩
  ·unfold bz;rw[en,wK h e];exact g.nd
  ·rw[en] at hq ⊢
   obtain⟨q0,h0,e0⟩:=back q hq
   obtain⟨p1,h1,h2,h3⟩:=g.ch q0 h0 r k (by rw[<-e0];exact hr)
   obtain⟨p2,h4,h5,h6⟩:=step p1 h1
   exact⟨p2,h4,h5.trans h2,by omega⟩
  ·rw[en] at hq ⊢
   obtain⟨q0,h0,e0⟩:=back q hq
   rw[e0,List.length_set]
   exact g.ln q0 h0
 ·have en:(aP s i o).procs=s.procs.set i o.proc++[c1]:=by unfold aP;simp[c0]
  have fresh:c1.name∉bz s:=fun m=>by
   obtain⟨q,hq,hn⟩:=List.mem_map.mp m
   obtain⟨p1,h1,h2,h3⟩:=g.ch q hq p.name (p.born+1) (by rw[hn];exact cn)
   have:p1=p:=by
    have f1:=wV g.nd h
    obtain⟨j,hj⟩:=List.mem_iff_getElem?.mp h1
    have f2:=wV g.nd hj
    rw[h2] at f2
    rw[f1] at f2
    exact(Option.some.inj f2).symm
   subst this
   omega
  refine⟨?_,fun q hq r k hr=>?_,fun q hq=>?_⟩
  ·unfold bz
   rw[en,List.map_append,wK h e]
   refine List.nodup_append.mpr ⟨g.nd,by simp,fun a ha b hb z=>?_⟩
   simp at hb
   exact fresh (by rw[<-hb,<-z];exact ha)
  ·rw[en] at hq ⊢
   rcases List.mem_append.mp hq with hq|hq
   ·obtain⟨q0,h0,e0⟩:=back q hq
    obtain⟨p1,h1,h2,h3⟩:=g.ch q0 h0 r k (by rw[<-e0];exact hr)
    obtain⟨p2,h4,h5,h6⟩:=step p1 h1
    exact⟨p2,List.mem_append.mpr (.inl h4),h5.trans h2,by omega⟩
   ·have:q=c1:=by simpa using hq
    subst this
    rw[cn] at hr
    obtain⟨a1,a2⟩:=List.append_inj' hr rfl
    refine⟨o.proc,List.mem_append.mpr (.inl mem_set),by rw[e,a1],?_⟩
    simp at a2
    omega
  ·rw[en] at hq ⊢
   rw[List.length_append,List.length_set,List.length_singleton]
   rcases List.mem_append.mp hq with hq|hq
   ·obtain⟨q0,h0,e0⟩:=back q hq
    have:=g.ln q0 h0
    rw[e0];omega
   ·have:q=c1:=by simpa using hq
    subst this
    have:=g.ln p (List.mem_of_getElem? h)
    rw[cn,List.length_append,List.length_singleton];omega
theorem Bk {s:St} {i:Nat} {p:Proc} (nd:(bz s).Nodup) (h:s.procs[i]?=some p):moves s p.name=(stepOf s.program s.time p).map (aP s i):=by
 unfold moves
 rw[u9 nd h]
 cases hs:stepOf s.program s.time p with
 | none=>simp[hs]
 | some o =>
  have c:=tY hs
  simp only[Option.bind_some,hs,Option.map_some]
  rw[sU nd h c.1]
  unfold aP bw
  cases o.child<;>simp
def bT:List (Pat×Expr)->Val->Env->Option (Expr×Env)
 | [],_,_=>none
 | (p,b)::r,x,e=>match matches_ p x e with
  | some f=>some (b,f)
  | none=>bT r x e
def dN (cs:List (Pat×Expr)) (e:Env):List Val->Option (Nat×Expr×Env)
 | []=>none
 | x::l=>match bT cs x e with
  | some (b,f)=>some (0,b,f)
  | none=>(dN cs e l).map fun y=>(y.1+1,y.2)
theorem Dv (p:Pat) (b:Expr) (q:Pat) (c:Expr) (e:Env):∀box:List Val,pick p b q c e box=(dN [(p,b),(q,c)] e box).map fun y=>(y.2.1,y.2.2,box.eraseIdx y.1)
 | []=>rfl
 | x::l=>by
  have ih:=Dv p b q c e l
  unfold pick dN bT
  cases h1:matches_ p x e with
  | some f=>rfl
  | none =>
   dsimp only
   unfold bT
   cases h2:matches_ q x e with
   | some f=>rfl
   | none =>
    dsimp only
    unfold bT
    rw[ih]
    cases dN [(p,b),(q,c)] e l<;>rfl
theorem AZ (p:Pat) (b:Expr) (e:Env):∀box:List Val,pick1 p b e box=(dN [(p,b)] e box).map fun y=>(y.2.1,y.2.2,box.eraseIdx y.1)
 | []=>rfl
 | x::l=>by
  have ih:=AZ p b e l
  unfold pick1 dN bT
  cases h1:matches_ p x e with
  | some f=>rfl
  | none =>
   dsimp only
   unfold bT
   rw[ih]
   cases dN [(p,b)] e l<;>rfl
theorem AY {cs:List (Pat×Expr)} {e:Env}:∀{box:List Val} {j:Nat} {x:Val} {b:Expr} {f:Env},(∀(k:Nat) y,k<j->box[k]?=some y->bT cs y e=none)->box[j]?=some x->bT cs x e=some (b,f)->dN cs e box=some (j,b,f)
 | [],j,x,b,f,_,h,_=>by simp at h
 | y::l,0,x,b,f,_,h,hf=>by
  simp at h;subst h
  unfold dN;rw[hf]
 | y::l,j+1,x,b,f,hk,h,hf=>by
  unfold dN
  rw[hk 0 y (by omega) rfl,AY (j:=j) (fun k z h1 h2=>hk (k+1) z (by omega) (by simpa using h2)) (by simpa using h) hf]
  rfl
theorem xw {cs:List (Pat×Expr)} {e:Env}:∀{box:List Val},(∀(k:Nat) y,box[k]?=some y->bT cs y e=none)->dN cs e box=none
 | [],_=>rfl
 | y::l,h=>by
  unfold dN
  rw[h 0 y rfl,xw fun k z hz=>h (k+1) z (by simpa using hz)]
  rfl
theorem AX {cs:List (Pat×Expr)} {e:Env}:∀{box:List Val} {j:Nat} {b:Expr} {f:Env},dN cs e box=some (j,b,f)->∃x,box[j]?=some x/\bT cs x e=some (b,f)
 | [],j,b,f,h=>by simp[dN] at h
 | y::l,j,b,f,h=>by
  unfold dN at h
  cases hf:bT cs y e with
  | some z =>
   rw[hf] at h
   obtain⟨b',f'⟩:=z
   simp at h
   obtain⟨rfl,rfl,rfl⟩:=h
   exact⟨y,rfl,hf⟩
  | none =>
   rw[hf] at h
   obtain⟨⟨j',b',f'⟩,h1,h2⟩:=Option.map_eq_some_iff.mp h
   simp at h2
   obtain⟨rfl,rfl,rfl⟩:=h2
   obtain⟨x,hx,hf'⟩:=AX h1
   exact⟨x,by simpa using hx,hf'⟩
theorem vd {cs:List (Pat×Expr)} {e:Env}:∀{box:List Val},dN cs e box=none->∀(k:Nat) y,box[k]?=some y->bT cs y e=none
 | [],_,k,y,h=>by simp at h
 | z::l,h,k,y,hk=>by
  unfold dN at h
  cases hf:bT cs z e with
  | some w=>rw[hf] at h;cases h
  | none =>
   rw[hf] at h
   have h':dN cs e l=none:=by
    cases hq:dN cs e l with
    | none=>rfl
    | some _=>rw[hq] at h;cases h
   match k with
   | 0=>simp at hk;subst hk;exact hf
   | k+1=>exact vd h' k y (by simpa using hk)
end Bp
set_option maxHeartbeats 2000000
namespace Bt
open PySem PySem.Spec PyProof.Rows L2
open Ha09 (Val Pat Ctrl Proc Letter)
open Bp (wt iK oA rP zP bw aP Good Child)
variable {P:Program} {w:World} {K:PySem.W.Frag} {mg:Str->Option Value} {base:Heap} {A:Ad} {D:Fg}
structure WS (P:Program) (w:World) (A:Ad) (K:PySem.W.Frag) (H:Hp) (hv:Tab) (W:WL) (q:QL) (s:Ha09.St):Prop where
 wa:rO A.aj A.aR K H hv W s
 pr:nJ P w A.bE H q hv
 po:W.pr=q.o
 dj:∀b∈q.addrs,b∉W.addrs
 gd:Good s
structure Ext (W W':WL) (H:Hp):Prop where
 w:W'.w=W.w
 dx:W'.dx=W.dx
 pr:W'.pr=W.pr
 fn:W'.fn=W.fn
 pl:W.pl.map (·.p)<+:W'.pl.map (·.p)
 fr:∀b∈W'.addrs,b∈W.addrs\/H b=none
theorem Ext.refl (W:WL) (H:Hp):Ext W W H:=⟨rfl,rfl,rfl,rfl,List.prefix_refl _,fun _ h=>.inl h⟩
def fp (W:WL) (q:QL):List Addr:=W.addrs++q.addrs
theorem Ext.trans {W W1 W2:WL} {H H1:Hp} {q:QL} (a:Ext W W1 H) (b:Ext W1 W2 H1) (c:Ch (fp W q) H H1) (hq:∀x∈q.addrs,x∉W2.addrs):Ext W W2 H :=
 ⟨b.w.trans a.w,b.dx.trans a.dx,b.pr.trans a.pr,b.fn.trans a.fn,a.pl.trans b.pl,fun x hx=>by
  rcases b.fr x hx with h|h
  ·exact a.fr x h
  ·by_cases m:x∈fp W q
   ·rcases List.mem_append.mp m with m|m
    ·exact .inl m
    ·exact absurd hx (hq x m)
   ·exact .inr (c.free h m)⟩
theorem j5 {W W1:WL} {q:QL} {H H1 H2:Hp} (c1:Ch (fp W q) H H1) (e:Ext W W1 H) (c2:Ch (fp W1 q) H1 H2):Ch (fp W q) H H2 :=
 c1.trans' c2 fun b hb=>by
  rcases List.mem_append.mp hb with h|h
  ·rcases e.fr b h with h|h
   ·exact .inl (List.mem_append.mpr (.inl h))
   ·exact .inr h
  ·exact .inl (List.mem_append.mpr (.inr h))
def jg (P:Program) (w:World) (A:Ad) (K:PySem.W.Frag) (H:Hp) (hv:Tab) (W:WL) (q:QL) (s s':Ha09.St) (n:Nat) (k:Hp->Prop):Prop :=
 ∀H' hv' W',WS P w A K H' hv' W' q s'->hv<+:hv'->hv'.length+wt s'<=hv.length+wt s+n->Ch (fp W q) H H'->Ext W W' H->k H'
theorem rO.FP {CP CW:Addr} {H:Hp} {hv:Tab} {W:WL} {s:Ha09.St} (h:rO CP CW K H hv W s) {i:Nat} {l:PL} (hi:W.pl[i]?=some l):l.addrs.Nodup:=by
 have nd:=h.nd
 unfold WL.addrs at nd
 have nd:=(List.nodup_cons.mp (List.nodup_cons.mp (List.nodup_cons.mp nd).2).2).2
 have go:∀{ls:List PL},(ls.flatMap PL.addrs).Nodup->l∈ls->l.addrs.Nodup:=by
  intro ls
  induction ls with
  | nil=>intro _ h;simp at h
  | cons a r ih =>
   intro nd hm
   rw[List.flatMap_cons] at nd
   obtain⟨n1,n2,_⟩:=List.nodup_append.mp nd
   rcases List.mem_cons.mp hm with rfl|hm
   ·exact n1
   ·exact ih n2 hm
 exact go nd (List.mem_of_getElem? hi)
theorem PL.DB {l:PL} (h:l.addrs.Nodup):(l.p≠l.td/\l.p≠l.bx/\l.p≠l.sd/\l.p≠l.wt)/\(l.td≠l.bx/\l.td≠l.sd/\l.td≠l.wt)/\(l.bx≠l.sd/\l.bx≠l.wt)/\l.sd≠l.wt:=by
 simp[PL.addrs] at h
 obtain⟨⟨a1,a2,a3,a4⟩,⟨b1,b2,b3⟩,⟨c1,c2⟩,d1⟩:=h
 exact⟨⟨a1,a2,a3,a4⟩,⟨b1,b2,b3⟩,⟨c1,c2⟩,d1⟩
theorem ji.Az {H:Hp} {hv:Tab} {bz:qX} {C:Addr} {num:Nat} {L:PL} {p:Proc} {r r':PV} {t:Ctrl} {b:Nat} (a:ji K H hv bz C num L p r) (nd:L.addrs.Nodup) (e1:r'.nm=r.nm) (e2:r'.ws=r.ws) (e3:r'.bv=r.bv) (e4:r'.sv=r.sv) (e5:r'.wv=r.wv)
  (ct:yB K H hv bz r' p.box t):ji K (upd H L.p (.ins C L.dx (PN.zip (r'.fs num b L)))) hv bz C num L {p with ctrl:=t,born:=b} r':=by
 obtain⟨⟨n1,n2,n3,n4⟩,_⟩:=PL.DB nd
 have c:Ch [L.p] H (upd H L.p (.ins C L.dx (PN.zip (r'.fs num b L)))):=Ch.put a.ob trivial (by simp)
 have pf:=List.prefix_refl hv
 have pn:=List.prefix_refl bz
 refine⟨ae,by rw[e1];exact yR.mono c a.nm,yB.mono c pf pn ct,?_,?_,?_,?_,?_,?_,?_,?_⟩
 ·rw[aE n1.symm,e2];exact a.td
 ·rw[e2];exact Paired.bL a.yC fun _ _ z=>B5.mono c pf pn z
 ·rw[aE n2.symm,e3];exact a.bx
 ·rw[e3];exact Paired.bL a.Dc fun _ _ z=>VR.mono c pf pn z
 ·rw[aE n3.symm,e4];exact a.sd
 ·rw[e4];exact Paired.bL a.EG fun _ _ z=>VR.mono c pf pn z
 ·rw[aE n4.symm,e5];exact a.wt
 ·rw[e5];exact a.Ek
theorem iM {s:Ha09.St} {i:Nat} {p p':Proc} (hp:s.procs[i]?=some p):wt (bw s i p')+iK p=wt s+iK p':=by
 have:=Bp.w8 p' hp
 unfold wt bw
 dsimp only
 omega
theorem Good.set {s:Ha09.St} {i:Nat} {p p':Proc} (g:Good s) (hp:s.procs[i]?=some p) (e:p'.name=p.name) (b:p'.born=p.born):Good (bw s i p'):=by
 have:=g.apply (o:=⟨p',[],none⟩) hp ⟨e,.inl ⟨rfl,b⟩⟩
 unfold aP at this
 simpa [bw] using this
theorem WS.bw {H H':Hp} {hv hv':Tab} {W:WL} {q:QL} {s:Ha09.St} {i:Nat} {l:PL} {p p':Proc} {r:PV} (h:WS P w A K H hv W q s) (hl:W.pl[i]?=some l) (hp:s.procs[i]?=some p) (hn:p'.name=p.name) (hb:p'.born=p.born) (h1:hv<+:hv')
  {ex:List Addr} (c:Ch ex H H') (hx:∀b∈ex,b∈l.addrs\/b∉W.addrs) (pr:nJ P w A.bE H' q hv') (a:ji K H' hv' (aB s) A.aj (i+1) l p' r):WS P w A K H' hv' W q (bw s i p') :=
 ⟨h.wa.bw hl hp hn h1 c hx a,pr,h.po,h.dj,Good.set h.gd hp hn hb⟩
structure yh (W:WL) (s:Ha09.St) (i:Nat) (l:PL) (p:Proc):Prop where
 l:W.pl[i]?=some l
 p:s.procs[i]?=some p
theorem qx {H:Hp} {hv:Tab} {W:WL} {q:QL} {s:Ha09.St} (h:WS P w A K H hv W q s) {i:Nat} {l:PL} (hl:W.pl[i]?=some l):∀b∈q.addrs,b∉l.addrs:=fun b hb z=>h.dj b hb (qw hl b z)
theorem WS.Az {H:Hp} {hv:Tab} {W:WL} {q:QL} {s:Ha09.St} {i:Nat} {l:PL} {p:Proc} {r r':PV} {t:Ctrl} (h:WS P w A K H hv W q s) (x:yh W s i l p) (a:ji K H hv (aB s) A.aj (i+1) l p r) (e1:r'.nm=r.nm) (e2:r'.ws=r.ws) (e3:r'.bv=r.bv)
  (e4:r'.sv=r.sv) (e5:r'.wv=r.wv) (ct:yB K H hv (aB s) r' p.box t):WS P w A K (upd H l.p (.ins A.aj l.dx (PN.zip (r'.fs (i+1) p.born l)))) hv W q (Bp.bw s i {p with ctrl:=t}):=by
 have c:Ch [l.p] H (upd H l.p (.ins A.aj l.dx (PN.zip (r'.fs (i+1) p.born l)))):=Ch.put a.ob trivial (by simp)
 exact h.bw x.l x.p rfl rfl (List.prefix_refl _) c (by simp[PL.addrs]) (h.pr.mono c (by
  intro b hb z
  exact qx h x.l b hb (by rw[List.mem_singleton.mp z];simp[PL.addrs]))) (a.Az (h.wa.FP x.l) e1 e2 e3 e4 e5 ct)
inductive yn (C:Addr) (vs:List V) (H:Hp) (Q:VK):Prop|mk (p dx:Addr) (vals:List V):vs=[.ref p]->PO C H p dx vals->(∀a,H a=none->Q .bo (upd (upd H a (.tup [.int 0,.int 101])) p (.ins C dx (PN.zip ((vals.set 2 (.int 2)).set 5 (.ref a))))))->yn C vs H Q
def EB (C:Addr):Sp:=fun vs H Q _=>yn C vs H Q
theorem hJ (T:Tx w K mg A D):aS P w K mg base eV 2 A.lq D.lC ["process"] (EB A.aj):=by
 refine T.iI.ok AI (fun vs H Q E h=>?_) (fun cdv A' outer s H vs Q E hr h=>?_)
 ·obtain⟨p,dx,vals,rfl,_⟩:=h;rfl
 ·obtain⟨p,dx,vals,rfl,⟨ho,hl⟩,k⟩:=h
  refine⟨_,(ak (aI (aG (pv 0) T.ao T.gX (j3 T) (hr.mono (by decide)) T.g0 .nil aJ (aa (bR (aa (a8 T.i9) (aa (a8 T.Gb) ag))) ag)))),?_⟩
  refine⟨_,rfl,p,dx,_,rfl,ho,zn (by decide +kernel),by show 2<=sizeLine;decide,fun a ha=>?_⟩
  exact⟨p,dx,vals,_,rfl,⟨by rw[aE (ay ho ha)];exact ho,hl⟩,k a ha⟩
inductive BJ (C:Addr) (vs:List V) (H:Hp) (Q:VK):Prop|mk (p dx va:Addr) (vals us:List V) (i:Nat):vs=[.ref p,.int (i:Int)]->PO C H p dx vals->vals[4]?=some (.ref va)->H va=some (.tup us)->(∀u,us[i]?=some u->Q .bo (upd H p (.ins C dx (PN.zip ((vals.set 2 (.int 1)).set 5 u)))))->(us[i]?=none->∀a,H a=none->Q .bo (upd (upd H a (.tup [.int 0,.int 101])) p (.ins C dx (PN.zip ((vals.set 2 (.int 2)).set 5 (.ref a))))))->BJ C vs H Q
def G2 (C:Addr):Sp:=fun vs H Q _=>BJ C vs H Q
theorem qA (T:Tx w K mg A D):aS P w K mg base eV 3 A.cK D.cS ["process","place"] (G2 A.aj):=by
 refine T.hG.ok qh (fun vs H Q E h=>?_) (fun cdv A' outer s H vs Q E hr h=>?_)
 ·obtain⟨p,dx,va,vals,us,i,rfl,_⟩:=h;rfl
 ·obtain⟨p,dx,va,vals,us,i,rfl,⟨ho,hl⟩,h4,hva,kS,kN⟩:=h
  refine⟨_,(ak (aW (aO (xy (pv 1) (a9 aM rfl T.gc PySem.boot_len (aa (az (pv 0) rfl) ag)))) (ak (aI (aG (pv 0) T.ao T.bB (bu T) (hr.mono (by decide)) T.bD .nil aJ (aa (aK aH (az (pv 0) rfl) (pv 1) (fun _ _=>rfl)) ag)))) (ak (aI (aV (hJ T) (hr.mono (by decide)) rfl T.jl T.iI.kp T.jJ .nil aJ (aa (pv 0) ag)))))),?_⟩
  refine⟨_,rfl,_,rfl,p,_,dx,_,_,rfl,ho,T.ao,T.bh,zl 4 ck rfl h4,va,us,rfl,.inr (dM.of hva),_,_,rfl,rfl,_,rfl,?_⟩
  refine d2 (fun h=>?_) fun h=>?_
  ·have hi:i<us.length:=by omega
   exact⟨_,rfl,p,dx,_,rfl,ho,zn (by decide +kernel),_,rfl,p,_,dx,_,_,rfl,ho,T.ao,T.bh,zl 4 ck rfl h4,_,rfl,va,_,_,_,rfl,rfl,dM.of hva,at_of rfl (List.getElem?_eq_getElem hi),p,dx,vals,_,rfl,⟨ho,hl⟩,kS _ (List.getElem?_eq_getElem hi)⟩
  ·exact⟨_,rfl,p,dx,vals,rfl,⟨ho,hl⟩,kN (List.getElem?_eq_none_iff.mpr (by omega))⟩
end Bt
set_option maxHeartbeats 4000000
namespace Bt
open PySem PySem.Spec PyProof.Rows L2
open Ha09 (Val Pat Ctrl Proc Letter)
open Bp (wt iK oA rP zP bw aP Good Child)
variable {P:Program} {w:World} {K:PySem.W.Frag} {mg:Str->Option Value} {base:Heap} {A:Ad} {D:Fg}
theorem ji.len {H:Hp} {hv:Tab} {bz:qX} {C:Addr} {num:Nat} {L:PL} {p:Proc} {r:PV} (a:ji K H hv bz C num L p r):r.ws.length=p.frames.length/\r.bv.length=p.box.length/\r.sv.length=p.said.length/\r.wv.length=p.watchers.length :=
 ⟨a.yC.length,a.Dc.length,a.EG.length,a.Ek.length⟩
theorem oB {s:Ha09.St} {i:Nat} {p:Proc} (h:s.procs[i]?=some p):iK p<=wt s:=by
 have:=Bp.IW h
 unfold wt;omega
theorem mU {l:PL}:l.p∈l.addrs/\l.td∈l.addrs/\l.bx∈l.addrs/\l.sd∈l.addrs/\l.wt∈l.addrs:=by simp[PL.addrs]
theorem jh {W:WL} {q:QL} {i:Nat} {l:PL} (hl:W.pl[i]?=some l):∀b∈l.addrs,b∈fp W q:=fun b hb=>List.mem_append.mpr (.inl (qw hl b hb))
theorem WS.Iq {H:Hp} {hv:Tab} {W:WL} {q:QL} {s:Ha09.St} (h:WS P w A K H hv W q s) {i:Nat} {l:PL} (hl:W.pl[i]?=some l) {ex:List Addr} (hx:∀b∈ex,b∈l.addrs) {H':Hp} (c:Ch ex H H'):nJ P w A.bE H' q hv :=
 h.pr.mono c fun b hb z=>qx h hl b hb (hx b z)
inductive yk (P:Program) (w:World) (A:Ad) (K:PySem.W.Frag) (vs:List V) (H:Hp) (Q:VK):Prop|mk (hv:Tab) (W:WL) (q:QL) (s:Ha09.St) (i:Nat) (l:PL) (p:Proc) (a:Ha09.Expr) (e:List Val):vs=[.ref W.w,.ref l.p]->WS P w A K H hv W q s->yh W s i l p->p.ctrl=.eval a e->hv.length+wt s<=15000000->jg P w A K H hv W q s (bw s i (Ha09.begins s.time p a e)) 2 (Q .bo)->yk P w A K vs H Q
def Ey (P:Program) (w:World) (A:Ad) (K:PySem.W.Frag):Sp:=fun vs H Q _=>yk P w A K vs H Q
inductive WkI (K:PySem.W.Frag) (H:Hp) (A:Ad) (nd:V) (tm:Nat) (p:Proc) (a:Ha09.Expr) (e:Ha09.Env):Prop|mk (t:Int) (an:Addr) (us:List V) (j:Nat) (cn:V) (y:Ha09.Expr) (f:Ha09.Frame):nd=.ref an->TupAt K H an (.int t::us)->t≠0->t≠1->t≠11->t≠7->t≠8->qe (uy A) (.inl t)=some (.int (j:Int))->(V.int t::us)[j]?=some cn->NR K H cn y->b7 y+1<=b7 a->frameOf a e none=some f->Ha09.begins tm p a e={p with ctrl:=.eval y e,frames:=f::p.frames}->WkI K H A nd tm p a e
theorem Fj {H:Hp} {nd:V} {a:Ha09.Expr} (A:Ad) (tm:Nat) (p:Proc) (e:Ha09.Env) (nr:NR K H nd a):WkI K H A nd tm p a e \/
  (∃z,a=.num z)\/(∃j,a=.var j)\/a=.self\/(∃p b q c,a=.recv p b q c)\/∃t p b c,a=.wait t p b c:=by
 have h:=nr.1
 have ok:=nr.2
 cases a with
 | num z=>exact .inr (.inl ⟨_,rfl⟩)
 | var j=>exact .inr (.inr (.inl ⟨_,rfl⟩))
 | self=>exact .inr (.inr (.inr (.inl rfl)))
 | recv p b q c=>exact .inr (.inr (.inr (.inr (.inl ⟨_,_,_,_,rfl⟩))))
 | wait t p b c=>exact .inr (.inr (.inr (.inr (.inr ⟨_,_,_,_,rfl⟩))))
 | pair y z =>
  obtain⟨an,us,hnd,tp,ts0⟩:=h.tup
  obtain⟨u0,r0,rfl,t0,ts1⟩:=ts0.inv
  obtain rfl:=t0.int
  obtain⟨u1,r1,rfl,t1,ts2⟩:=ts1.inv
  exact .inl ⟨2,an,_,1,u1,y,_,hnd,tp,by decide,by decide,by decide,by decide,by decide,rfl,rfl,⟨t1,ok.1⟩,by simp only[b7];omega,rfl,rfl⟩
 | op k y z =>
  obtain⟨an,us,hnd,tp,ts0⟩:=h.tup
  obtain⟨u0,r0,rfl,t0,ts1⟩:=ts0.inv
  obtain rfl:=t0.int
  obtain⟨u1,r1,rfl,t1,ts2⟩:=ts1.inv
  obtain⟨u2,r2,rfl,t2,ts3⟩:=ts2.inv
  exact .inl ⟨3,an,_,2,u2,y,_,hnd,tp,by decide,by decide,by decide,by decide,by decide,rfl,rfl,⟨t2,ok.2.1⟩,by simp only[b7];omega,rfl,rfl⟩
 | let_ y z =>
  obtain⟨an,us,hnd,tp,ts0⟩:=h.tup
  obtain⟨u0,r0,rfl,t0,ts1⟩:=ts0.inv
  obtain rfl:=t0.int
  obtain⟨u1,r1,rfl,t1,ts2⟩:=ts1.inv
  exact .inl ⟨4,an,_,1,u1,y,_,hnd,tp,by decide,by decide,by decide,by decide,by decide,rfl,rfl,⟨t1,ok.1⟩,by simp only[b7];omega,rfl,rfl⟩
 | case y pp z c =>
  obtain⟨an,us,hnd,tp,ts0⟩:=h.tup
  obtain⟨u0,r0,rfl,t0,ts1⟩:=ts0.inv
  obtain rfl:=t0.int
  obtain⟨u1,r1,rfl,t1,ts2⟩:=ts1.inv
  exact .inl ⟨5,an,_,1,u1,y,_,hnd,tp,by decide,by decide,by decide,by decide,by decide,rfl,rfl,⟨t1,ok.1⟩,by simp only[b7];omega,rfl,rfl⟩
 | call f y =>
  obtain⟨an,us,hnd,tp,ts0⟩:=h.tup
  obtain⟨u0,r0,rfl,t0,ts1⟩:=ts0.inv
  obtain rfl:=t0.int
  obtain⟨u1,r1,rfl,t1,ts2⟩:=ts1.inv
  obtain⟨u2,r2,rfl,t2,ts3⟩:=ts2.inv
  exact .inl ⟨6,an,_,2,u2,y,_,hnd,tp,by decide,by decide,by decide,by decide,by decide,rfl,rfl,⟨t2,ok⟩,by simp only[b7];omega,rfl,rfl⟩
 | send y z =>
  obtain⟨an,us,hnd,tp,ts0⟩:=h.tup
  obtain⟨u0,r0,rfl,t0,ts1⟩:=ts0.inv
  obtain rfl:=t0.int
  obtain⟨u1,r1,rfl,t1,ts2⟩:=ts1.inv
  exact .inl ⟨9,an,_,1,u1,y,_,hnd,tp,by decide,by decide,by decide,by decide,by decide,rfl,rfl,⟨t1,ok.1⟩,by simp only[b7];omega,rfl,rfl⟩
 | spawn f y =>
  obtain⟨an,us,hnd,tp,ts0⟩:=h.tup
  obtain⟨u0,r0,rfl,t0,ts1⟩:=ts0.inv
  obtain rfl:=t0.int
  obtain⟨u1,r1,rfl,t1,ts2⟩:=ts1.inv
  obtain⟨u2,r2,rfl,t2,ts3⟩:=ts2.inv
  exact .inl ⟨10,an,_,2,u2,y,_,hnd,tp,by decide,by decide,by decide,by decide,by decide,rfl,rfl,⟨t2,ok⟩,by simp only[b7];omega,rfl,rfl⟩
 | watch y =>
  obtain⟨an,us,hnd,tp,ts0⟩:=h.tup
  obtain⟨u0,r0,rfl,t0,ts1⟩:=ts0.inv
  obtain rfl:=t0.int
  obtain⟨u1,r1,rfl,t1,ts2⟩:=ts1.inv
  exact .inl ⟨12,an,_,1,u1,y,_,hnd,tp,by decide,by decide,by decide,by decide,by decide,rfl,rfl,⟨t1,ok⟩,by simp only[b7];omega,rfl,rfl⟩
 | raise y =>
  obtain⟨an,us,hnd,tp,ts0⟩:=h.tup
  obtain⟨u0,r0,rfl,t0,ts1⟩:=ts0.inv
  obtain rfl:=t0.int
  obtain⟨u1,r1,rfl,t1,ts2⟩:=ts1.inv
  exact .inl ⟨13,an,_,1,u1,y,_,hnd,tp,by decide,by decide,by decide,by decide,by decide,rfl,rfl,⟨t1,ok⟩,by simp only[b7];omega,rfl,rfl⟩
 | try_ y z =>
  obtain⟨an,us,hnd,tp,ts0⟩:=h.tup
  obtain⟨u0,r0,rfl,t0,ts1⟩:=ts0.inv
  obtain rfl:=t0.int
  obtain⟨u1,r1,rfl,t1,ts2⟩:=ts1.inv
  exact .inl ⟨14,an,_,1,u1,y,_,hnd,tp,by decide,by decide,by decide,by decide,by decide,rfl,rfl,⟨t1,ok.1⟩,by simp only[b7];omega,rfl,rfl⟩
 | say y =>
  obtain⟨an,us,hnd,tp,ts0⟩:=h.tup
  obtain⟨u0,r0,rfl,t0,ts1⟩:=ts0.inv
  obtain rfl:=t0.int
  obtain⟨u1,r1,rfl,t1,ts2⟩:=ts1.inv
  exact .inl ⟨15,an,_,1,u1,y,_,hnd,tp,by decide,by decide,by decide,by decide,by decide,rfl,rfl,⟨t1,ok⟩,by simp only[b7];omega,rfl,rfl⟩
theorem A7 (T:Tx w K mg A D):aS P w K mg base eV 4 A.lh D.ly ["world","process"] (Ey P w A K):=by
 refine T.vo.ok vD (fun vs H Q E h=>?_) (fun cdv A' outer s0 H vs Q E hr h=>?_)
 ·obtain⟨hv,W,q,s,i,l,p,a,e,rfl,_⟩:=h;rfl
 ·obtain⟨hv,W,q,s,i,l,p,a,e,rfl,ws,x,hc,hb,k⟩:=h
  refine⟨_,(ah (aX (i:=2) vD.nd rfl (Or.inl rfl) (az (pv 1) rfl))
   (ak (aW (aO (bc (aK aH (pv 2) aq (fun _ _=>rfl)) aq)) (ak (aI (aG (pv 1) T.ao T.bB (bu T) (hr.mono (by decide)) T.bD .nil aJ (aa (bR (aa (a8 T.i9) (aa (aK aH (pv 2) aq (fun _ _=>rfl)) ag))) ag)))) (ak (aW (aO (bc (aK aH (pv 2) aq (fun _ _=>rfl)) aq)) (ak (aI (aV (qA T) (hr.mono (by decide)) rfl T.lW T.hG.kp T.l6 .nil aJ (aa (pv 1) (aa (aK aH (pv 2) aq (fun _ _=>rfl)) ag))))) (ak (aW (aO (bc (aK aH (pv 2) aq (fun _ _=>rfl)) aq)) (ak (aI (aG (pv 1) T.ao T.bB (bu T) (hr.mono (by decide)) T.bD .nil aJ (aa (bR (aa (a8 T.xQ) (aa (az (pv 1) rfl) ag))) ag)))) (ak (aW (PW.pt (xr (aO (bc (aK aH (pv 2) aq (fun _ _=>rfl)) aq)) (sY (aO (bc (aK aH (pv 2) aq (fun _ _=>rfl)) aq))))) (ak (aI (aG (pv 1) T.ao T.ky (p4 T) (hr.mono (by decide)) T.kC .nil aJ (aa (az (pv 0) rfl) ag)))) (ah (aI (dO PySem.F.plainAttrs_list PySem.F.slot_list_append PySem.F.type_list_append bJ (az (pv 1) rfl) (aa (bR (aa (pv 2) (aa (az (pv 1) rfl) (aa lM ag)))) ag)))
   (ak (aI (aG (pv 1) T.ao T.bA (bt T) (hr.mono (by decide)) T.bC .nil aJ (aa (aK aH (pv 2) (kW T.vS rfl T.vQ (aK aH (pv 2) aq (fun _ _=>rfl))) (fun _ _=>rfl)) (aa (az (pv 1) rfl) ag))))))))))))))),?_⟩
  obtain⟨r,pa⟩:=ws.wa.at_ i l p x.l x.p
  have ct:=pa.ct
  rw[hc] at ct
  obtain⟨hmd,ne⟩:=ct
  obtain⟨la,lb,lc,ld⟩:=pa.len
  have hwt:=oB x.p
  have nd:=ws.wa.FP x.l
  have po:PO A.aj H l.p l.dx (r.fs (i+1) p.born l):=⟨pa.ob,rfl⟩
  refine⟨_,rfl,l.p,_,l.dx,_,_,rfl,pa.ob,T.ao,T.eh,zl 3 ck rfl rfl,?_⟩
  have Az:∀(H1:Hp) (r':PV) (t:Ctrl),Ch [] H H1->r'.nm=r.nm->r'.ws=r.ws->r'.bv=r.bv->r'.sv=r.sv->r'.wv=r.wv->yB K H1 hv (aB s) r' p.box t->Ha09.begins s.time p a e={p with ctrl:=t} ->
    Q .bo (upd H1 l.p (.ins A.aj l.dx (PN.zip (r'.fs (i+1) p.born l)))):=fun H1 r' t c1 e1 e2 e3 e4 e5 hct hbg=>by
   have ws1:WS P w A K H1 hv W q s:=⟨ws.wa.mono c1 (List.prefix_refl _) (by simp),ws.pr.mono c1 (by simp),ws.po,ws.dj,ws.gd⟩
   have pa1:=ji.mono c1 (List.prefix_refl _) (List.prefix_refl _) (by simp) pa
   have c2:Ch (fp W q) H1 (upd H1 l.p (.ins A.aj l.dx (PN.zip (r'.fs (i+1) p.born l)))):=Ch.put pa1.ob trivial (jh x.l _ mU.1)
   refine k _ hv W ?_ (List.prefix_refl _) ?_ ((c1.mono (by simp)).trans c2) (Ext.refl _ _)
   ·rw[hbg];exact ws1.Az x pa1 e1 e2 e3 e4 e5 hct
   ·rw[hbg]
    have:=iM (p':={p with ctrl:=t}) x.p
    have e6:iK {p with ctrl:=t}=iK p:=rfl
    omega
  have ok:=ne.n.2
  have cls:=Fj A s.time p e ne.n
  rcases cls with⟨t,an,us,j,cn,y,f,hnd,tp,h0,h1,h11,h7,h8,hfp,hj,hcn,hed,hfo,hbg⟩|⟨z,rfl⟩|⟨j,rfl⟩|rfl|⟨pp,bb,qq,cc,rfl⟩|⟨tt,pp,bb,cc,rfl⟩
  ·rw[hnd] at ne ⊢
   obtain⟨va,vs,hvr,hva,rvs⟩:=ne.v
   refine⟨_,rfl,an,_,_,_,rfl,rfl,tp.sq,eR,_,_,rfl,rfl,_,rfl,dF h0 ?_⟩
   refine⟨_,rfl,an,_,_,_,rfl,rfl,tp.sq,eR,_,_,rfl,rfl,_,rfl,dF h1 ?_⟩
   refine⟨_,rfl,an,_,_,_,rfl,rfl,tp.sq,eR,_,_,rfl,rfl,_,rfl,dF h11 ?_⟩
   refine⟨_,rfl,an,_,_,_,rfl,rfl,tp.sq,eR,_,_,rfl,rfl,_,rfl,dF h7 ?_⟩
   refine⟨_,rfl,an,_,_,_,rfl,rfl,tp.sq,eR,_,_,rfl,rfl,_,rfl,dF h8 ?_⟩
   refine⟨_,rfl,l.p,_,l.dx,_,_,rfl,pa.ob,T.ao,T.bU,zl 8 ck rfl rfl,.inl ⟨rfl,_,bM.of pa.td⟩,_,rfl,_,rfl,l.p,_,l.dx,_,_,rfl,pa.ob,T.ao,T.bh,zl 4 ck rfl rfl,by show 3<=sizeLine;decide,fun t3 ht3=>?_⟩
   have c1:Ch [] H (upd H t3 (.tup [.ref an,r.vr,.bo])):=Ch.new ht3
   have g1:(upd H t3 (.tup [.ref an,r.vr,.bo])) t3=some (.tup [.ref an,r.vr,.bo]):=ae
   generalize upd H t3 _=H1 at c1 g1 ⊢
   have td1:=c1.fr _ _ pa.td (by simp)
   have ob1:=c1.fr _ _ pa.ob (by simp)
   refine⟨l.td,_,_,rfl,rfl,td1,by rw[List.length_reverse,la];have:=nlt;simp only[iK] at hwt;omega,?_⟩
   have c2:Ch [l.td] H1 (upd H1 l.td (.lst (r.ws.reverse++[.ref t3]))):=Ch.put td1 trivial (by simp)
   have g2:(upd H1 l.td (.lst (r.ws.reverse++[.ref t3]))) l.td=some (.lst (V.ref t3::r.ws).reverse):=by rw[ae];simp
   have ob2:(upd H1 l.td (.lst (r.ws.reverse++[.ref t3]))) l.p=_:=(aE (PL.DB nd).1.1).trans ob1
   generalize upd H1 l.td _=H2 at c2 g2 ob2 ⊢
   have tp2:=(tp.mono c1).mono c2
   refine⟨_,rfl,l.p,l.dx,_,rfl,ob2,zn (by decide +kernel),_,rfl,_,rfl,an,_,_,_,rfl,rfl,tp2.sq,eR,_,_,rfl,hfp,an,_,_,_,rfl,rfl,tp2.sq,at_of rfl hj,_,rfl,l.p,_,l.dx,_,_,rfl,ob2,T.ao,T.bh,zl 4 ck rfl rfl,l.p,l.dx,r.fs (i+1) p.born l,_,_,rfl,⟨ob2,rfl⟩,?_⟩
   have c3:Ch [l.p,l.td] H2 (upd H2 l.p (.ins A.aj l.dx (PN.zip (({r with md:=.int 0,nd:=cn,ws:=.ref t3::r.ws}:PV).fs (i+1) p.born l)))):=Ch.put ob2 trivial (by simp)
   have g3:(upd H2 l.p (.ins A.aj l.dx (PN.zip (({r with md:=.int 0,nd:=cn,ws:=.ref t3::r.ws}:PV).fs (i+1) p.born l)))) l.td=some (.lst (V.ref t3::r.ws).reverse):=(aE (PL.DB nd).1.1.symm).trans g2
   have o3:(upd H2 l.p (.ins A.aj l.dx (PN.zip (({r with md:=.int 0,nd:=cn,ws:=.ref t3::r.ws}:PV).fs (i+1) p.born l)))) l.p=some (.ins A.aj l.dx (PN.zip (({r with md:=.int 0,nd:=cn,ws:=.ref t3::r.ws}:PV).fs (i+1) p.born l))):=ae
   show Q .bo (upd H2 l.p (.ins A.aj l.dx (PN.zip (({r with md:=.int 0,nd:=cn,ws:=.ref t3::r.ws}:PV).fs (i+1) p.born l))))
   generalize upd H2 l.p _=H3 at c3 g3 o3 ⊢
   have cc:Ch [l.p,l.td] H H3:=((c1.mono (by simp)).trans (c2.mono (by simp))).trans c3
   have c13:Ch [l.p,l.td] H1 H3:=(c2.mono (by simp)).trans c3
   have pf:=List.prefix_refl hv
   have pn:=List.prefix_refl (aB s)
   obtain⟨⟨n1,n2,n3,n4⟩,⟨m1,m2,m3⟩,_⟩:=PL.DB nd
   have sub:∀b∈[l.p,l.td],b∈l.addrs:=by simp[PL.addrs]
   have hz:=ne.z
   refine k H3 hv W ?_ pf ?_ (cc.mono fun b hb=>jh x.l b (sub b hb)) (Ext.refl _ _)
   ·rw[hbg]
    refine ws.bw x.l x.p rfl rfl pf cc (fun b hb=>.inl (sub b hb)) (ws.Iq x.l sub cc) (r:={r with md:=.int 0,nd:=cn,ws:=.ref t3::r.ws}) ⟨o3,yR.mono cc pa.nm,⟨rfl,hcn.mono cc,ne.v.mono cc pf pn,by omega⟩,g3,.cons ?_ (Paired.bL pa.yC fun _ _ z=>B5.mono cc pf pn z),cc.fr _ _ pa.bx ?_,Paired.bL pa.Dc fun _ _ z=>VR.mono cc pf pn z,cc.fr _ _ pa.sd ?_,Paired.bL pa.EG fun _ _ z=>VR.mono cc pf pn z,cc.fr _ _ pa.wt ?_,pa.Ek⟩
    ·exact⟨⟨t3,.ref an,r.vr,.bo,a,e,none⟩,rfl,c13.tu _ _ g1,ne.mono cc pf pn,rfl,hfo⟩
    ·simp[n2.symm,m1.symm]
    ·simp[n3.symm,m2.symm]
    ·simp[n4.symm,m3.symm]
   ·rw[hbg]
    have:=iM (p':={p with ctrl:=.eval y e,frames:=f::p.frames}) x.p
    have e6:iK {p with ctrl:=.eval y e,frames:=f::p.frames}=iK p+1:=by simp[iK];omega
    omega
  ·
   obtain⟨an,us,hnd,tp,ts0⟩:=ne.n.1.tup
   obtain⟨u0,r0,rfl,t0,ts1⟩:=ts0.inv
   obtain rfl:=t0.int
   obtain⟨u1,r1,rfl,t1,ts2⟩:=ts1.inv
   obtain rfl:=t1.int
   rw[hnd] at ne ⊢
   refine⟨_,rfl,an,_,_,_,rfl,rfl,tp.sq,eR,_,_,rfl,rfl,_,rfl,dT rfl ?_⟩
   refine⟨_,rfl,l.p,l.dx,_,rfl,pa.ob,zn (by decide +kernel),_,rfl,an,_,_,_,rfl,rfl,tp.sq,tO,by show 2<=sizeLine;decide,fun n hn=>?_⟩
   have c1:Ch [] H (upd H n (.tup [.int 0,.int z])):=Ch.new hn
   refine⟨l.p,l.dx,_,_,rfl,⟨c1.fr _ _ pa.ob (by simp),rfl⟩,?_⟩
   exact Az _ {r with md:=.int 1,vl:=.ref n} (.back (.num z)) c1 rfl rfl rfl rfl rfl ⟨rfl,.num ae ⟨by have:=ok.1;omega,by have:=ok.2;omega⟩⟩ rfl
  ·
   obtain⟨an,us,hnd,tp,ts0⟩:=ne.n.1.tup
   obtain⟨u0,r0,rfl,t0,ts1⟩:=ts0.inv
   obtain rfl:=t0.int
   obtain⟨u1,r1,rfl,t1,ts2⟩:=ts1.inv
   obtain rfl:=t1.int
   obtain⟨va,vs,hvr,hva,rvs⟩:=ne.v
   rw[hnd] at ne ⊢
   refine⟨_,rfl,an,_,_,_,rfl,rfl,tp.sq,eR,_,_,rfl,rfl,_,rfl,dF (by decide) ?_⟩
   refine⟨_,rfl,an,_,_,_,rfl,rfl,tp.sq,eR,_,_,rfl,rfl,_,rfl,dT rfl ?_⟩
   refine⟨_,rfl,_,rfl,an,_,_,_,rfl,rfl,tp.sq,tO,l.p,l.dx,va,r.fs (i+1) p.born l,vs,j,rfl,po,by rw[<-hvr];rfl,hva,fun u hu=>?_,fun hu n hn=>?_⟩
   ·obtain⟨y,hy,vy⟩:=A1 rvs hu
    exact Az H {r with md:=.int 1,vl:=u} (.back y) (Ch.refl _ _) rfl rfl rfl rfl rfl ⟨rfl,vy⟩ (by show(match e[j]? with|some v=>{p with ctrl:=.back v}|none=>{p with ctrl:=.up Ha09.BAD})=_;rw[hy])
   ·have hy:e[j]?=none:=List.getElem?_eq_none_iff.mpr (by rw[<-rvs.length];exact List.getElem?_eq_none_iff.mp hu)
    exact Az _ {r with md:=.int 2,vl:=.ref n} (.up Ha09.BAD) (Ch.new hn) rfl rfl rfl rfl rfl ⟨rfl,.num ae (by unfold AA;omega)⟩ (by show(match e[j]? with|some v=>{p with ctrl:=.back v}|none=>{p with ctrl:=.up Ha09.BAD})=_;rw[hy])
  ·
   obtain⟨an,us,hnd,tp,ts0⟩:=ne.n.1.tup
   obtain⟨u0,r0,rfl,t0,ts1⟩:=ts0.inv
   obtain rfl:=t0.int
   rw[hnd] at ne ⊢
   refine⟨_,rfl,an,_,_,_,rfl,rfl,tp.sq,eR,_,_,rfl,rfl,_,rfl,dF (by decide) ?_⟩
   refine⟨_,rfl,an,_,_,_,rfl,rfl,tp.sq,eR,_,_,rfl,rfl,_,rfl,dF (by decide) ?_⟩
   refine⟨_,rfl,an,_,_,_,rfl,rfl,tp.sq,eR,_,_,rfl,rfl,_,rfl,dT rfl ?_⟩
   refine⟨_,rfl,l.p,l.dx,_,rfl,pa.ob,zn (by decide +kernel),_,rfl,l.p,_,l.dx,_,_,rfl,pa.ob,T.ao,T.bH,zl 0 ck rfl rfl,by show 2<=sizeLine;decide,fun n hn=>?_⟩
   have c1:Ch [] H (upd H n (.tup [.int 1,.int ((i+1:Nat):Int)])):=Ch.new hn
   refine⟨l.p,l.dx,_,_,rfl,⟨c1.fr _ _ pa.ob (by simp),rfl⟩,?_⟩
   exact Az _ {r with md:=.int 1,vl:=.ref n} (.back (.pid p.name)) c1 rfl rfl rfl rfl rfl ⟨rfl,.pid ae (by unfold aB;rw[List.getElem?_map,x.p];rfl)⟩ rfl
  ·
   obtain⟨an,us,hnd,tp,ts0⟩:=ne.n.1.tup
   obtain⟨u0,r0,rfl,t0,ts1⟩:=ts0.inv
   obtain rfl:=t0.int
   have ne0:=ne
   rw[hnd] at ⊢
   refine⟨_,rfl,an,_,_,_,rfl,rfl,tp.sq,eR,_,_,rfl,rfl,_,rfl,dF (by decide) ?_⟩
   refine⟨_,rfl,an,_,_,_,rfl,rfl,tp.sq,eR,_,_,rfl,rfl,_,rfl,dF (by decide) ?_⟩
   refine⟨_,rfl,an,_,_,_,rfl,rfl,tp.sq,eR,_,_,rfl,rfl,_,rfl,dF (by decide) ?_⟩
   refine⟨_,rfl,an,_,_,_,rfl,rfl,tp.sq,eR,_,_,rfl,rfl,_,rfl,dT rfl ?_⟩
   refine oY ⟨_,rfl,l.p,l.dx,_,rfl,pa.ob,zn (by decide +kernel),_,rfl,W.w,_,W.dx,_,_,rfl,ws.wa.ob,T.aL,T.dw,zl 3 mr rfl rfl,l.p,l.dx,_,_,rfl,po,?_⟩
   exact Az H {r with md:=.int 3,sc:=.int (s.time:Int),lk:=.int 0} (.awaits pp bb qq cc e) (Ch.refl _ _) rfl rfl rfl rfl rfl ⟨rfl,ne0,0,rfl,Nat.zero_le _,fun j y h=>absurd h (by omega)⟩ rfl
  ·
   obtain⟨an,us,hnd,tp,ts0⟩:=ne.n.1.tup
   obtain⟨u0,r0,rfl,t0,ts1⟩:=ts0.inv
   obtain rfl:=t0.int
   have ne0:=ne
   rw[hnd] at ⊢
   refine⟨_,rfl,an,_,_,_,rfl,rfl,tp.sq,eR,_,_,rfl,rfl,_,rfl,dF (by decide) ?_⟩
   refine⟨_,rfl,an,_,_,_,rfl,rfl,tp.sq,eR,_,_,rfl,rfl,_,rfl,dF (by decide) ?_⟩
   refine⟨_,rfl,an,_,_,_,rfl,rfl,tp.sq,eR,_,_,rfl,rfl,_,rfl,dF (by decide) ?_⟩
   refine⟨_,rfl,an,_,_,_,rfl,rfl,tp.sq,eR,_,_,rfl,rfl,_,rfl,dF (by decide) ?_⟩
   refine⟨_,rfl,an,_,_,_,rfl,rfl,tp.sq,eR,_,_,rfl,rfl,_,rfl,dT rfl ?_⟩
   refine⟨_,rfl,l.p,l.dx,_,rfl,pa.ob,zn (by decide +kernel),_,rfl,W.w,_,W.dx,_,_,rfl,ws.wa.ob,T.aL,T.dw,zl 3 mr rfl rfl,l.p,l.dx,_,_,rfl,po,?_⟩
   exact Az H {r with md:=.int 3,sc:=.int (s.time:Int),lk:=.int 0} (.awaitsTill (s.time+tt) pp bb cc e) (Ch.refl _ _) rfl rfl rfl rfl rfl ⟨rfl,⟨tt,s.time,ne0,rfl,rfl⟩,0,rfl,Nat.zero_le _,fun j y h=>absurd h (by omega)⟩ rfl
end Bt
namespace Bt
open PySem PySem.Spec PyProof.Rows L2
open Ha09 (Val Pat Ctrl Proc Letter)
open Bp (wt iK oA rP zP bw aP Good Child bT dN)
variable {P:Program} {w:World} {K:PySem.W.Frag} {mg:Str->Option Value} {base:Heap} {A:Ad} {D:Fg}
inductive ChR (K:PySem.W.Frag) (H:Hp) (n:Nat) (v:V) (c:Pat×Ha09.Expr):Prop|mk (a:_) (pv:_) (bv:_):v=.ref a->H a=some (.tup [pv,bv])->TR K H pv (oh c.1)->vG c.1<=31->NR K H bv c.2->n+32*(b7 c.2+1)<=700->ChR K H n v c
inductive FdR (K:PySem.W.Frag) (H:Hp) (hv:Tab) (bz:qX) (v:V) (j:Nat) (b:Ha09.Expr) (f:List Val):Prop|mk (a:_) (bv:_) (fv:_):v=.ref a->H a=some (.tup [.int (j:Int),bv,fv])->NE K H hv bz bv fv b f->FdR K H hv bz v j b f
structure IV (P:Program) (w:World) (A:Ad) (K:PySem.W.Frag) (H:Hp) (hv:Tab) (W:WL) (q:QL) (s:Ha09.St) (i:Nat) (l:PL) (p:Proc) (r:PV) (cv:V) (cs:List (Pat×Ha09.Expr)) (e:List Val):Prop where
 ws:WS P w A K H hv W q s
 x:yh W s i l p
 pa:ji K H hv (aB s) A.aj (i+1) l p r
 vs:Fd H hv (aB s) r.vr e
 ch:∃ca cvs,cv=.ref ca/\H ca=some (.tup cvs)/\Paired (ChR K H e.length) cvs cs
 sn:Seen r.lk p.box fun x=>bT cs x e=none
inductive Ed (P:Program) (w:World) (A:Ad) (K:PySem.W.Frag) (vs:List V) (H:Hp) (Q:VK):Prop|mk (hv:Tab) (W:WL) (q:QL) (s:Ha09.St) (i:Nat) (l:PL) (p:Proc) (r:PV) (cv:V) (cs:List (Pat×Ha09.Expr)) (e:List Val):vs=[.ref W.w,.ref l.p,cv]->IV P w A K H hv W q s i l p r cv cs e->hv.length+wt s<=15000000->(∀j b f,dN cs e p.box=some (j,b,f)->∀H' v,Ch [] H H'->FdR K H' hv (aB s) v j b f->Q v H')->(dN cs e p.box=none->∀H',Ch [] H H'->Q .bo H')->Ed P w A K vs H Q
def Jq (P:Program) (w:World) (A:Ad) (K:PySem.W.Frag):Sp:=fun vs H Q _=>Ed P w A K vs H Q
theorem Ac (T:Tx w K mg A D):aS P w K mg base eV 3 A.jt D.jE ["world","process","choices"] (Jq P w A K):=by
 refine T.tR.ok kH (fun vs H Q E h=>?_) (fun cdv A' outer s0 H vs Q E hr h=>?_)
 ·obtain⟨hv,W,q,s,i,l,p,r,cv,cs,e,rfl,_⟩:=h;rfl
 ·obtain⟨hv,W,q,s,i,l,p,r,cv,cs,e,rfl,⟨ws,x,pa,hvs,⟨ca,cvs,rfl,hca,rcs⟩,⟨n,hlk,hn,hbad⟩⟩,hb,kS,kN⟩:=h
  refine⟨_,(ah (lL PassesOwn.never rfl (EK rfl T.Cg (aa (az (pv 1) rfl) (aa (a9 aM rfl T.gc PySem.boot_len (aa (az (pv 1) rfl) ag)) ag))) (gv (i:=3) kH.nd rfl (Or.inl rfl)) (ak (lL PassesOwn.never rfl (Jy (pv 2)) (gv (i:=4) kH.nd rfl (Or.inl rfl)) (ah (aX (i:=5) kH.nd rfl (Or.inl rfl) (aV (ui T) (hr.mono (by decide)) rfl T.tF T.px.kp T.tJ .nil aJ (aa (az (pv 0) rfl) (aa (aK aH (pv 4) aq (fun _ _=>rfl)) (aa (aK bI (az (pv 1) rfl) (pv 3) (fun _ _=>rfl)) (aa (az (pv 1) rfl) ag))))))
   (ak (aW (aO (HC (pv 5))) (ak (aF (bR (aa (pv 3) (aa (aK aH (pv 4) aq (fun _ _=>rfl)) (aa (pv 5) ag)))))) aT))))))
   (ak (aF lM))),?_⟩
  obtain⟨la,lb,lc,ld⟩:=pa.len
  have hwt:=oB x.p
  have pf:=List.prefix_refl hv
  have pn:=List.prefix_refl (aB s)
  have hel:e.length<=1000\/cs=[]:=by
   cases rcs with
   | nil=>exact .inr rfl
   | cons h _=>obtain⟨_,_,_,_,_,_,_,_,z⟩:=h;exact .inl (by omega)
  refine⟨_,rfl,l.p,_,l.dx,_,_,rfl,pa.ob,T.ao,T.dr,zl 7 ck rfl rfl,_,rfl,l.p,_,l.dx,_,_,rfl,pa.ob,T.ao,T.bW,zl 9 ck rfl rfl,l.bx,_,rfl,.inl (bM.of pa.bx),?_⟩
  rw[hlk]
  have hsz:p.box.length<=15000000:=by simp only[iK] at hwt;omega
  refine⟨_,_,rfl,⟨by omega,by omega,by omega,by rw[lb];omega⟩,?_⟩
  have hcount:(((r.bv.length:Nat):Int)-(n:Int)).toNat=p.box.length-n:=by rw[lb];omega
  rw[hcount]
  refine zg (fun t σ H1=>∃o3 o4 o5,σ=[some (.ref W.w),some (.ref l.p),some (.ref ca),o3,o4,o5]/\Ch [] H H1/\∀(j:Nat) y,j<n+t->p.box[j]?=some y->bT cs y e=none)
   ⟨none,none,none,rfl,Ch.refl _ _,fun j y h1 h2=>hbad j y (by omega) h2⟩ ?_ ?_
  ·rintro t σ H1 ht ⟨o3,o4,o5,rfl,c1,hall⟩
   have hbx:n+t<p.box.length:=by omega
   obtain⟨bvv,hbv,hvx⟩:=ug pa.Dc (List.getElem?_eq_getElem hbx)
   show(tFor (iTup _ (IY 2)) (Gs 4) _ _ _ _)
   refine⟨_,rfl,ca,rfl,⟨_,dM.of (c1.tu _ _ hca)⟩,?_⟩
   refine HS (K:=K) (a:=ca) (xs:=cvs) (fun u σ H2=>∃o4 o5,σ=[some (.ref W.w),some (.ref l.p),some (.ref ca),some (.int ((n:Int)+(t:Int))),o4,o5]/\Ch [] H H2/\∀(k:Nat) c,k<u->cs[k]?=some c->Ha09.matches_ c.1 p.box[n+t] e=none)
    ⟨o4,o5,rfl,c1,fun k c h=>absurd h (by omega)⟩ (fun u σ H2 _ ⟨_,_,_,c2,_⟩=>dM.of (c2.tu _ _ hca)) ?_ ?_
   ·rintro u y σ H2 hy ⟨o4,o5,rfl,c2,hno⟩
    obtain⟨c,hc,a3,pv,bv,rfl,hob,htr,hps,hnr,hed⟩:=A1 rcs hy
    have ob2:=c2.fr _ _ pa.ob (by simp)
    have bx2:=c2.fr _ _ pa.bx (by simp)
    have wo2:=c2.fr _ _ ws.wa.ob (by simp)
    have ea:((n:Int)+(t:Int))=((n+t:Nat):Int):=by omega
    refine⟨_,rfl,W.w,_,W.dx,_,_,rfl,wo2,T.aL,T.bV,zl 4 mr rfl rfl,_,rfl,a3,_,_,_,rfl,rfl,dM.of (c2.tu _ _ hob),eR,_,rfl,l.p,_,l.dx,_,_,rfl,ob2,T.ao,T.bW,zl 9 ck rfl rfl,_,rfl,l.bx,_,_,_,rfl,rfl,bM.of bx2,at_of ea hbv,_,rfl,l.p,_,l.dx,_,_,rfl,ob2,T.ao,T.bh,zl 4 ck rfl rfl,?_⟩
    rw[ws.po]
    refine⟨q,hv,aB s,pv,bvv,r.vr,c.1,p.box[n+t],e,rfl,ws.pr.mono c2 (by simp),ws.gd.nd,hps,by omega,htr.mono c2,hvx.mono c2 pf pn,hvs.mono c2 pf pn,fun f hf H3 fv c3 hfv=>?_,fun hf H3 c3=>?_⟩
    ·obtain⟨af,fl,rfl,haf,rfl'⟩:=id hfv
     refine⟨_,rfl,_,rfl,nT (by simp) ?_⟩
     have c13:=c2.trans c3
     refine⟨_,rfl,_,rfl,a3,_,_,_,rfl,rfl,dM.of (c13.tu _ _ hob),tO,_,rfl,by show 3<=sizeLine;decide,fun t3 ht3=>?_⟩
     have c4:Ch [] H3 (upd H3 t3 (.tup [.int ((n:Int)+(t:Int)),bv,.ref af])):=Ch.new ht3
     have c14:=c13.trans c4
     have hfc:∀{cs':List (Pat×Ha09.Expr)} {u':Nat},cs'[u']?=some c->(∀(k:Nat) c',k<u'->cs'[k]?=some c'->Ha09.matches_ c'.1 p.box[n+t] e=none)->bT cs' p.box[n+t] e=some (c.2,f):=by
      intro cs'
      induction cs' with
      | nil=>intro u' h;simp at h
      | cons d ds ih =>
       intro u' h hk
       obtain⟨dp,db⟩:=d
       unfold Bp.bT
       match u' with
       | 0 =>
        simp at h;subst h
        rw[hf]
       | u'+1 =>
        rw[hk 0 (dp,db) (by omega) rfl]
        exact ih (by simpa using h) fun k c' h1 h2=>hk (k+1) c' (by omega) (by simpa using h2)
     have hpk:=Bp.AY (cs:=cs) (e:=e) hall (List.getElem?_eq_getElem hbx) (hfc hc hno)
     have hml:=mP _ _ _ _ hf
     exact kS _ _ _ hpk _ _ c14 ⟨t3,bv,.ref af,rfl,by rw[ae,ea],hnr.mono c14,hfv.mono c4 pf pn,by omega⟩
    ·refine⟨_,rfl,_,rfl,nF rfl ?_⟩
     refine⟨_,_,rfl,c2.trans c3,fun k c' h1 h2=>?_⟩
     by_cases hk:k<u
     ·exact hno k c' hk h2
     ·obtain rfl:k=u:=by omega
      rw[hc] at h2;cases h2
      exact hf
   ·rintro σ H2 ⟨o4,o5,rfl,c2,hno⟩
    refine⟨_,_,_,rfl,c2,fun j y h1 h2=>?_⟩
    by_cases hj:j<n+t
    ·exact hall j y hj h2
    ·obtain rfl:j=n+t:=by omega
     rw[List.getElem?_eq_getElem hbx] at h2;cases h2
     have hcl:cvs.length=cs.length:=rcs.length
     rw[hcl] at hno
     have go:∀{cs':List (Pat×Ha09.Expr)},(∀(k:Nat) c',k<cs'.length->cs'[k]?=some c'->Ha09.matches_ c'.1 p.box[n+t] e=none)->bT cs' p.box[n+t] e=none:=by
      intro cs'
      induction cs' with
      | nil=>intro _;rfl
      | cons d ds ih =>
       intro hk
       obtain⟨dp,db⟩:=d
       unfold Bp.bT
       rw[hk 0 (dp,db) (by simp) rfl]
       exact ih fun k c' h1 h2=>hk (k+1) c' (by simp;omega) (by simpa using h2)
     exact go hno
  ·rintro σ H1 ⟨o3,o4,o5,rfl,c1,hall⟩
   refine kN (Bp.xw fun k y hk=>hall k y ?_ hk) H1 c1
   have:=(List.getElem?_eq_some_iff.mp hk).1
   omega
theorem Iz {n j:Nat} (h:j<n):seqIndex? (j:Int) n=some j:=by
 have e:IA n (j:Int)=some j:=by
  unfold IA
  rw[if_pos (by omega),if_pos (by omega)];simp
 exact(DG e).1
inductive DX (P:Program) (w:World) (A:Ad) (K:PySem.W.Frag) (vs:List V) (H:Hp) (Q:VK):Prop|mk (hv:Tab) (W:WL) (q:QL) (s:Ha09.St) (i:Nat) (l:PL) (p:Proc) (r:PV) (cv:V) (cs:List (Pat×Ha09.Expr)) (e:List Val):vs=[.ref W.w,.ref l.p,cv]->IV P w A K H hv W q s i l p r cv cs e->hv.length+wt s<=15000000->(dN cs e p.box=none->yB K H hv (aB s) {r with lk:=.int (p.box.length:Int)} p.box p.ctrl)->(∀j b f,dN cs e p.box=some (j,b,f)->jg P w A K H hv W q s (bw s i {p with ctrl:=.eval b f,box:=p.box.eraseIdx j}) 0 (Q (.bl true)))->(dN cs e p.box=none->∀H',WS P w A K H' hv W q s->ji K H' hv (aB s) A.aj (i+1) l p {r with lk:=.int (p.box.length:Int)}->Ch [l.p] H H'->Q (.bl false) H')->DX P w A K vs H Q
def Jd (P:Program) (w:World) (A:Ad) (K:PySem.W.Frag):Sp:=fun vs H Q _=>DX P w A K vs H Q
theorem uk (T:Tx w K mg A D):aS P w K mg base eV 4 A.jq D.jA ["world","process","choices"] (Jd P w A K):=by
 refine T.pA.ok t6 (fun vs H Q E h=>?_) (fun cdv A' outer s0 H vs Q E hr h=>?_)
 ·obtain⟨hv,W,q,s,i,l,p,r,cv,cs,e,rfl,_⟩:=h;rfl
 ·obtain⟨hv,W,q,s,i,l,p,r,cv,cs,e,rfl,aw,hb,hct,kS,kN⟩:=h
  refine⟨_,(ah (aX (i:=3) t6.nd rfl (Or.inl rfl) (aV (Ac T) (hr.mono (by decide)) rfl T.xU T.tR.kp T.ye .nil aJ (aa (pv 0) (aa (pv 1) (aa (pv 2) ag)))))
   (ah (aW (aO (sZ (pv 3))) (ah (aY (pv 1) (a9 aM rfl T.gc PySem.boot_len (aa (az (pv 1) rfl) ag)) rfl)
   (ak (aF xx))) aT)
   (ah (aI (dO PySem.F.plainAttrs_list PySem.F.slot_list_pop PySem.F.type_list_pop Bj (az (pv 1) rfl) (aa (aK aH (pv 3) aq (fun _ _=>rfl)) ag)))
   (ah (aI (aG (pv 1) T.ao T.bA (bt T) (hr.mono (by decide)) T.bC .nil aJ (aa (aK aH (pv 3) aq (fun _ _=>rfl)) (aa (aK aH (pv 3) aq (fun _ _=>rfl)) ag))))
   (ak (aF xx)))))),?_⟩
  obtain⟨la,lb,lc,ld⟩:=aw.pa.len
  have hwt:=oB aw.x.p
  have pf:=List.prefix_refl hv
  have pn:=List.prefix_refl (aB s)
  have nd:=aw.ws.wa.FP aw.x.l
  obtain⟨⟨n1,n2,n3,n4⟩,⟨m1,m2,m3⟩,⟨o1,o2⟩,_⟩:=PL.DB nd
  refine⟨_,rfl,_,rfl,_,rfl,hv,W,q,s,i,l,p,r,cv,cs,e,rfl,aw,hb,fun j b f hpk H1 v c1 hfd=>?_,fun hpk H1 c1=>?_⟩
  ·obtain⟨af,bv,fv,rfl,haf,hne⟩:=hfd
   refine⟨_,rfl,_,rfl,dF (by simp) ?_⟩
   have ob1:=c1.fr _ _ aw.pa.ob (by simp)
   have bx1:=c1.fr _ _ aw.pa.bx (by simp)
   obtain⟨y,hy,_⟩:=Bp.AX hpk
   have hjl:=(List.getElem?_eq_some_iff.mp hy).1
   obtain⟨bvy,hbvy,_⟩:=ug aw.pa.Dc hy
   refine⟨_,rfl,l.p,_,l.dx,_,_,rfl,ob1,T.ao,T.bW,zl 9 ck rfl rfl,.inl ⟨rfl,_,bM.of bx1⟩,_,rfl,af,_,_,_,rfl,rfl,dM.of haf,eR,l.bx,_,_,_,_,rfl,rfl,bx1,by omega,by simp only[iK] at hwt;omega,Iz (by rw[lb];exact hjl),hbvy,?_⟩
   have c2:Ch [l.p,l.bx] H1 (upd H1 l.bx (.lst (r.bv.eraseIdx j))):=Ch.put bx1 trivial (by simp)
   have g2:(upd H1 l.bx (.lst (r.bv.eraseIdx j))) l.bx=some (.lst (r.bv.eraseIdx j)):=ae
   have ob2:(upd H1 l.bx (.lst (r.bv.eraseIdx j))) l.p=_:=(aE n2).trans ob1
   generalize upd H1 l.bx _=H2 at c2 g2 ob2 ⊢
   have haf2:=c2.tu _ _ haf
   refine⟨_,rfl,l.p,l.dx,_,rfl,ob2,zn (by decide +kernel),_,rfl,af,_,_,_,rfl,rfl,dM.of haf2,tO,_,rfl,af,_,_,_,rfl,rfl,dM.of haf2,at2,l.p,l.dx,r.fs (i+1) p.born l,_,_,rfl,⟨ob2,rfl⟩,?_⟩
   have c3:Ch [l.p,l.bx] H2 (upd H2 l.p (.ins A.aj l.dx (PN.zip (({r with md:=.int 0,nd:=bv,vr:=fv,bv:=r.bv.eraseIdx j}:PV).fs (i+1) p.born l)))):=Ch.put ob2 trivial (by simp)
   have o3:(upd H2 l.p (.ins A.aj l.dx (PN.zip (({r with md:=.int 0,nd:=bv,vr:=fv,bv:=r.bv.eraseIdx j}:PV).fs (i+1) p.born l)))) l.p=some (.ins A.aj l.dx (PN.zip (({r with md:=.int 0,nd:=bv,vr:=fv,bv:=r.bv.eraseIdx j}:PV).fs (i+1) p.born l))):=ae
   have g3:(upd H2 l.p (.ins A.aj l.dx (PN.zip (({r with md:=.int 0,nd:=bv,vr:=fv,bv:=r.bv.eraseIdx j}:PV).fs (i+1) p.born l)))) l.bx=some (.lst (r.bv.eraseIdx j)):=(aE n2.symm).trans g2
   show Q (.bl true) (upd H2 l.p (.ins A.aj l.dx (PN.zip (({r with md:=.int 0,nd:=bv,vr:=fv,bv:=r.bv.eraseIdx j}:PV).fs (i+1) p.born l))))
   generalize upd H2 l.p _=H3 at c3 o3 g3 ⊢
   have c13:=c2.trans c3
   have cc:Ch [l.p,l.bx] H H3:=(c1.mono (by simp)).trans c13
   have sub:∀b∈[l.p,l.bx],b∈l.addrs:=by simp[PL.addrs]
   refine kS j b f hpk H3 hv W ?_ pf ?_ (cc.mono fun b hb=>jh aw.x.l b (sub b hb)) (Ext.refl _ _)
   ·refine aw.ws.bw aw.x.l aw.x.p rfl rfl pf cc (fun b hb=>.inl (sub b hb)) (aw.ws.Iq aw.x.l sub cc) (r:={r with md:=.int 0,nd:=bv,vr:=fv,bv:=r.bv.eraseIdx j}) ⟨o3,yR.mono cc aw.pa.nm,⟨rfl,hne.mono c13 pf pn⟩,cc.fr _ _ aw.pa.td ?_,Paired.bL aw.pa.yC fun _ _ z=>B5.mono cc pf pn z,g3,Cw j (Paired.bL aw.pa.Dc fun _ _ z=>VR.mono cc pf pn z),cc.fr _ _ aw.pa.sd ?_,Paired.bL aw.pa.EG fun _ _ z=>VR.mono cc pf pn z,cc.fr _ _ aw.pa.wt ?_,aw.pa.Ek⟩
    ·simp[n1.symm,m1]
    ·simp[n3.symm,o1.symm]
    ·simp[n4.symm,o2.symm]
   ·have:=iM (p':={p with ctrl:=.eval b f,box:=p.box.eraseIdx j}) aw.x.p
    have e6:iK {p with ctrl:=.eval b f,box:=p.box.eraseIdx j}<=iK p:=by
     simp only[iK]
     have:=List.length_eraseIdx_le p.box j
     omega
    omega
  ·refine⟨_,rfl,_,rfl,dT rfl ?_⟩
   have ob1:=c1.fr _ _ aw.pa.ob (by simp)
   have bx1:=c1.fr _ _ aw.pa.bx (by simp)
   refine⟨_,rfl,l.p,_,l.dx,_,_,rfl,ob1,T.ao,T.bW,zl 9 ck rfl rfl,l.bx,_,rfl,.inl (bM.of bx1),_,rfl,l.p,_,l.dx,_,rfl,ob1,T.ao,T.dr,lp,?_⟩
   rw[zp 7 ck rfl (by show 7<13;decide),lb]
   have ws1:WS P w A K H1 hv W q s:=⟨aw.ws.wa.mono c1 pf (by simp),aw.ws.pr.mono c1 (by simp),aw.ws.po,aw.ws.dj,aw.ws.gd⟩
   have pa1:=ji.mono c1 pf pn (by simp) aw.pa
   have ct1:=yB.mono c1 pf pn (hct hpk)
   have ws2:=ws1.Az aw.x pa1 (r':={r with lk:=.int (p.box.length:Int)}) rfl rfl rfl rfl rfl ct1
   have pa2:=pa1.Az (b:=p.born) nd (r':={r with lk:=.int (p.box.length:Int)}) rfl rfl rfl rfl rfl ct1
   have es:Bp.bw s i {p with ctrl:=p.ctrl}=s:=by
    unfold Bp.bw
    have:s.procs.set i p=s.procs:=by
     apply List.ext_getElem?
     intro j
     by_cases z:i=j
     ·subst z
      rw[List.getElem?_set_self (List.getElem?_eq_some_iff.mp aw.x.p).1,aw.x.p]
     ·rw[List.getElem?_set_ne z]
    show {s with procs:=s.procs.set i p}=s
    rw[this]
   rw[es] at ws2
   exact kN hpk _ ws2 pa2 ((c1.mono (by simp)).trans (Ch.put ob1 trivial (by simp)))
theorem dv (s:Ha09.St) (i:Nat) (p:Proc):aP s i (Ha09.quiet p)=bw s i p:=by
 unfold aP Bp.bw Ha09.quiet
 simp
theorem WS.news {H H':Hp} {hv:Tab} {W:WL} {q:QL} {s:Ha09.St} (ws:WS P w A K H hv W q s) (c:Ch [] H H'):WS P w A K H' hv W q s :=
 ⟨ws.wa.mono c (List.prefix_refl _) (by simp),ws.pr.mono c (by simp),ws.po,ws.dj,ws.gd⟩
theorem jg.imp {H H1:Hp} {hv:Tab} {W:WL} {q:QL} {s s':Ha09.St} {n:Nat} {k k':Hp->Prop} (c:Ch [] H H1) (h:∀H',k' H'->k H') (hk:jg P w A K H hv W q s s' n k'):jg P w A K H1 hv W q s s' n k:=fun H' hv' W' a b d e f=>by
 refine h _ (hk H' hv' W' a b d ((c.mono (by simp)).trans e) ?_)
 exact⟨f.w,f.dx,f.pr,f.fn,f.pl,fun x hx=>(f.fr x hx).imp id fun z=>c.free z (by simp)⟩
inductive yp (P:Program) (w:World) (A:Ad) (K:PySem.W.Frag) (vs:List V) (H:Hp) (Q:VK):Prop|mk (hv:Tab) (W:WL) (q:QL) (s:Ha09.St) (i:Nat) (l:PL) (p:Proc):vs=[.ref W.w,.ref l.p]->WS P w A K H hv W q s->yh W s i l p->((∃a b c d e,p.ctrl=.awaits a b c d e)\/∃a b c d e,p.ctrl=.awaitsTill a b c d e)->hv.length+wt s<=15000000->(∀o,Ha09.stepOf s.program s.time p=some o->jg P w A K H hv W q s (aP s i o) 0 (Q (.bl true)))->(Ha09.stepOf s.program s.time p=none->jg P w A K H hv W q s s 0 (Q (.bl false)))->yp P w A K vs H Q
def ED (P:Program) (w:World) (A:Ad) (K:PySem.W.Frag):Sp:=fun vs H Q _=>yp P w A K vs H Q
theorem um (T:Tx w K mg A D):aS P w K mg base eV 5 A.dU D.dY ["world","process"] (ED P w A K):=by
 refine T.ku.ok mB (fun vs H Q E h=>?_) (fun cdv A' outer s0 H vs Q E hr h=>?_)
 ·obtain⟨hv,W,q,s,i,l,p,rfl,_⟩:=h;rfl
 ·obtain⟨hv,W,q,s,i,l,p,rfl,ws,x,haw,hb,kS,kN⟩:=h
  refine⟨_,(ah (aX (i:=2) mB.nd rfl (Or.inl rfl) (az (pv 1) rfl))
   (ah (aW (aO (bc (aK aH (pv 2) aq (fun _ _=>rfl)) aq)) (ak (aF (aV (uk T) (hr.mono (by decide)) rfl T.tH T.pA.kp T.tL .nil aJ (aa (pv 0) (aa (pv 1) (aa (bR (aa (bR (aa (aK aH (pv 2) aq (fun _ _=>rfl)) (aa (aK aH (pv 2) aq (fun _ _=>rfl)) ag))) (aa (bR (aa (aK aH (pv 2) aq (fun _ _=>rfl)) (aa (aK aH (pv 2) aq (fun _ _=>rfl)) ag))) ag))) ag)))))) aT)
   (ah (aW (fW (aV (uk T) (hr.mono (by decide)) rfl T.tH T.pA.kp T.tL .nil aJ (aa (pv 0) (aa (pv 1) (aa (bR (aa (bR (aa (aK aH (pv 2) aq (fun _ _=>rfl)) (aa (aK aH (pv 2) aq (fun _ _=>rfl)) ag))) ag)) ag))))) (ak (aF xx)) aT)
   (ah (aW (aO (xy (eT tj (az (pv 0) rfl) (az (pv 1) rfl)) (aK aH (pv 2) aq (fun _ _=>rfl)))) (ak (aF xx)) aT)
   (ah (aI (aG (pv 1) T.ao T.bA (bt T) (hr.mono (by decide)) T.bC .nil aJ (aa (aK aH (pv 2) aq (fun _ _=>rfl)) (aa (az (pv 1) rfl) ag))))
   (ak (aF xx))))))),?_⟩
  obtain⟨r,pa⟩:=ws.wa.at_ i l p x.l x.p
  have pf:=List.prefix_refl hv
  have pn:=List.prefix_refl (aB s)
  have ct:=pa.ct
  have nd:=ws.wa.FP x.l
  refine⟨_,rfl,l.p,_,l.dx,_,_,rfl,pa.ob,T.ao,T.eh,zl 3 ck rfl rfl,?_⟩
  rcases haw with⟨pp,bb,qq,cc,e,hc⟩|⟨tt,pp,bb,cc,e,hc⟩
  ·
   rw[hc] at ct
   obtain⟨hmd,ne,sn⟩:=ct
   obtain⟨an,us,hnd,tp,ts0⟩:=ne.n.1.tup
   obtain⟨u0,r0,rfl,t0,ts1⟩:=ts0.inv
   obtain rfl:=t0.int
   obtain⟨u1,r1,rfl,t1,ts2⟩:=ts1.inv
   obtain⟨u2,r2,rfl,t2,ts3⟩:=ts2.inv
   obtain⟨u3,r3,rfl,t3,ts4⟩:=ts3.inv
   obtain⟨u4,r4,rfl,t4,ts5⟩:=ts4.inv
   obtain rfl:=ts5.nil_inv
   obtain⟨k1,k2,k3,k4⟩:=ne.n.2
   have hz:=ne.z
   simp only[b7] at hz
   rw[hnd]
   refine⟨_,rfl,an,_,_,_,rfl,rfl,tp.sq,eR,_,_,rfl,rfl,_,rfl,dT rfl ?_⟩
   refine⟨_,rfl,_,rfl,_,rfl,an,_,_,_,rfl,rfl,tp.sq,tO,_,rfl,an,_,_,_,rfl,rfl,tp.sq,at2,by show 2<=sizeLine;decide,fun a1 ha1=>?_⟩
   have c1:Ch [] H (upd H a1 (.tup [u1,u2])):=Ch.new ha1
   have g1:(upd H a1 (.tup [u1,u2])) a1=some (.tup [u1,u2]):=ae
   generalize upd H a1 _=H1 at c1 g1 ⊢
   have tp1:=tp.mono c1
   refine⟨_,rfl,an,_,_,_,rfl,rfl,tp1.sq,at3,_,rfl,an,_,_,_,rfl,rfl,tp1.sq,at4,by show 2<=sizeLine;decide,fun a2 ha2=>?_⟩
   have c2:Ch [] H1 (upd H1 a2 (.tup [u3,u4])):=Ch.new ha2
   have g2:(upd H1 a2 (.tup [u3,u4])) a2=some (.tup [u3,u4]):=ae
   generalize upd H1 a2 _=H2 at c2 g2 ⊢
   refine⟨by show 2<=sizeLine;decide,fun a3 ha3=>?_⟩
   have c3:Ch [] H2 (upd H2 a3 (.tup [.ref a1,.ref a2])):=Ch.new ha3
   have g3:(upd H2 a3 (.tup [.ref a1,.ref a2])) a3=some (.tup [.ref a1,.ref a2]):=ae
   generalize upd H2 a3 _=H3 at c3 g3 ⊢
   have cc3:=(c1.trans c2).trans c3
   have hst:Ha09.stepOf s.program s.time p=(dN [(pp,bb),(qq,cc)] e p.box).map fun y=>Ha09.quiet {p with ctrl:=.eval y.2.1 y.2.2,box:=p.box.eraseIdx y.1}:=by
    unfold Ha09.stepOf
    rw[hc]
    dsimp only
    rw[Bp.Dv,Option.map_map]
    rfl
   obtain⟨n,hn1,hn2,hn3⟩:=sn
   refine⟨hv,W,q,s,i,l,p,r,.ref a3,[(pp,bb),(qq,cc)],e,rfl,⟨ws.news cc3,x,ji.mono cc3 pf pn (by simp) pa,ne.v.mono cc3 pf pn,⟨a3,_,rfl,g3,.cons ⟨a1,u1,u2,rfl,c3.tu _ _ (c2.tu _ _ g1),t1.mono cc3,k1,⟨t2.mono cc3,k2⟩,by simp only;omega⟩ (.cons ⟨a2,u3,u4,rfl,c3.tu _ _ g2,t3.mono cc3,k3,⟨t4.mono cc3,k4⟩,by simp only;omega⟩ .nil)⟩,⟨n,hn1,hn2,fun j y h1 h2=>?_⟩⟩,hb,fun hpk=>?_,fun j b f hpk=>?_,fun hpk H' ws' pa' ch'=>?_⟩
   ·obtain⟨m1,m2⟩:=hn3 j y h1 h2
    show bT [(pp,bb),(qq,cc)] y e=none
    unfold Bp.bT;rw[m1];dsimp only;unfold Bp.bT;rw[m2];rfl
   ·rw[hc]
    refine⟨hmd,ne.mono cc3 pf pn,p.box.length,rfl,Nat.le_refl _,fun j y h1 h2=>?_⟩
    have hf:=Bp.vd hpk j y h2
    unfold Bp.bT at hf
    cases hm1:Ha09.matches_ pp y e with
    | some f=>rw[hm1] at hf;cases hf
    | none =>
     rw[hm1] at hf
     dsimp only at hf
     unfold Bp.bT at hf
     cases hm2:Ha09.matches_ qq y e with
     | some f=>rw[hm2] at hf;cases hf
     | none=>exact⟨by first|rfl|exact hm1,by first|rfl|exact hm2⟩
   ·rw[hpk] at hst
    have:=kS _ hst
    rw[dv] at this
    exact this.imp cc3 fun _ h=>h
   ·rw[hpk] at hst
    refine kN hst H' hv W ws' pf (by omega) ((cc3.mono (by simp)).trans (ch'.mono fun b hb=>?_)) (Ext.refl _ _)
    rw[List.mem_singleton.mp hb];exact jh x.l _ mU.1
  ·
   rw[hc] at ct
   obtain⟨hmd,⟨d,sn0,ne,hsc,htt⟩,sn⟩:=ct
   obtain⟨an,us,hnd,tp,ts0⟩:=ne.n.1.tup
   obtain⟨u0,r0,rfl,t0,ts1⟩:=ts0.inv
   obtain rfl:=t0.int
   obtain⟨u1,r1,rfl,t1,ts2⟩:=ts1.inv
   obtain rfl:=t1.int
   obtain⟨u2,r2,rfl,t2,ts3⟩:=ts2.inv
   obtain⟨u3,r3,rfl,t3,ts4⟩:=ts3.inv
   obtain⟨u4,r4,rfl,t4,ts5⟩:=ts4.inv
   obtain rfl:=ts5.nil_inv
   obtain⟨k1,k2,k3⟩:=ne.n.2
   have hz:=ne.z
   simp only[b7] at hz
   rw[hnd]
   refine⟨_,rfl,an,_,_,_,rfl,rfl,tp.sq,eR,_,_,rfl,rfl,_,rfl,dF (by decide) ?_⟩
   refine⟨_,rfl,_,rfl,_,rfl,an,_,_,_,rfl,rfl,tp.sq,at2,_,rfl,an,_,_,_,rfl,rfl,tp.sq,at3,by show 2<=sizeLine;decide,fun a1 ha1=>?_⟩
   have c1:Ch [] H (upd H a1 (.tup [u2,u3])):=Ch.new ha1
   have g1:(upd H a1 (.tup [u2,u3])) a1=some (.tup [u2,u3]):=ae
   generalize upd H a1 _=H1 at c1 g1 ⊢
   refine⟨by show 1<=sizeLine;decide,fun a3 ha3=>?_⟩
   have c3:Ch [] H1 (upd H1 a3 (.tup [.ref a1])):=Ch.new ha3
   have g3:(upd H1 a3 (.tup [.ref a1])) a3=some (.tup [.ref a1]):=ae
   generalize upd H1 a3 _=H3 at c3 g3 ⊢
   have cc3:=c1.trans c3
   have hst:Ha09.stepOf s.program s.time p=match dN [(pp,bb)] e p.box with
     | some y=>some (Ha09.quiet {p with ctrl:=.eval y.2.1 y.2.2,box:=p.box.eraseIdx y.1})
     | none=>if tt<=s.time then some (Ha09.quiet {p with ctrl:=.eval cc e}) else none:=by
    unfold Ha09.stepOf
    rw[hc]
    dsimp only
    rw[Bp.AZ]
    cases dN [(pp,bb)] e p.box<;>rfl
   obtain⟨n,hn1,hn2,hn3⟩:=sn
   refine⟨hv,W,q,s,i,l,p,r,.ref a3,[(pp,bb)],e,rfl,⟨ws.news cc3,x,ji.mono cc3 pf pn (by simp) pa,ne.v.mono cc3 pf pn,⟨a3,_,rfl,g3,.cons ⟨a1,u2,u3,rfl,c3.tu _ _ g1,t2.mono cc3,k1,⟨t3.mono cc3,k2⟩,by simp only;omega⟩ .nil⟩,⟨n,hn1,hn2,fun j y h1 h2=>?_⟩⟩,hb,fun hpk=>?_,fun j b f hpk=>?_,fun hpk H' ws' pa' ch'=>?_⟩
   ·have m1:=hn3 j y h1 h2
    show bT [(pp,bb)] y e=none
    unfold Bp.bT;rw[m1];rfl
   ·rw[hc]
    refine⟨hmd,⟨d,sn0,ne.mono cc3 pf pn,hsc,htt⟩,p.box.length,rfl,Nat.le_refl _,fun j y h1 h2=>?_⟩
    have hf:=Bp.vd hpk j y h2
    unfold Bp.bT at hf
    cases hm1:Ha09.matches_ pp y e with
    | some f=>rw[hm1] at hf;cases hf
    | none=>first|rfl|exact hm1
   ·rw[hpk] at hst
    have:=kS _ hst
    rw[dv] at this
    exact jg.imp cc3 (fun H' h=>⟨_,rfl,oY h⟩) this
   ·refine⟨_,rfl,mw ?_⟩
    rw[hpk] at hst
    have cH:Ch [l.p] H H':=(cc3.mono (by simp)).trans ch'
    have tp':=tp.mono cH
    have cF:Ch (fp W q) H H':=cH.mono fun b hb=>by rw[List.mem_singleton.mp hb];exact jh x.l _ mU.1
    refine⟨_,rfl,W.w,_,W.dx,_,_,rfl,ws'.wa.ob,T.aL,T.dw,zl 3 mr rfl rfl,_,rfl,l.p,_,l.dx,_,_,rfl,pa'.ob,T.ao,T.eO,zl 6 ck rfl rfl,?_⟩
    show GS _ _ _
    refine⟨_,_,rfl,hsc,_,rfl,an,_,_,_,rfl,rfl,tp'.sq,tO,_,_,rfl,rfl,_,rfl,?_⟩
    refine d2 (fun h=>?_) fun h=>?_
    ·rw[if_neg (by omega)] at hst
     exact kN hst H' hv W ws' pf (by omega) cF (Ext.refl _ _)
    ·rw[if_pos (by omega)] at hst
     refine⟨_,rfl,l.p,l.dx,_,rfl,pa'.ob,zn (by decide +kernel),_,rfl,an,_,_,_,rfl,rfl,tp'.sq,at4,_,rfl,l.p,_,l.dx,_,_,rfl,pa'.ob,T.ao,T.bh,zl 4 ck rfl rfl,l.p,l.dx,({r with lk:=.int (p.box.length:Int)}:PV).fs (i+1) p.born l,_,_,rfl,⟨pa'.ob,rfl⟩,?_⟩
     have hk:=kS _ hst
     rw[dv] at hk
     have ct2:yB K H' hv (aB s) ({r with lk:=.int (p.box.length:Int),md:=.int 0,nd:=u4}:PV) p.box (.eval cc e):=⟨rfl,⟨t4.mono cH,k3⟩,ne.v.mono cH pf pn,by omega⟩
     have ws2:=ws'.Az x pa' (r':={r with lk:=.int (p.box.length:Int),md:=.int 0,nd:=u4}) rfl rfl rfl rfl rfl ct2
     refine hk _ hv W ws2 pf ?_ (cF.trans (Ch.put pa'.ob trivial (jh x.l _ mU.1))) (Ext.refl _ _)
     have:=iM (p':={p with ctrl:=.eval cc e}) x.p
     have e6:iK {p with ctrl:=.eval cc e}=iK p:=rfl
     omega
def b6 (s:Ha09.St) (a:List Letter):Ha09.St:={s with air:=a}
theorem Bo {W:WL}:W.w∈W.addrs/\W.ps∈W.addrs/\W.ls∈W.addrs:=by simp[WL.addrs]
theorem WS.air {H H':Hp} {hv:Tab} {W:WL} {q:QL} {s:Ha09.St} {lv:List V} {a:List Letter} (ws:WS P w A K H hv W q s) (c:Ch [W.ls] H H') (hl:H' W.ls=some (.lst lv)) (r:Paired (yi H' hv (aB s)) lv a):WS P w A K H' hv W q (b6 s a) :=
 ⟨ws.wa.setA (List.prefix_refl _) c (by simp) hl r,ws.pr.mono c (fun b hb z=>ws.dj b hb (by rw[List.mem_singleton.mp z];exact Bo.2.2)),ws.po,ws.dj,⟨ws.gd.nd,ws.gd.ch,ws.gd.ln⟩⟩
inductive D0 (P:Program) (w:World) (A:Ad) (K:PySem.W.Frag) (vs:List V) (H:Hp) (Q:VK):Prop|mk (hv:Tab) (W:WL) (q:QL) (s:Ha09.St) (sv rv wv:V) (l:Letter):vs=[.ref W.w,sv,rv,wv]->WS P w A K H hv W q s->DV (aB s) sv l.from_->DV (aB s) rv l.to_->wH H hv (aB s) wv l.what->hv.length+wt s<=15900000->(∀H',WS P w A K H' hv W q (b6 s (s.air++[l]))->Ch [W.ls] H H'->Q .bo H')->D0 P w A K vs H Q
def Jf (P:Program) (w:World) (A:Ad) (K:PySem.W.Frag):Sp:=fun vs H Q _=>D0 P w A K vs H Q
theorem jV (T:Tx w K mg A D):aS P w K mg base eV 1 A.ie D.iA ["self","sender","receiver","word"] (Jf P w A K):=by
 refine T.v5.ok yG (fun vs H Q E h=>?_) (fun cdv A' outer s0 H vs Q E hr h=>?_)
 ·obtain⟨hv,W,q,s,sv,rv,wv,l,rfl,_⟩:=h;rfl
 ·obtain⟨hv,W,q,s,sv,rv,wv,l,rfl,ws,h1,h2,h3,hb,k⟩:=h
  refine⟨_,(ak (aI (dO PySem.F.plainAttrs_list PySem.F.slot_list_append PySem.F.type_list_append bJ (az (pv 0) rfl) (aa (bR (aa (pv 1) (aa (pv 2) (aa (pv 3) ag)))) ag)))),?_⟩
  obtain⟨lv,hls,rel⟩:=ws.wa.ls
  have hl:lv.length=s.air.length:=rel.length
  have hal:=Bp.Di s.air
  refine⟨_,rfl,W.w,_,W.dx,_,_,rfl,ws.wa.ob,T.aL,T.br,zl 2 mr rfl rfl,.inl ⟨rfl,_,bM.of hls⟩,_,rfl,_,rfl,_,rfl,by show 3<=sizeLine;decide,fun t3 ht3=>?_⟩
  have c1:Ch [W.ls] H (upd H t3 (.tup [sv,rv,wv])):=Ch.new ht3
  have g1:(upd H t3 (.tup [sv,rv,wv])) t3=some (.tup [sv,rv,wv]):=ae
  have l1:(upd H t3 (.tup [sv,rv,wv])) W.ls=some (.lst lv):=(aE (ay hls ht3)).trans hls
  generalize upd H t3 _=H1 at c1 g1 l1 ⊢
  refine⟨W.ls,_,_,rfl,rfl,l1,by rw[hl];have:=nlt;unfold wt at hb;rw[sizeLine_eq];omega,?_⟩
  have c2:Ch [W.ls] H1 (upd H1 W.ls (.lst (lv++[.ref t3]))):=Ch.put l1 trivial (by simp)
  have cc:=c1.trans c2
  have pf:=List.prefix_refl hv
  have pn:=List.prefix_refl (aB s)
  refine k _ (ws.air cc ae (Paired.snoc (Paired.bL rel fun _ _ z=>yi.mono cc pf pn z) ⟨t3,sv,rv,wv,rfl,c2.tu _ _ g1,h1,h2,wH.mono cc pf pn h3⟩)) cc
def Bs:Ctrl->Option (Int×Val)
 | .done v=>some (0,v)
 | .failed v=>some (1,v)
 | _=>none
inductive D6 (P:Program) (w:World) (A:Ad) (K:PySem.W.Frag) (vs:List V) (H:Hp) (Q:VK):Prop|mk (hv:Tab) (W:WL) (q:QL) (s:Ha09.St) (i:Nat) (l:PL) (p:Proc) (how:Int) (v:Val):vs=[.ref W.w,.ref l.p]->WS P w A K H hv W q s->yh W s i l p->Bs p.ctrl=some (how,v)->hv.length+2<=15999999->(∀H' hv' u,WS P w A K H' hv' W q s->hv<+:hv'->hv'.length<=hv.length+2->Ch q.addrs H H'->VR H' hv' (aB s) u (Ha09.note p.name how v)->Q u H')->D6 P w A K vs H Q
def Jl (P:Program) (w:World) (A:Ad) (K:PySem.W.Frag):Sp:=fun vs H Q _=>D6 P w A K vs H Q
theorem WS.pairs {H H':Hp} {hv hv':Tab} {W:WL} {q:QL} {s:Ha09.St} {ex:List Addr} (ws:WS P w A K H hv W q s) (h1:hv<+:hv') (c:Ch ex H H') (hx:∀b∈ex,b∈q.addrs) (pr:nJ P w A.bE H' q hv'):WS P w A K H' hv' W q s :=
 ⟨ws.wa.mono c h1 (fun b hb z=>ws.dj b (hx b z) hb),pr,ws.po,ws.dj,ws.gd⟩
theorem xI {W:WL} {s:Ha09.St} {i:Nat} {l:PL} {p:Proc} (x:yh W s i l p):(aB s)[i]?=some p.name:=by unfold aB;rw[List.getElem?_map,x.p];rfl
theorem lQ (T:Tx w K mg A D):aS P w K mg base eV 2 A.dB D.dG ["self","process"] (Jl P w A K):=by
 refine T.ox.ok gW (fun vs H Q E h=>?_) (fun cdv A' outer s0 H vs Q E hr h=>?_)
 ·obtain⟨hv,W,q,s,i,l,p,how,v,rfl,_⟩:=h;rfl
 ·obtain⟨hv,W,q,s,i,l,p,how,v,rfl,ws,x,hh,hb,k⟩:=h
  refine⟨_,(ah (aX (i:=2) gW.nd rfl (Or.inl rfl) (uh (aO (bc (az (pv 1) rfl) (a8 T.uA))) aq aq))
   (ah (aX (i:=3) gW.nd rfl (Or.inl rfl) (aG (az (pv 0) rfl) T.kPairs T.mR (ny T) (hr.mono (by decide)) T.m8 .nil aJ (aa (bR (aa (a8 T.i9) (aa (pv 2) ag))) (aa (az (pv 1) rfl) ag))))
   (ak (aF (aG (az (pv 0) rfl) T.kPairs T.mR (ny T) (hr.mono (by decide)) T.m8 .nil aJ (aa (bR (aa (a8 T.xQ) (aa (az (pv 1) rfl) ag))) (aa (pv 3) ag))))))),?_⟩
  obtain⟨r,pa⟩:=ws.wa.at_ i l p x.l x.p
  have ct:=pa.ct
  obtain⟨m,hmd,hhow,hvl⟩:∃m:Int,r.md=.int m/\(if m=4 then 0 else 1)=how/\VR H hv (aB s) r.vl v:=by
   cases hc:p.ctrl with
   | done v0=>rw[hc] at hh ct;cases hh;exact⟨4,ct.1,rfl,ct.2⟩
   | failed v0=>rw[hc] at hh ct;cases hh;exact⟨5,ct.1,rfl,ct.2⟩
   | eval a e=>rw[hc] at hh;cases hh
   | back a=>rw[hc] at hh;cases hh
   | up a=>rw[hc] at hh;cases hh
   | awaits a b c d e=>rw[hc] at hh;cases hh
   | awaitsTill a b c d e=>rw[hc] at hh;cases hh
  have pf:=List.prefix_refl hv
  refine⟨_,rfl,l.p,_,l.dx,_,_,rfl,pa.ob,T.ao,T.aN,zl 2 ck rfl rfl,?_⟩
  refine⟨m,4,hmd,rfl,_,rfl,?_⟩
  have hin:AA how:=by rw[<-hhow];split<;>(unfold AA;omega)
  refine d2 (fun h=>?_) fun h=>?_
  all_goals
   first|rw[if_pos h] at hhow|rw[if_neg h] at hhow
   obtain⟨mv,vam,dm⟩:=hvl
   refine⟨_,rfl,W.w,_,W.dx,_,_,rfl,ws.wa.ob,T.aL,T.bV,zl 4 mr rfl rfl,?_⟩
   rw[ws.po]
   refine⟨q.o,q.dx,_,rfl,ws.pr.ob,zn (by decide +kernel),_,rfl,by show 2<=sizeLine;decide,fun a1 ha1=>?_⟩
   generalize hH1:upd H a1 _=H1
   have c1:Ch [] H H1:=by rw[<-hH1];exact Ch.new ha1
   have g1:H1 a1=some (.tup [.int 0,.int how]):=by rw[<-hH1,<-hhow];exact ae
   have ob1:=c1.fr _ _ pa.ob (by simp)
   refine⟨_,rfl,l.p,_,l.dx,_,_,rfl,ob1,T.ao,T.aQ,zl 5 ck rfl rfl,q,hv,_,_,.num how,mv,rfl,ws.pr.mono c1 (by simp),⟨a1,rfl,g1⟩,vam.mono c1,by omega,fun H2 hv2 v2 i2 pr2 hp2 hl2 c2 va2 hi2=>?_⟩
   have c12:Ch q.addrs H H2:=(c1.mono (by simp)).trans (c2.mono (by simp[QL.addrs]))
   have ws2:WS P w A K H2 hv2 W q s:=ws.pairs hp2 c12 (fun _ h=>h) pr2
   obtain⟨r2,pa2⟩:=ws2.wa.at_ i l p x.l x.p
   refine⟨_,rfl,W.w,_,W.dx,_,_,rfl,ws2.wa.ob,T.aL,T.bV,zl 4 mr rfl rfl,?_⟩
   rw[ws.po]
   refine⟨q.o,q.dx,_,rfl,pr2.ob,zn (by decide +kernel),_,rfl,l.p,_,l.dx,_,_,rfl,pa2.ob,T.ao,T.bH,zl 0 ck rfl rfl,by show 2<=sizeLine;decide,fun a3 ha3=>?_⟩
   have c3:Ch [] H2 (upd H2 a3 (.tup [.int 1,.int ((i+1:Nat):Int)])):=Ch.new ha3
   have g3:(upd H2 a3 (.tup [.int 1,.int ((i+1:Nat):Int)])) a3=some (.tup [.int 1,.int ((i+1:Nat):Int)]):=ae
   generalize upd H2 a3 _=H3 at c3 g3 ⊢
   refine⟨_,rfl,q,hv2,_,_,.name (i+1),.two i2,rfl,pr2.mono c3 (by simp),⟨a3,rfl,g3⟩,va2.mono c3,by omega,fun H4 hv4 v4 i4 pr4 hp4 hl4 c4 va4 hi4=>?_⟩
   have hp:=hp2.trans hp4
   have c14:Ch q.addrs H H4:=(c12.trans (c3.mono (by simp))).trans (c4.mono (by simp[QL.addrs]))
   refine k H4 hv4 v4 (ws.pairs hp c14 (fun _ h=>h) pr4) hp (by omega) c14 ⟨.two i4,va4,?_⟩
   have pn:=List.prefix_refl (aB s)
   exact .two hi4 (.name (xI x)) (.two (uf hp4 hi2) (.num hin) (dm.mono hp pn))
theorem nW {s:Ha09.St} {i:Nat} {p p':Proc} (hp:s.procs[i]?=some p) (hn:p'.name=p.name):aB (bw s i p')=aB s:=Bp.wK hp hn
def EndOf (p:Proc) (m:Int) (t:Ctrl) (how:Int) (v:Val):Prop:=(m=4/\p.ctrl=.back v/\t=.done v/\how=0)\/(m=5/\p.ctrl=.up v/\t=.failed v/\how=1)
def nD (p:Proc) (how:Int) (v:Val):List Letter:=p.watchers.map fun x=>⟨p.name,x,some (Ha09.note p.name how v)⟩
theorem AB (p:Proc) (how:Int) (v:Val) (k:Nat):rP ((nD p how v).take k)<=k/\rP (nD p how v)=p.watchers.length:=by
 have go:∀(l:List (List Nat)),rP (l.map fun x=>(⟨p.name,x,some (Ha09.note p.name how v)⟩:Letter))=l.length:=by
  intro l
  induction l with
  | nil=>rfl
  | cons a r ih =>
   simp only[rP,List.map_cons,List.sum_cons,List.length_cons] at ih ⊢
   rw[ih]
   simp[zP];omega
 refine⟨?_,go _⟩
 unfold nD
 rw[<-List.map_take,go,List.length_take]
 omega
inductive GP (P:Program) (w:World) (A:Ad) (K:PySem.W.Frag) (vs:List V) (H:Hp) (Q:VK):Prop|mk (hv:Tab) (W:WL) (q:QL) (s:Ha09.St) (i:Nat) (l:PL) (p:Proc) (m:Int) (t:Ctrl) (how:Int) (v:Val):vs=[.ref W.w,.ref l.p,.int m]->WS P w A K H hv W q s->yh W s i l p->EndOf p m t how v->hv.length+wt s<=15000000->jg P w A K H hv W q s (aP s i ⟨{p with ctrl:=t,box:=[],watchers:=[]},nD p how v,none⟩) 0 (Q .bo)->GP P w A K vs H Q
def spEnd (P:Program) (w:World) (A:Ad) (K:PySem.W.Frag):Sp:=fun vs H Q _=>GP P w A K vs H Q
theorem uo (T:Tx w K mg A D):aS P w K mg base eV 3 A.ju D.jG ["self","process","mode"] (spEnd P w A K):=by
 refine T.yy.ok oH (fun vs H Q E h=>?_) (fun cdv A' outer s0 H vs Q E hr h=>?_)
 ·obtain⟨hv,W,q,s,i,l,p,m,t,how,v,rfl,_⟩:=h;rfl
 ·obtain⟨hv,W,q,s,i,l,p,m,t,how,v,rfl,ws,x,he,hb,k⟩:=h
  refine⟨_,(ah (aY (pv 1) (pv 2) rfl)
   (ah (aX (i:=3) oH.nd rfl (Or.inl rfl) (az (pv 1) rfl))
   (ah (aY (pv 1) (bf ag) rfl)
   (ah (aY (pv 1) (bf ag) rfl)
   (ak (lL PassesOwn.never rfl (rB (pv 3)) (gv (i:=4) oH.nd rfl (Or.inl rfl)) (ak (aI (aG (pv 0) T.aL T.j4 (jV T) (hr.mono (by decide)) T.j7 .nil aJ (aa (az (pv 1) rfl) (aa (pv 4) (aa (aG (pv 0) T.aL T.jk (lQ T) (hr.mono (by decide)) T.jK .nil aJ (aa (pv 1) ag)) ag)))))))))))),?_⟩
  obtain⟨r,pa⟩:=ws.wa.at_ i l p x.l x.p
  obtain⟨la,lb,lc,ld⟩:=pa.len
  have nd:=ws.wa.FP x.l
  obtain⟨⟨n1,n2,n3,n4⟩,⟨m1,m2,m3⟩,⟨o1,o2⟩,p1⟩:=PL.DB nd
  have pf:=List.prefix_refl hv
  have pn:=List.prefix_refl (aB s)
  have ct:=pa.ct
  have hvl:VR H hv (aB s) r.vl v:=by
   rcases he with⟨_,hc,_⟩|⟨_,hc,_⟩
   ·rw[hc] at ct;exact ct.2
   ·rw[hc] at ct;exact ct.2
  refine⟨_,rfl,_,rfl,l.p,_,l.dx,_,rfl,pa.ob,T.ao,T.aN,lp,?_⟩
  rw[zp 2 ck rfl (by show 2<13;decide)]
  have c1:Ch [l.p] H (upd H l.p (.ins A.aj l.dx (PN.zip ((r.fs (i+1) p.born l).set 2 (.int m))))):=Ch.put pa.ob trivial (by simp)
  have g1:(upd H l.p (.ins A.aj l.dx (PN.zip ((r.fs (i+1) p.born l).set 2 (.int m))))) l.p=some (.ins A.aj l.dx (PN.zip ((r.fs (i+1) p.born l).set 2 (.int m)))):=ae
  generalize upd H l.p _=H1 at c1 g1 ⊢
  refine⟨_,rfl,l.p,_,l.dx,_,_,rfl,g1,T.ao,T.bQ,zl 12 ck rfl rfl,?_⟩
  refine⟨Nat.zero_le _,fun nw hnw=>?_⟩
  have c2:Ch [l.p] H1 (upd H1 nw (.lst [])):=Ch.new hnw
  have gw2:(upd H1 nw (.lst [])) nw=some (.lst []):=ae
  have g2:(upd H1 nw (.lst [])) l.p=_:=(aE (ay g1 hnw)).trans g1
  have nwp:nw≠l.p:=(ay g1 hnw).symm
  have hnwH:H nw=none:=c1.free hnw (by simp[nwp])
  generalize upd H1 nw _=H2 at c2 gw2 g2 ⊢
  refine⟨_,rfl,l.p,_,l.dx,_,rfl,g2,T.ao,T.bQ,lp,?_⟩
  rw[zp 12 ck rfl (by show 12<13;decide)]
  have c3:Ch [l.p] H2 (upd H2 l.p (.ins A.aj l.dx (PN.zip (((r.fs (i+1) p.born l).set 2 (.int m)).set 12 (.ref nw))))):=Ch.put g2 trivial (by simp)
  have g3:(upd H2 l.p (.ins A.aj l.dx (PN.zip (((r.fs (i+1) p.born l).set 2 (.int m)).set 12 (.ref nw))))) l.p=some (.ins A.aj l.dx (PN.zip (((r.fs (i+1) p.born l).set 2 (.int m)).set 12 (.ref nw)))):=ae
  have gw3:(upd H2 l.p (.ins A.aj l.dx (PN.zip (((r.fs (i+1) p.born l).set 2 (.int m)).set 12 (.ref nw))))) nw=some (.lst []):=(aE nwp).trans gw2
  generalize upd H2 l.p _=H3 at c3 g3 gw3 ⊢
  refine⟨Nat.zero_le _,fun nb hnb=>?_⟩
  have c4:Ch [l.p] H3 (upd H3 nb (.lst [])):=Ch.new hnb
  have gb4:(upd H3 nb (.lst [])) nb=some (.lst []):=ae
  have gw4:(upd H3 nb (.lst [])) nw=_:=(aE (ay gw3 hnb)).trans gw3
  have g4:(upd H3 nb (.lst [])) l.p=_:=(aE (ay g3 hnb)).trans g3
  have nbp:nb≠l.p:=(ay g3 hnb).symm
  have nwb:nw≠nb:=ay gw3 hnb
  have c13:=(c1.trans c2).trans c3
  have hnbH:H nb=none:=c13.free hnb (by simp[nbp])
  generalize upd H3 nb _=H4 at c4 gb4 gw4 g4 ⊢
  refine⟨_,rfl,l.p,_,l.dx,_,rfl,g4,T.ao,T.bW,lp,?_⟩
  rw[zp 9 ck rfl (by show 9<13;decide)]
  have c5:Ch [l.p] H4 (upd H4 l.p (.ins A.aj l.dx (PN.zip ((((r.fs (i+1) p.born l).set 2 (.int m)).set 12 (.ref nw)).set 9 (.ref nb))))):=Ch.put g4 trivial (by simp)
  have g5:(upd H4 l.p (.ins A.aj l.dx (PN.zip ((((r.fs (i+1) p.born l).set 2 (.int m)).set 12 (.ref nw)).set 9 (.ref nb))))) l.p=some (.ins A.aj l.dx (PN.zip ((((r.fs (i+1) p.born l).set 2 (.int m)).set 12 (.ref nw)).set 9 (.ref nb)))):=ae
  have gb5:(upd H4 l.p (.ins A.aj l.dx (PN.zip ((((r.fs (i+1) p.born l).set 2 (.int m)).set 12 (.ref nw)).set 9 (.ref nb))))) nb=some (.lst []):=(aE nbp).trans gb4
  have gw5:(upd H4 l.p (.ins A.aj l.dx (PN.zip ((((r.fs (i+1) p.born l).set 2 (.int m)).set 12 (.ref nw)).set 9 (.ref nb))))) nw=some (.lst []):=(aE nwp).trans gw4
  generalize upd H4 l.p _=H5 at c5 g5 gb5 gw5 ⊢
  have cc:=(c13.trans c4).trans c5
  have hsub:∀b∈[l.p],b∈l.addrs:=by simp[PL.addrs]
  have td5:=cc.fr _ _ pa.td (by simp[n1.symm])
  have sd5:=cc.fr _ _ pa.sd (by simp[n3.symm])
  have wt5:=cc.fr _ _ pa.wt (by simp[n4.symm])
  have pa5:ji K H5 hv (aB s) A.aj (i+1) {l with bx:=nb,wt:=nw} {p with ctrl:=t,box:=[],watchers:=[]} {r with md:=.int m,bv:=[],wv:=[]}:=by
   refine⟨g5,yR.mono cc pa.nm,?_,td5,Paired.bL pa.yC fun _ _ z=>B5.mono cc pf pn z,gb5,.nil,sd5,Paired.bL pa.EG fun _ _ z=>VR.mono cc pf pn z,gw5,.nil⟩
   rcases he with⟨rfl,_,rfl,_⟩|⟨rfl,_,rfl,_⟩
   ·exact⟨rfl,hvl.mono cc pf pn⟩
   ·exact⟨rfl,hvl.mono cc pf pn⟩
  have nd':({l with bx:=nb,wt:=nw}:PL).addrs.Nodup:=by
   have a1:nb≠l.td:=(ay pa.td hnbH).symm
   have a2:nb≠l.sd:=(ay pa.sd hnbH).symm
   have a3:nw≠l.td:=(ay pa.td hnwH).symm
   have a4:nw≠l.sd:=(ay pa.sd hnwH).symm
   simp[PL.addrs,n1,n3,m2,nbp.symm,nwp.symm,a1.symm,a2,a3.symm,a4.symm,nwb.symm]
  obtain⟨wa1,hfr⟩:=ws.wa.setL x.l x.p (l':={l with bx:=nb,wt:=nw}) (p':={p with ctrl:=t,box:=[],watchers:=[]}) rfl pf cc (fun b hb=>.inl (hsub b hb)) rfl (by
   intro b hb
   simp[PL.addrs] at hb ⊢
   rcases hb with rfl|rfl|rfl|rfl|rfl
   ·simp
   ·simp
   ·exact .inr hnbH
   ·simp
   ·exact .inr hnwH) nd' pa5
  generalize hW1:({W with pl:=W.pl.set i {l with bx:=nb,wt:=nw}}:WL)=W1 at wa1 hfr
  have hW1w:W1.w=W.w:=by rw[<-hW1]
  have hW1ls:W1.ls=W.ls:=by rw[<-hW1]
  have hil:=(List.getElem?_eq_some_iff.mp x.l).1
  have x1:yh W1 (bw s i {p with ctrl:=t,box:=[],watchers:=[]}) i {l with bx:=nb,wt:=nw} {p with ctrl:=t,box:=[],watchers:=[]} :=
   ⟨by rw[<-hW1];exact List.getElem?_set_self hil,List.getElem?_set_self (List.getElem?_eq_some_iff.mp x.p).1⟩
  have hq1:∀b∈q.addrs,b∉W1.addrs:=fun b hb z=>by
   rcases hfr b z with z|z
   ·exact ws.dj b hb z
   ·obtain⟨as,xs,e1,_,e2,_⟩:=ws.pr.ex
    simp[QL.addrs] at hb
    rcases hb with rfl|rfl|rfl
    ·rw[ws.pr.ob] at z;cases z
    ·rw[e1] at z;cases z
    ·rw[e2.ob] at z;cases z
  have ws1:WS P w A K H5 hv W1 q (bw s i {p with ctrl:=t,box:=[],watchers:=[]}) :=
   ⟨wa1,ws.Iq x.l hsub cc,by rw[<-hW1];exact ws.po,hq1,Good.set ws.gd x.p rfl rfl⟩
  have en:aB (bw s i {p with ctrl:=t,box:=[],watchers:=[]})=aB s:=nW x.p rfl
  have hwts:=iM (p':={p with ctrl:=t,box:=[],watchers:=[]}) x.p
  have hwp:iK {p with ctrl:=t,box:=[],watchers:=[]}+p.box.length+3*p.watchers.length=iK p:=by simp[iK];omega
  have lwt:l.wt∉W.ls::q.addrs:=by
   intro z
   rcases List.mem_cons.mp z with z|z
   ·exact(ws.wa.own x.l _ mU.2.2.2.2).2.2 z
   ·exact qx ws x.l _ z mU.2.2.2.2
  have hfpl:∀b∈[l.p],b∈fp W q:=fun b hb=>jh x.l b (hsub b hb)
  refine⟨_,rfl,l.wt,rfl,⟨_,bM.of wt5⟩,qO (K:=K) (a:=l.wt) (xs:=r.wv) (fun j σ H6=>∃hv6 o4,σ=[some (.ref W.w),some (.ref l.p),some (.int m),some (.ref l.wt),o4]/\WS P w A K H6 hv6 W1 q (b6 (bw s i {p with ctrl:=t,box:=[],watchers:=[]}) (s.air++(nD p how v).take j))/\hv<+:hv6/\hv6.length<=hv.length+2*j/\Ch (fp W q) H H6/\H6 l.wt=some (.lst r.wv))
   ⟨hv,none,rfl,by simpa [b6,Bp.bw] using ws1,pf,by omega,cc.mono hfpl,wt5⟩ (fun j σ H6 _ ⟨_,_,_,_,_,_,_,h⟩=>bM.of h) ?_ ?_⟩
  ·rintro j y σ H6 hy ⟨hv6,o4,rfl,ws6,hp6,hl6,c6,w6⟩
   obtain⟨nw6,hnw6,hnu⟩:=A1 pa.Ek hy
   have hjl:=(List.getElem?_eq_some_iff.mp hy).1
   have x6:yh W1 (b6 (bw s i {p with ctrl:=t,box:=[],watchers:=[]}) (s.air++(nD p how v).take j)) i {l with bx:=nb,wt:=nw} {p with ctrl:=t,box:=[],watchers:=[]}:=⟨x1.l,x1.p⟩
   obtain⟨r6,pa6⟩:=ws6.wa.at_ i _ _ x6.l x6.p
   have hwx:=oB x.p
   have e2:wt (b6 (bw s i {p with ctrl:=t,box:=[],watchers:=[]}) (s.air++(nD p how v).take j))=wt (bw s i {p with ctrl:=t,box:=[],watchers:=[]})+rP ((nD p how v).take j):=by
    unfold wt b6 Bp.bw
    dsimp only
    rw[Bp.wJ];omega
   have e3:=(AB p how v j).1
   rw[ld] at hjl
   have ob6:=pa6.ob
   have wo6:=ws6.wa.ob
   rw[hW1w] at wo6
   refine⟨_,rfl,W.w,W.dx,_,rfl,by rw[<-hW1] at wo6;exact wo6,zn (by decide +kernel),_,rfl,l.p,_,l.dx,_,_,rfl,ob6,T.ao,T.bH,zl 0 ck rfl rfl,_,rfl,_,rfl,W.w,W.dx,_,rfl,by rw[<-hW1] at wo6;exact wo6,zn (by decide +kernel),_,rfl,?_⟩
   rw[<-hW1w]
   refine⟨hv6,W1,q,_,i,{l with bx:=nb,wt:=nw},{p with ctrl:=t,box:=[],watchers:=[]},how,v,rfl,ws6,x6,?_,by omega,fun H7 hv7 u7 ws7 hp7 hl7 c7 hu7=>?_⟩
   ·rcases he with⟨rfl,_,rfl,rfl⟩|⟨rfl,_,rfl,rfl⟩<;>rfl
   refine⟨hv7,W1,q,_,_,_,_,⟨p.name,nw6,some (Ha09.note p.name how v)⟩,rfl,ws7,⟨i,rfl,by have h9:=xI x6;exact h9⟩,?_,hu7,by omega,fun H8 ws8 c8=>?_⟩
   ·show DV (aB (bw s i {p with ctrl:=t,box:=[],watchers:=[]})) y nw6
    rw[en];exact hnu
   have c68:Ch (W.ls::q.addrs) H6 H8:=(c7.mono fun b hb=>List.mem_cons_of_mem _ hb).trans (c8.mono fun b hb=>by rw[List.mem_singleton.mp hb,hW1ls];exact List.mem_cons_self)
   refine⟨hv7,_,rfl,?_,hp6.trans hp7,by omega,c6.trans (c68.mono fun b hb=>?_),c68.fr _ _ w6 lwt⟩
   ·have e4:(s.air++(nD p how v).take j)++[⟨p.name,nw6,some (Ha09.note p.name how v)⟩]=s.air++(nD p how v).take (j+1):=by
     rw[List.append_assoc]
     congr 1
     have:(nD p how v)[j]?=some ⟨p.name,nw6,some (Ha09.note p.name how v)⟩:=by unfold nD;rw[List.getElem?_map,hnw6];rfl
     rw[List.take_succ,this];rfl
    have:=ws8
    unfold b6 at this ⊢
    dsimp only at this
    rw[e4] at this
    exact this
   ·rcases List.mem_cons.mp hb with rfl|hb
    ·exact List.mem_append.mpr (.inl Bo.2.2)
    ·exact List.mem_append.mpr (.inr hb)
  ·rintro σ H6 ⟨hv6,o4,rfl,ws6,hp6,hl6,c6,w6⟩
   have hlen:(nD p how v).take r.wv.length=nD p how v:=List.take_of_length_le (by unfold nD;rw[List.length_map,ld];exact Nat.le_refl _)
   rw[hlen] at ws6
   have es:b6 (bw s i {p with ctrl:=t,box:=[],watchers:=[]}) (s.air++nD p how v)=aP s i ⟨{p with ctrl:=t,box:=[],watchers:=[]},nD p how v,none⟩:=by
    unfold b6 aP Bp.bw;simp
   rw[es] at ws6
   refine k H6 hv6 W1 ws6 hp6 ?_ c6 ⟨hW1w,by rw[<-hW1],by rw[<-hW1],by rw[<-hW1],?_,hfr⟩
   ·rw[<-es]
    have e2:wt (b6 (bw s i {p with ctrl:=t,box:=[],watchers:=[]}) (s.air++nD p how v))=wt (bw s i {p with ctrl:=t,box:=[],watchers:=[]})+rP (nD p how v):=by
     unfold wt b6 Bp.bw
     dsimp only
     rw[Bp.wJ];omega
    have e3:=(AB p how v 0).2
    have hwx:=oB x.p
    rw[ld] at hl6
    omega
   ·rw[<-hW1]
    show W.pl.map (·.p)<+:(W.pl.set i {l with bx:=nb,wt:=nw}).map (·.p)
    have:(W.pl.set i {l with bx:=nb,wt:=nw}).map (·.p)=W.pl.map (·.p):=by
     apply List.ext_getElem?
     intro j
     rw[List.getElem?_map,List.getElem?_map]
     by_cases z:i=j
     ·subst z;rw[List.getElem?_set_self hil,x.l];rfl
     ·rw[List.getElem?_set_ne z]
    rw[this]
    exact List.prefix_refl _
theorem yB.mode {H:Hp} {hv:Tab} {bz:qX} {r:PV} {box:List Val} {t:Ctrl} (h:yB K H hv bz r box t):∃m:Int,r.md=.int m/\(decide (m=4)||decide (m=5))=(Bs t).isSome:=by
 cases t with
 | eval a e=>exact⟨0,h.1,rfl⟩
 | back v=>exact⟨1,h.1,rfl⟩
 | up v=>exact⟨2,h.1,rfl⟩
 | awaits q b p d e=>exact⟨3,h.1,rfl⟩
 | awaitsTill t q b d e=>exact⟨3,h.1,rfl⟩
 | done v=>exact⟨4,h.1,rfl⟩
 | failed v=>exact⟨5,h.1,rfl⟩
theorem rK (p:Proc):Ha09.ended p=(Bs p.ctrl).map fun x=>Ha09.note p.name x.1 x.2:=by
 unfold Ha09.ended
 cases p.ctrl<;>rfl
theorem Seen.more {lk:V} {box:List Val} {bad:Val->Prop} (h:Seen lk box bad) (v:Val):Seen lk (box++[v]) bad:=by
 obtain⟨n,h1,h2,h3⟩:=h
 refine⟨n,h1,by simp;omega,fun j x hj hx=>h3 j x hj ?_⟩
 rw[List.getElem?_append_left (by omega)] at hx
 exact hx
theorem yB.more {H:Hp} {hv:Tab} {bz:qX} {r:PV} {box:List Val} {t:Ctrl} (h:yB K H hv bz r box t) (v:Val):yB K H hv bz r (box++[v]) t:=by
 cases t with
 | awaits q b p d e=>exact⟨h.1,h.2.1,h.2.2.more v⟩
 | awaitsTill t q b d e=>exact⟨h.1,h.2.1,h.2.2.more v⟩
 | _=>exact h
inductive zH (P:Program) (w:World) (A:Ad) (K:PySem.W.Frag) (vs:List V) (H:Hp) (Q:VK):Prop|mk (hv:Tab) (W:WL) (s:Ha09.St) (i:Nat) (l:PL):vs=[.ref W.w,.int ((i+1:Nat):Int)]->rO A.aj A.aR K H hv W s->W.pl[i]?=some l->Q (.ref l.p) H->zH P w A K vs H Q
def Fu (P:Program) (w:World) (A:Ad) (K:PySem.W.Frag):Sp:=fun vs H Q _=>zH P w A K vs H Q
theorem cp (T:Tx w K mg A D):aS P w K mg base eV 1 A.dg D.dk ["self","number"] (Fu P w A K):=by
 refine T.nh.ok rQ (fun vs H Q E h=>?_) (fun cdv A' outer s0 H vs Q E hr h=>?_)
 ·obtain⟨hv,W,s,i,l,rfl,_⟩:=h;rfl
 ·obtain⟨hv,W,s,i,l,rfl,wa,hl,k⟩:=h
  refine⟨_,(ak (aF (aK bI (az (pv 0) rfl) (eT tj (pv 1) aq) (fun _ _=>rfl)))),?_⟩
  exact⟨_,rfl,W.w,_,W.dx,_,_,rfl,wa.ob,T.aL,T.bg,zl 1 mr rfl rfl,_,rfl,_,_,rfl,rfl,W.ps,_,_,_,rfl,rfl,bM.of wa.ps,at_of (j:=i) (by omega) (by rw[List.getElem?_map,hl];rfl),k⟩
inductive Eh (P:Program) (w:World) (A:Ad) (K:PySem.W.Frag) (vs:List V) (H:Hp) (Q:VK):Prop|mk (hv:Tab) (W:WL) (q:QL) (s:Ha09.St) (i:Nat) (l:PL) (p:Proc) (fv:V) (fn:List Nat):vs=[.ref W.w,.ref l.p,fv]->WS P w A K H hv W q s->yh W s i l p->DV (aB s) fv fn->hv.length+wt s<=15100000->jg P w A K H hv W q s (Ha09.arrives s ⟨fn,p.name,none⟩) 3 (Q .bo)->Eh P w A K vs H Q
def Jt (P:Program) (w:World) (A:Ad) (K:PySem.W.Frag):Sp:=fun vs H Q _=>Eh P w A K vs H Q
theorem p3 (T:Tx w K mg A D):aS P w K mg base eV 3 A.cw D.cG ["self","watched","watcher"] (Jt P w A K):=by
 refine T.kF.ok pY (fun vs H Q E h=>?_) (fun cdv A' outer s0 H vs Q E hr h=>?_)
 ·obtain⟨hv,W,q,s,i,l,p,fv,fn,rfl,_⟩:=h;rfl
 ·obtain⟨hv,W,q,s,i,l,p,fv,fn,rfl,ws,x,hfn,hb,k⟩:=h
  refine⟨_,(ak (aW (fW (gf (pv 1) T.ao T.eZ (gg T) (hr.mono (by decide)) T.fh .nil aJ)) (ak (aI (aG (pv 0) T.aL T.j4 (jV T) (hr.mono (by decide)) T.j7 .nil aJ (aa (az (pv 1) rfl) (aa (pv 2) (aa (aG (pv 0) T.aL T.jk (lQ T) (hr.mono (by decide)) T.jK .nil aJ (aa (pv 1) ag)) ag)))))) (ak (aI (dO PySem.F.plainAttrs_list PySem.F.slot_list_append PySem.F.type_list_append bJ (az (pv 1) rfl) (aa (pv 2) ag)))))),?_⟩
  obtain⟨r,pa⟩:=ws.wa.at_ i l p x.l x.p
  obtain⟨la,lb,lc,ld⟩:=pa.len
  obtain⟨m,hmd,hme⟩:=pa.ct.mode
  have pf:=List.prefix_refl hv
  have pn:=List.prefix_refl (aB s)
  have nd:=ws.wa.FP x.l
  obtain⟨⟨n1,n2,n3,n4⟩,⟨m1,m2,m3⟩,⟨o1,o2⟩,p1⟩:=PL.DB nd
  have hpo:=Bp.u9 ws.gd.nd x.p
  refine⟨_,rfl,l.p,l.dx,_,rfl,pa.ob,zn (by decide +kernel),l.p,l.dx,r.fs (i+1) p.born l,m,rfl,⟨pa.ob,rfl⟩,by show some r.md=_;rw[hmd],_,rfl,?_⟩
  rw[hme]
  have hwx:=oB x.p
  cases hh:Bs p.ctrl with
  | some y =>
   obtain⟨how,v⟩:=y
   refine oY ?_
   have ear:Ha09.arrives s ⟨fn,p.name,none⟩=b6 s (s.air++[⟨p.name,fn,some (Ha09.note p.name how v)⟩]):=by
    unfold Ha09.arrives
    rw[hpo];dsimp only;rw[rK,hh];rfl
   refine⟨_,rfl,W.w,W.dx,_,rfl,ws.wa.ob,zn (by decide +kernel),_,rfl,l.p,_,l.dx,_,_,rfl,pa.ob,T.ao,T.bH,zl 0 ck rfl rfl,_,rfl,_,rfl,W.w,W.dx,_,rfl,ws.wa.ob,zn (by decide +kernel),_,rfl,hv,W,q,s,i,l,p,how,v,rfl,ws,x,hh,by omega,fun H1 hv1 u1 ws1 hp1 hl1 c1 hu1=>?_⟩
   refine⟨hv1,W,q,s,_,_,_,⟨p.name,fn,some (Ha09.note p.name how v)⟩,rfl,ws1,⟨i,rfl,xI x⟩,hfn,hu1,by omega,fun H2 ws2 c2=>?_⟩
   refine k H2 hv1 W (by rw[ear];exact ws2) hp1 ?_ ((c1.mono fun b hb=>List.mem_append.mpr (.inr hb)).trans (c2.mono fun b hb=>by rw[List.mem_singleton.mp hb];exact List.mem_append.mpr (.inl Bo.2.2))) (Ext.refl _ _)
   rw[ear]
   have e2:wt (b6 s (s.air++[⟨p.name,fn,some (Ha09.note p.name how v)⟩]))=wt s+1:=by
    unfold wt b6
    dsimp only
    rw[Bp.wJ];simp[rP,zP];omega
   omega
  | none =>
   refine mw ?_
   have ear:Ha09.arrives s ⟨fn,p.name,none⟩=bw s i {p with watchers:=p.watchers++[fn]}:=by
    unfold Ha09.arrives
    rw[hpo];dsimp only;rw[rK,hh]
    exact Bp.sU ws.gd.nd x.p rfl
   refine⟨_,rfl,l.p,_,l.dx,_,_,rfl,pa.ob,T.ao,T.bQ,zl 12 ck rfl rfl,.inl ⟨rfl,_,bM.of pa.wt⟩,_,rfl,l.wt,_,_,rfl,rfl,pa.wt,by rw[ld];simp only[iK] at hwx;rw[sizeLine_eq];omega,?_⟩
   have c1:Ch [l.wt] H (upd H l.wt (.lst (r.wv++[fv]))):=Ch.put pa.wt trivial (by simp)
   have g1:(upd H l.wt (.lst (r.wv++[fv]))) l.wt=some (.lst (r.wv++[fv])):=ae
   generalize upd H l.wt _=H1 at c1 g1 ⊢
   have sub:∀b∈[l.wt],b∈l.addrs:=by simp[PL.addrs]
   refine k H1 hv W ?_ pf ?_ (c1.mono fun b hb=>jh x.l b (sub b hb)) (Ext.refl _ _)
   ·rw[ear]
    refine ws.bw x.l x.p rfl rfl pf c1 (fun b hb=>.inl (sub b hb)) (ws.Iq x.l sub c1) (r:={r with wv:=r.wv++[fv]}) ⟨c1.fr _ _ pa.ob (by simp[n4]),yR.mono c1 pa.nm,yB.mono c1 pf pn pa.ct,c1.fr _ _ pa.td (by simp[m3]),Paired.bL pa.yC fun _ _ z=>B5.mono c1 pf pn z,c1.fr _ _ pa.bx (by simp[o2]),Paired.bL pa.Dc fun _ _ z=>VR.mono c1 pf pn z,c1.fr _ _ pa.sd (by simp[p1]),Paired.bL pa.EG fun _ _ z=>VR.mono c1 pf pn z,g1,Paired.snoc pa.Ek hfn⟩
   ·rw[ear]
    have:=iM (p':={p with watchers:=p.watchers++[fn]}) x.p
    have e6:iK {p with watchers:=p.watchers++[fn]}=iK p+3:=by simp[iK];omega
    omega
inductive zJ (P:Program) (w:World) (A:Ad) (K:PySem.W.Frag) (vs:List V) (H:Hp) (Q:VK):Prop|mk (hv:Tab) (W:WL) (q:QL) (s:Ha09.St) (lv:V) (l:Letter):vs=[.ref W.w,lv]->WS P w A K H hv W q s->yi H hv (aB s) lv l->hv.length+wt s<=15100000->jg P w A K H hv W q s (Ha09.arrives s l) (zP l) (Q .bo)->zJ P w A K vs H Q
def FC (P:Program) (w:World) (A:Ad) (K:PySem.W.Frag):Sp:=fun vs H Q _=>zJ P w A K vs H Q
theorem pJ (T:Tx w K mg A D):aS P w K mg base eV 4 A.fy D.fL ["self","letter"] (FC P w A K):=by
 refine T.sN.ok pG (fun vs H Q E h=>?_) (fun cdv A' outer s0 H vs Q E hr h=>?_)
 ·obtain⟨hv,W,q,s,lv,l,rfl,_⟩:=h;rfl
 ·obtain⟨hv,W,q,s,lv,L,rfl,ws,⟨a,sv,rv,wv,rfl,ha,hsv,hrv,hwv⟩,hb,k⟩:=h
  refine⟨_,(ah (aX (i:=2) pG.nd rfl (Or.inl rfl) (aG (pv 0) T.aL T.b9 (cp T) (hr.mono (by decide)) T.cb .nil aJ (aa (aK aH (pv 1) aq (fun _ _=>rfl)) ag)))
   (ak (aW (aO (sZ (aK aH (pv 1) aq (fun _ _=>rfl)))) (ak (aI (aG (pv 0) T.aL T.kx (p3 T) (hr.mono (by decide)) T.kz .nil aJ (aa (pv 2) (aa (aK aH (pv 1) aq (fun _ _=>rfl)) ag))))) (ak (aW (nq (fW (gf (pv 2) T.ao T.eZ (gg T) (hr.mono (by decide)) T.fh .nil aJ))) (ak (aI (dO PySem.F.plainAttrs_list PySem.F.slot_list_append PySem.F.type_list_append bJ (az (pv 2) rfl) (aa (aK aH (pv 1) aq (fun _ _=>rfl)) ag)))) aT))))),?_⟩
  obtain⟨i,rfl,hi⟩:=hrv
  obtain⟨p,hp,hpn⟩:∃p,s.procs[i]?=some p/\p.name=L.to_:=by
   unfold aB at hi
   rw[List.getElem?_map] at hi
   obtain⟨p,h1,h2⟩:=Option.map_eq_some_iff.mp hi
   exact⟨p,h1,h2⟩
  have hlt:=(List.getElem?_eq_some_iff.mp hp).1
  rw[<-ws.wa.len] at hlt
  obtain⟨l,hl⟩:∃l,W.pl[i]?=some l:=⟨_,List.getElem?_eq_getElem hlt⟩
  have x:yh W s i l p:=⟨hl,hp⟩
  have pf:=List.prefix_refl hv
  have pn:=List.prefix_refl (aB s)
  obtain⟨r,pa⟩:=ws.wa.at_ i l p x.l x.p
  obtain⟨la,lb,lc,ld⟩:=pa.len
  have hwx:=oB x.p
  have nd:=ws.wa.FP x.l
  obtain⟨⟨n1,n2,n3,n4⟩,⟨m1,m2,m3⟩,⟨o1,o2⟩,p1⟩:=PL.DB nd
  have hpo:=Bp.u9 ws.gd.nd x.p
  rw[hpn] at hpo
  refine⟨_,rfl,W.w,W.dx,_,rfl,ws.wa.ob,zn (by decide +kernel),_,rfl,a,_,_,_,rfl,rfl,dM.of ha,tO,hv,W,s,i,l,rfl,ws.wa,hl,?_⟩
  refine⟨_,rfl,a,_,_,_,rfl,rfl,dM.of ha,at2,_,rfl,?_⟩
  obtain⟨fr,to,what⟩:=L
  dsimp only at hpn hpo hsv hwv
  subst hpn
  cases what with
  | none =>
   cases (show wv=.bo from hwv)
   refine dT rfl ⟨_,rfl,W.w,W.dx,_,rfl,ws.wa.ob,zn (by decide +kernel),_,rfl,_,rfl,a,_,_,_,rfl,rfl,dM.of ha,eR,hv,W,q,s,i,l,p,sv,fr,rfl,ws,x,hsv,hb,k⟩
  | some v =>
   obtain⟨mv,⟨av,rfl,hav⟩,dm⟩:=id hwv
   refine dF (by simp) ?_
   obtain⟨m,hmd,hme⟩:=pa.ct.mode
   refine⟨_,rfl,l.p,l.dx,_,rfl,pa.ob,zn (by decide +kernel),l.p,l.dx,r.fs (i+1) p.born l,m,rfl,⟨pa.ob,rfl⟩,by show some r.md=_;rw[hmd],_,rfl,?_⟩
   rw[hme]
   cases hh:Bs p.ctrl with
   | some y =>
    refine mw ?_
    have ear:Ha09.arrives s ⟨fr,p.name,some v⟩=s:=by
     unfold Ha09.arrives
     rw[hpo];dsimp only;rw[rK,hh];rfl
    exact k H hv W (by rw[ear];exact ws) pf (by rw[ear];omega) (Ch.refl _ _) (Ext.refl _ _)
   | none =>
    refine oY ?_
    have ear:Ha09.arrives s ⟨fr,p.name,some v⟩=bw s i {p with box:=p.box++[v]}:=by
     unfold Ha09.arrives
     rw[hpo];dsimp only;rw[rK,hh]
     exact Bp.sU ws.gd.nd x.p rfl
    refine⟨_,rfl,l.p,_,l.dx,_,_,rfl,pa.ob,T.ao,T.bW,zl 9 ck rfl rfl,.inl ⟨rfl,_,bM.of pa.bx⟩,_,rfl,a,_,_,_,rfl,rfl,dM.of ha,at2,l.bx,_,_,rfl,rfl,pa.bx,by rw[lb];simp only[iK] at hwx;rw[sizeLine_eq];omega,?_⟩
    have c1:Ch [l.bx] H (upd H l.bx (.lst (r.bv++[.ref av]))):=Ch.put pa.bx trivial (by simp)
    have g1:(upd H l.bx (.lst (r.bv++[.ref av]))) l.bx=some (.lst (r.bv++[.ref av])):=ae
    generalize upd H l.bx _=H1 at c1 g1 ⊢
    have sub:∀b∈[l.bx],b∈l.addrs:=by simp[PL.addrs]
    refine k H1 hv W ?_ pf ?_ (c1.mono fun b hb=>jh x.l b (sub b hb)) (Ext.refl _ _)
    ·rw[ear]
     refine ws.bw x.l x.p rfl rfl pf c1 (fun b hb=>.inl (sub b hb)) (ws.Iq x.l sub c1) (r:={r with bv:=r.bv++[.ref av]}) ⟨c1.fr _ _ pa.ob (by simp[n2]),yR.mono c1 pa.nm,(yB.mono c1 pf pn pa.ct).more v,c1.fr _ _ pa.td (by simp[m1]),Paired.bL pa.yC fun _ _ z=>B5.mono c1 pf pn z,g1,Paired.snoc (Paired.bL pa.Dc fun _ _ z=>VR.mono c1 pf pn z) ⟨mv,⟨av,rfl,c1.tu _ _ hav⟩,dm⟩,c1.fr _ _ pa.sd (by simp[o1.symm]),Paired.bL pa.EG fun _ _ z=>VR.mono c1 pf pn z,c1.fr _ _ pa.wt (by simp[o2.symm]),pa.Ek⟩
    ·rw[ear]
     have:=iM (p':={p with box:=p.box++[v]}) x.p
     have e6:iK {p with box:=p.box++[v]}=iK p+1:=by simp[iK];omega
     simp only[zP]
     omega
structure IS (P:Program) (w:World) (A:Ad) (K:PySem.W.Frag) (H:Hp) (hv:Tab) (W:WL) (q:QL) (s:Ha09.St) (i:Nat) (l:PL) (p:Proc) (v:Val) (fq:wI) (tv:V) (f:Ha09.Frame):Prop where
 ws:WS P w A K H hv W q s
 x:yh W s i l p
 c:p.ctrl=.back v
 fr:FrA K H hv (aB s) fq tv f
 b:hv.length+wt s<=15000000
abbrev after (s:Ha09.St) (i:Nat) (p:Proc) (v:Val) (f:Ha09.Frame):Ha09.St:=aP s i (Ha09.returns s.program {p with frames:=f::p.frames} v)
inductive IP (P:Program) (w:World) (A:Ad) (K:PySem.W.Frag) (cond:wI->Prop) (vs:List V) (H:Hp) (Q:VK):Prop|mk (hv:Tab) (W:WL) (q:QL) (s:Ha09.St) (i:Nat) (l:PL) (p:Proc) (v:Val) (fq:wI) (tv:V) (f:Ha09.Frame):vs=[.ref W.w,.ref l.p,tv]->IS P w A K H hv W q s i l p v fq tv f->cond fq->jg P w A K H hv W q s (after s i p v f) 3 (Q .bo)->IP P w A K cond vs H Q
def xf (P:Program) (w:World) (A:Ad) (K:PySem.W.Frag) (cond:wI->Prop):Sp:=fun vs H Q _=>IP P w A K cond vs H Q
theorem jC {H H1:Hp} {hv hv1:Tab} {W:WL} {q:QL} {s:Ha09.St} {i:Nat} {l:PL} {p:Proc} {r1 r':PV} {t:Ctrl} {o:Ha09.Out} {kq:Hp->Prop} (k:jg P w A K H hv W q s (aP s i o) 3 kq) (ho:o=Ha09.quiet {p with ctrl:=t}) (ws1:WS P w A K H1 hv1 W q s) (x:yh W s i l p)
  (pa1:ji K H1 hv1 (aB s) A.aj (i+1) l p r1) (hp:hv<+:hv1) (hl:hv1.length<=hv.length+2) (c:Ch (fp W q) H H1) (e1:r'.nm=r1.nm) (e2:r'.ws=r1.ws) (e3:r'.bv=r1.bv) (e4:r'.sv=r1.sv) (e5:r'.wv=r1.wv) (ct:yB K H1 hv1 (aB s) r' p.box t) :
  kq (upd H1 l.p (.ins A.aj l.dx (PN.zip (r'.fs (i+1) p.born l)))):=by
 subst ho
 rw[dv] at k
 refine k _ hv1 W (ws1.Az x pa1 e1 e2 e3 e4 e5 ct) hp ?_ (c.trans (Ch.put pa1.ob trivial (jh x.l _ mU.1))) (Ext.refl _ _)
 have:=iM (p':={p with ctrl:=t}) x.p
 have e6:iK {p with ctrl:=t}=iK p:=rfl
 omega
theorem IE {H:Hp} {hv:Tab} {bz:qX} {uv vv:V} {v:Val} {e:List Val} (hval:VR H hv bz uv v) (hvv:Fd H hv bz vv e) (hz:e.length<=1000) {Qk:VK} (k:∀H' u,Ch [] H H'->Fd H' hv bz u (v::e)->Qk u H') :
  ∀p,H p=none->Ip K (.ref p) vv (upd H p (.tup [uv])) Qk:=by
 intro p hp
 obtain⟨a,us,rfl,ha,rel⟩:=hvv
 have c1:Ch [] H (upd H p (.tup [uv])):=Ch.new hp
 have g1:(upd H p (.tup [uv])) p=some (.tup [uv]):=ae
 have hl:us.length=e.length:=rel.length
 have pf:=List.prefix_refl hv
 have pn:=List.prefix_refl bz
 generalize upd H p _=H1 at c1 g1 ⊢
 refine⟨p,a,[uv],us,rfl,rfl,dM.of g1,dM.of (c1.tu _ _ ha),by simp,by simp only[List.length_singleton];rw[sizeLine_eq];omega,fun hnil=>?_,fun hne p2 hp2=>?_⟩
 ·subst hnil
  have:e=[]:=List.eq_nil_of_length_eq_zero (by rw[<-hl];rfl)
  subst this
  exact k H1 _ c1 ⟨p,[uv],rfl,g1,.cons (hval.mono c1 pf pn) .nil⟩
 ·have c2:Ch [] H1 (upd H1 p2 (.tup ([uv]++us))):=Ch.new hp2
  have c12:=c1.trans c2
  exact k _ _ c12 ⟨p2,uv::us,rfl,ae,.cons (hval.mono c12 pf pn) (Paired.bL rel fun _ _ z=>z.mono c12 pf pn)⟩
inductive GD (q:wI):Prop|mk (y:_) (z:_) (a:_):q.ex=.pair y z->q.first=some a->GD q
theorem CG (T:Tx w K mg A D):aS P w K mg base eV 2 A.jc D.oo ["world","process","thing"] (xf P w A K GD):=by
 refine T.yx.ok Cr (fun vs H Q E h=>?_) (fun cdv A' outer s0 H vs Q E hr h=>?_)
 ·obtain⟨hv,W,q,s,i,l,p,v,fq,tv,f,rfl,_⟩:=h;rfl
 ·obtain⟨hv,W,q,s,i,l,p,v,fq,tv,f,rfl,d,⟨y,z,a,hex,hfi⟩,k⟩:=h
  refine⟨_,(ak (aI (aG (pv 1) T.ao T.bB (bu T) (hr.mono (by decide)) T.bD .nil aJ (aa (aG (az (pv 0) rfl) T.kPairs T.mR (ny T) (hr.mono (by decide)) T.m8 .nil aJ (aa (aK aH (pv 2) aq (fun _ _=>rfl)) (aa (az (pv 1) rfl) ag))) ag)))),?_⟩
  obtain⟨r,pa⟩:=d.ws.wa.at_ i l p d.x.l d.x.p
  have ct:=pa.ct
  rw[d.c] at ct
  obtain⟨hmd,m2,va2,d2'⟩:=ct
  have fo:=d.fr.fo
  rw[hex,hfi] at fo
  obtain rfl:Ha09.Frame.pairR a=f:=Option.some.inj fo
  have hfs:=d.fr.fs
  rw[hfi] at hfs
  obtain⟨m1,va1,d1⟩:=hfs
  have hb:=d.b
  rw[d.fr.rf]
  refine⟨_,rfl,l.p,l.dx,_,rfl,pa.ob,zn (by decide +kernel),_,rfl,W.w,_,W.dx,_,_,rfl,d.ws.wa.ob,T.aL,T.bV,zl 4 mr rfl rfl,?_⟩
  rw[d.ws.po]
  refine⟨q.o,q.dx,_,rfl,d.ws.pr.ob,zn (by decide +kernel),_,rfl,fq.a,_,_,_,rfl,rfl,dM.of d.fr.ob,at2,_,rfl,l.p,_,l.dx,_,_,rfl,pa.ob,T.ao,T.aQ,zl 5 ck rfl rfl,q,hv,_,_,m1,m2,rfl,d.ws.pr,va1,va2,by omega,fun H1 hv1 v1 i1 pr1 hp1 hl1 c1 va hi1=>?_⟩
  have c1':Ch q.addrs H H1:=c1.mono (by simp[QL.addrs])
  have ws1:WS P w A K H1 hv1 W q s:=d.ws.pairs hp1 c1' (fun _ h=>h) pr1
  have pn:=List.prefix_refl (aB s)
  have pa1:=ji.mono c1' hp1 pn (fun b hb hq=>qx d.ws d.x.l b hq hb) pa
  refine⟨l.p,l.dx,_,_,rfl,⟨pa1.ob,rfl⟩,?_⟩
  exact jC k rfl ws1 d.x pa1 hp1 (by omega) (c1'.mono fun b hb=>List.mem_append.mpr (.inr hb)) (r':={r with md:=.int 1,vl:=v1}) rfl rfl rfl rfl rfl ⟨rfl,.two i1,va,.two hi1 (d1.mono hp1 pn) (d2'.mono hp1 pn)⟩
inductive GB (q:wI):Prop|mk (k:_) (y:_) (z:_) (a:_):q.ex=.op k y z->q.first=some a->GB q
theorem wD (T:Tx w K mg A D):aS P w K mg base eV 4 A.cZ D.fK ["world","process","thing"] (xf P w A K GB):=by
 refine T.nR.ok pF (fun vs H Q E h=>?_) (fun cdv A' outer s0 H vs Q E hr h=>?_)
 ·obtain⟨hv,W,q,s,i,l,p,v,fq,tv,f,rfl,_⟩:=h;rfl
 ·obtain⟨hv,W,q,s,i,l,p,v,fq,tv,f,rfl,d,⟨kk,y,z,a,hex,hfi⟩,k⟩:=h
  refine⟨_,(ah (aX (i:=3) pF.nd rfl (Or.inl rfl) (aV (A9 T) (hr.mono (by decide)) rfl T.zd T.vq.kp T.zq .nil aJ (aa (az (pv 0) rfl) (aa (aK aH (aK aH (pv 2) aq (fun _ _=>rfl)) aq (fun _ _=>rfl)) (aa (aK aH (pv 2) aq (fun _ _=>rfl)) (aa (az (pv 1) rfl) ag))))))
   (ak (aW (aO (sZ (pv 3))) (ak (aI (aV (hJ T) (hr.mono (by decide)) rfl T.jl T.iI.kp T.jJ .nil aJ (aa (pv 1) ag)))) (ak (aI (aG (pv 1) T.ao T.bB (bu T) (hr.mono (by decide)) T.bD .nil aJ (aa (pv 3) ag))))))),?_⟩
  obtain⟨r,pa⟩:=d.ws.wa.at_ i l p d.x.l d.x.p
  have ct:=pa.ct
  rw[d.c] at ct
  have fo:=d.fr.fo
  rw[hex,hfi] at fo
  obtain rfl:Ha09.Frame.opR kk a=f:=Option.some.inj fo
  have hfs:=d.fr.fs
  rw[hfi] at hfs
  have ne:=d.fr.ne
  rw[hex] at ne
  obtain⟨an,us,hnd,tp,ts0⟩:=ne.n.1.tup
  obtain⟨u0,r0,rfl,t0,ts1⟩:=ts0.inv
  obtain rfl:=t0.int
  obtain⟨u1,r1,rfl,t1,ts2⟩:=ts1.inv
  obtain rfl:=t1.int
  have ok:=ne.n.2
  have pf:=List.prefix_refl hv
  have pn:=List.prefix_refl (aB s)
  have hob:=d.fr.ob
  rw[hnd] at hob
  rw[d.fr.rf]
  refine⟨_,rfl,W.w,_,W.dx,_,_,rfl,d.ws.wa.ob,T.aL,T.bV,zl 4 mr rfl rfl,_,rfl,fq.a,_,_,_,rfl,rfl,dM.of hob,eR,an,_,_,_,rfl,rfl,tp.sq,tO,_,rfl,fq.a,_,_,_,rfl,rfl,dM.of hob,at2,_,rfl,l.p,_,l.dx,_,_,rfl,pa.ob,T.ao,T.aQ,zl 5 ck rfl rfl,?_⟩
  rw[d.ws.po]
  refine⟨q,hv,aB s,kk,_,_,a,v,rfl,d.ws.pr,d.ws.gd.nd,ok.1,hfs,ct.2,fun rr hop H1 u1 c1 hu1=>?_,fun rr hop=>?_⟩
  ·obtain⟨mm,⟨au,rfl,_⟩,_⟩:=id hu1
   have pa1:=ji.mono c1 pf pn (by simp) pa
   refine⟨_,rfl,_,rfl,dF (by simp) ⟨_,rfl,l.p,l.dx,_,rfl,pa1.ob,zn (by decide +kernel),_,rfl,l.p,l.dx,_,_,rfl,⟨pa1.ob,rfl⟩,?_⟩⟩
   refine jC k ?_ (d.ws.news c1) d.x pa1 pf (by omega) (c1.mono (by simp)) (t:=.back rr) (r':={r with md:=.int 1,vl:=.ref au}) rfl rfl rfl rfl rfl ⟨rfl,hu1⟩
   show Ha09.quiet (match Ha09.operate kk a v with|.ok w=>_|.error w=>_)=_
   rw[hop]
  ·refine⟨_,rfl,_,rfl,dT rfl ⟨_,rfl,l.p,l.dx,_,rfl,⟨pa.ob,rfl⟩,fun n hn=>?_⟩⟩
   have c1:Ch [] H (upd H n (.tup [.int 0,.int 101])):=Ch.new hn
   have hbad:rr=Ha09.BAD:=by
    unfold Ha09.operate at hop
    split at hop<;>first|(cases hop;done)|(exact(Except.error.inj hop).symm)
   subst hbad
   refine jC k ?_ (d.ws.news c1) d.x (ji.mono c1 pf pn (by simp) pa) pf (by omega) (c1.mono (by simp)) (t:=.up Ha09.BAD) (r':={r with md:=.int 2,vl:=.ref n}) rfl rfl rfl rfl rfl ⟨rfl,.num ae (by unfold AA;omega)⟩
   show Ha09.quiet (match Ha09.operate kk a v with|.ok w=>_|.error w=>_)=_
   rw[hop]
inductive JT (q:wI):Prop|mk (y:_) (z:_):q.ex=.let_ y z->q.first=none->JT q
theorem ER (T:Tx w K mg A D):aS P w K mg base eV 2 A.k7 D.rM ["world","process","thing"] (xf P w A K JT):=by
 refine T.Ay.ok EI (fun vs H Q E h=>?_) (fun cdv A' outer s0 H vs Q E hr h=>?_)
 ·obtain⟨hv,W,q,s,i,l,p,v,fq,tv,f,rfl,_⟩:=h;rfl
 ·obtain⟨hv,W,q,s,i,l,p,v,fq,tv,f,rfl,d,⟨y,z,hex,hfi⟩,k⟩:=h
  refine⟨_,(ak (aI (aG (pv 1) T.ao T.bA (bt T) (hr.mono (by decide)) T.bC .nil aJ (aa (aK aH (aK aH (pv 2) aq (fun _ _=>rfl)) aq (fun _ _=>rfl)) (aa (eT wN (bR (aa (az (pv 1) rfl) ag)) (aK aH (pv 2) aq (fun _ _=>rfl))) ag))))),?_⟩
  obtain⟨r,pa⟩:=d.ws.wa.at_ i l p d.x.l d.x.p
  have ct:=pa.ct
  rw[d.c] at ct
  have fo:=d.fr.fo
  rw[hex,hfi] at fo
  obtain rfl:Ha09.Frame.let_ z fq.env=f:=Option.some.inj fo
  have ne:=d.fr.ne
  rw[hex] at ne
  obtain⟨an,us,hnd,tp,ts0⟩:=ne.n.1.tup
  obtain⟨u0,r0,rfl,t0,ts1⟩:=ts0.inv
  obtain rfl:=t0.int
  obtain⟨u1,r1,rfl,t1,ts2⟩:=ts1.inv
  obtain⟨u2,r2,rfl,t2,ts3⟩:=ts2.inv
  have ok:=ne.n.2
  have hz:=ne.z
  simp only[b7] at hz
  have pf:=List.prefix_refl hv
  have pn:=List.prefix_refl (aB s)
  have hob:=d.fr.ob
  rw[hnd] at hob
  rw[d.fr.rf]
  refine⟨_,rfl,l.p,l.dx,_,rfl,pa.ob,zn (by decide +kernel),_,rfl,fq.a,_,_,_,rfl,rfl,dM.of hob,eR,an,_,_,_,rfl,rfl,tp.sq,at2,_,rfl,l.p,_,l.dx,_,_,rfl,pa.ob,T.ao,T.aQ,zl 5 ck rfl rfl,by show 1<=sizeLine;decide,fun n hn=>?_⟩
  refine⟨_,rfl,fq.a,_,_,_,rfl,rfl,dM.of ((Ch.new (ex:=[]) hn).tu _ _ hob),tO,?_⟩
  refine IE ct.2 ne.v (by omega) (fun H1 uu c1 hu=>?_) n hn
  have pa1:=ji.mono c1 pf pn (by simp) pa
  refine⟨l.p,l.dx,r.fs (i+1) p.born l,_,_,rfl,⟨pa1.ob,rfl⟩,?_⟩
  exact jC k rfl (d.ws.news c1) d.x pa1 pf (by omega) (c1.mono (by simp)) (t:=.eval z (v::fq.env)) (r':={r with md:=.int 0,nd:=u2,vr:=uu}) rfl rfl rfl rfl rfl ⟨rfl,⟨t2.mono c1,ok.2⟩,hu,by simp only[List.length_cons];omega⟩
inductive Av (q:wI):Prop|mk (y:_) (pp:_) (z:_) (c:_):q.ex=.case y pp z c->q.first=none->Av q
theorem Ae (T:Tx w K mg A D):aS P w K mg base eV 3 A.e9 D.jF ["world","process","thing"] (xf P w A K Av):=by
 refine T.tS.ok oG (fun vs H Q E h=>?_) (fun cdv A' outer s0 H vs Q E hr h=>?_)
 ·obtain⟨hv,W,q,s,i,l,p,v,fq,tv,f,rfl,_⟩:=h;rfl
 ·obtain⟨hv,W,q,s,i,l,p,v,fq,tv,f,rfl,d,⟨y,pp,z,c,hex,hfi⟩,k⟩:=h
  refine⟨_,(ah (aX (i:=3) oG.nd rfl (Or.inl rfl) (aK aH (pv 2) aq (fun _ _=>rfl)))
   (ah (aX (i:=4) oG.nd rfl (Or.inl rfl) (aV (ui T) (hr.mono (by decide)) rfl T.tF T.px.kp T.tJ .nil aJ (aa (az (pv 0) rfl) (aa (aK aH (pv 3) aq (fun _ _=>rfl)) (aa (az (pv 1) rfl) (aa (aK aH (pv 2) aq (fun _ _=>rfl)) ag))))))
   (ak (aW (aO (sZ (pv 4))) (ak (aI (aG (pv 1) T.ao T.bA (bt T) (hr.mono (by decide)) T.bC .nil aJ (aa (aK aH (pv 3) aq (fun _ _=>rfl)) (aa (aK aH (pv 2) aq (fun _ _=>rfl)) ag))))) (ak (aI (aG (pv 1) T.ao T.bA (bt T) (hr.mono (by decide)) T.bC .nil aJ (aa (aK aH (pv 3) aq (fun _ _=>rfl)) (aa (pv 4) ag))))))))),?_⟩
  obtain⟨r,pa⟩:=d.ws.wa.at_ i l p d.x.l d.x.p
  have ct:=pa.ct
  rw[d.c] at ct
  have fo:=d.fr.fo
  rw[hex,hfi] at fo
  obtain rfl:Ha09.Frame.case pp z c fq.env=f:=Option.some.inj fo
  have ne:=d.fr.ne
  rw[hex] at ne
  obtain⟨an,us,hnd,tp,ts0⟩:=ne.n.1.tup
  obtain⟨u0,r0,rfl,t0,ts1⟩:=ts0.inv
  obtain rfl:=t0.int
  obtain⟨u1,r1,rfl,t1,ts2⟩:=ts1.inv
  obtain⟨u2,r2,rfl,t2,ts3⟩:=ts2.inv
  obtain⟨u3,r3,rfl,t3,ts4⟩:=ts3.inv
  obtain⟨u4,r4,rfl,t4,ts5⟩:=ts4.inv
  obtain⟨ES,ok2,ok3,ok4⟩:=ne.n.2
  have hz:=ne.z
  simp only[b7] at hz
  have pf:=List.prefix_refl hv
  have pn:=List.prefix_refl (aB s)
  have hob:=d.fr.ob
  rw[hnd] at hob
  rw[d.fr.rf]
  refine⟨_,rfl,fq.a,_,_,_,rfl,rfl,dM.of hob,eR,?_⟩
  refine⟨_,rfl,W.w,_,W.dx,_,_,rfl,d.ws.wa.ob,T.aL,T.bV,zl 4 mr rfl rfl,_,rfl,an,_,_,_,rfl,rfl,tp.sq,at2,_,rfl,l.p,_,l.dx,_,_,rfl,pa.ob,T.ao,T.aQ,zl 5 ck rfl rfl,_,rfl,fq.a,_,_,_,rfl,rfl,dM.of hob,tO,?_⟩
  rw[d.ws.po]
  refine⟨q,hv,aB s,_,_,_,pp,v,fq.env,rfl,d.ws.pr,d.ws.gd.nd,ok2,by omega,t2,ct.2,ne.v,fun g hm H1 uu c1 hu=>?_,fun hm H1 c1=>?_⟩
  ·have pa1:=ji.mono c1 pf pn (by simp) pa
   obtain⟨au,gl,rfl,_,_⟩:=id hu
   have hml:=mP _ _ _ _ hm
   have tp1:=tp.mono c1
   refine⟨_,rfl,_,rfl,dF (by simp) ⟨_,rfl,l.p,l.dx,_,rfl,pa1.ob,zn (by decide +kernel),_,rfl,an,_,_,_,rfl,rfl,tp1.sq,at3,_,rfl,l.p,l.dx,r.fs (i+1) p.born l,_,_,rfl,⟨pa1.ob,rfl⟩,?_⟩⟩
   refine jC k ?_ (d.ws.news c1) d.x pa1 pf (by omega) (c1.mono (by simp)) (t:=.eval z g) (r':={r with md:=.int 0,nd:=u3,vr:=.ref au}) rfl rfl rfl rfl rfl ⟨rfl,⟨t3.mono c1,ok3⟩,hu,by omega⟩
   show Ha09.quiet (match Ha09.matches_ pp v fq.env with|some g=>_|none=>_)=_
   rw[hm]
  ·have pa1:=ji.mono c1 pf pn (by simp) pa
   have tp1:=tp.mono c1
   refine⟨_,rfl,_,rfl,dT rfl ⟨_,rfl,l.p,l.dx,_,rfl,pa1.ob,zn (by decide +kernel),_,rfl,an,_,_,_,rfl,rfl,tp1.sq,at4,_,rfl,fq.a,_,_,_,rfl,rfl,dM.of (c1.tu _ _ hob),tO,l.p,l.dx,r.fs (i+1) p.born l,_,_,rfl,⟨pa1.ob,rfl⟩,?_⟩⟩
   refine jC k ?_ (d.ws.news c1) d.x pa1 pf (by omega) (c1.mono (by simp)) (t:=.eval c fq.env) (r':={r with md:=.int 0,nd:=u4,vr:=fq.vv}) rfl rfl rfl rfl rfl ⟨rfl,⟨t4.mono c1,ok4⟩,ne.v.mono c1 pf pn,by omega⟩
   show Ha09.quiet (match Ha09.matches_ pp v fq.env with|some g=>_|none=>_)=_
   rw[hm]
inductive Eb (P:Program) (w:World) (A:Ad) (K:PySem.W.Frag) (vs:List V) (H:Hp) (Q:VK):Prop|mk (hv:Tab) (W:WL) (s:Ha09.St) (f:Nat):vs=[.ref W.w,.int (f:Int)]->rO A.aj A.aR K H hv W s->Q (.bl (decide (f<s.program.length))) H->Eb P w A K vs H Q
def Jp (P:Program) (w:World) (A:Ad) (K:PySem.W.Frag):Sp:=fun vs H Q _=>Eb P w A K vs H Q
theorem fX (T:Tx w K mg A D):aS P w K mg base eV 1 A.cu D.cz ["self","f"] (Jp P w A K):=by
 refine T.kD.ok pX (fun vs H Q E h=>?_) (fun cdv A' outer s0 H vs Q E hr h=>?_)
 ·obtain⟨hv,W,s,f,rfl,_⟩:=h;rfl
 ·obtain⟨hv,W,s,f,rfl,wa,k⟩:=h
  refine⟨_,(ak (aF (qz (xy (pv 1) (a9 aM rfl T.gc PySem.boot_len (aa (az (pv 0) rfl) ag)))))),?_⟩
  obtain⟨a,us,hfn,tp,rel⟩:=wa.fn
  have hl:us.length=s.program.length:=rel.length
  refine⟨_,rfl,_,rfl,W.w,_,W.dx,_,_,rfl,wa.ob,T.aL,T.dJ,zl 0 mr rfl rfl,?_⟩
  refine⟨a,us,by rw[hfn],.inr tp.sq,_,_,rfl,rfl,?_⟩
  have e:decide ((f:Int)<(us.length:Int))=decide (f<s.program.length):=by
   apply decide_eq_decide.mpr;rw[hl];omega
  show Q (.bl (decide ((f:Int)<(us.length:Int)))) H
  rw[e];exact k
inductive GC (q:wI):Prop|mk (g:_) (y:_):q.ex=.call g y->q.first=none->GC q
theorem CF (T:Tx w K mg A D):aS P w K mg base eV 3 A.jb D.om ["world","process","thing"] (xf P w A K GC):=by
 refine T.yw.ok xj (fun vs H Q E h=>?_) (fun cdv A' outer s0 H vs Q E hr h=>?_)
 ·obtain⟨hv,W,q,s,i,l,p,v,fq,tv,f,rfl,_⟩:=h;rfl
 ·obtain⟨hv,W,q,s,i,l,p,v,fq,tv,f,rfl,d,⟨g,y,hex,hfi⟩,k⟩:=h
  refine⟨_,(ah (aX (i:=3) xj.nd rfl (Or.inl rfl) (aK aH (aK aH (pv 2) aq (fun _ _=>rfl)) aq (fun _ _=>rfl)))
   (ak (aW (fW (aG (pv 0) T.aL T.eG (fX T) (hr.mono (by decide)) T.eH .nil aJ (aa (pv 3) ag))) (ak (aI (aG (pv 1) T.ao T.bA (bt T) (hr.mono (by decide)) T.bC .nil aJ (aa (aK aH (az (pv 0) rfl) (pv 3) (fun _ _=>rfl)) (aa (bR (aa (az (pv 1) rfl) ag)) ag))))) (ak (aI (aV (hJ T) (hr.mono (by decide)) rfl T.jl T.iI.kp T.jJ .nil aJ (aa (pv 1) ag))))))),?_⟩
  obtain⟨r,pa⟩:=d.ws.wa.at_ i l p d.x.l d.x.p
  have ct:=pa.ct
  rw[d.c] at ct
  have fo:=d.fr.fo
  rw[hex,hfi] at fo
  obtain rfl:Ha09.Frame.call g=f:=Option.some.inj fo
  have ne:=d.fr.ne
  rw[hex] at ne
  obtain⟨an,us,hnd,tp,ts0⟩:=ne.n.1.tup
  obtain⟨u0,r0,rfl,t0,ts1⟩:=ts0.inv
  obtain rfl:=t0.int
  obtain⟨u1,r1,rfl,t1,ts2⟩:=ts1.inv
  obtain rfl:=t1.int
  have pf:=List.prefix_refl hv
  have pn:=List.prefix_refl (aB s)
  have hob:=d.fr.ob
  rw[hnd] at hob
  rw[d.fr.rf]
  obtain⟨fa,fus,hfn,ftp,frel⟩:=d.ws.wa.fn
  refine⟨_,rfl,fq.a,_,_,_,rfl,rfl,dM.of hob,eR,an,_,_,_,rfl,rfl,tp.sq,tO,?_⟩
  refine⟨_,rfl,W.w,W.dx,_,rfl,d.ws.wa.ob,zn (by decide +kernel),_,rfl,hv,W,s,g,rfl,d.ws.wa,_,rfl,?_⟩
  refine d2 (fun hg=>?_) fun hg=>?_
  ·obtain⟨fv,hfv,hnr⟩:=ug frel (List.getElem?_eq_getElem hg)
   refine⟨_,rfl,l.p,l.dx,_,rfl,pa.ob,zn (by decide +kernel),_,rfl,W.w,_,W.dx,_,_,rfl,d.ws.wa.ob,T.aL,T.dJ,zl 0 mr rfl rfl,_,rfl,fa,fus,_,_,by rw[hfn],rfl,ftp.sq,at_of rfl hfv,_,rfl,l.p,_,l.dx,_,_,rfl,pa.ob,T.ao,T.aQ,zl 5 ck rfl rfl,by show 1<=sizeLine;decide,fun n hn=>?_⟩
   have c1:Ch [] H (upd H n (.tup [r.vl])):=Ch.new hn
   have pa1:=ji.mono c1 pf pn (by simp) pa
   refine⟨l.p,l.dx,r.fs (i+1) p.born l,_,_,rfl,⟨pa1.ob,rfl⟩,?_⟩
   have hdep:=d.ws.wa.fd _ (List.getElem_mem hg)
   refine jC k ?_ (d.ws.news c1) d.x pa1 pf (by omega) (c1.mono (by simp)) (t:=.eval s.program[g] [v]) (r':={r with md:=.int 0,nd:=fv,vr:=.ref n}) rfl rfl rfl rfl rfl ⟨rfl,hnr.mono c1,⟨n,[r.vl],rfl,ae,.cons (ct.2.mono c1 pf pn) .nil⟩,by simp only[List.length_singleton];omega⟩
   show Ha09.quiet (match s.program[g]? with|some b=>_|none=>_)=_
   rw[List.getElem?_eq_getElem hg]
  ·refine⟨_,rfl,l.p,l.dx,_,rfl,⟨pa.ob,rfl⟩,fun n hn=>?_⟩
   have c1:Ch [] H (upd H n (.tup [.int 0,.int 101])):=Ch.new hn
   refine jC k ?_ (d.ws.news c1) d.x (ji.mono c1 pf pn (by simp) pa) pf (by omega) (c1.mono (by simp)) (t:=.up Ha09.BAD) (r':={r with md:=.int 2,vl:=.ref n}) rfl rfl rfl rfl rfl ⟨rfl,.num ae (by unfold AA;omega)⟩
   show Ha09.quiet (match s.program[g]? with|some b=>_|none=>_)=_
   rw[List.getElem?_eq_none_iff.mpr (by omega)]
theorem DR {H H1:Hp} {hv:Tab} {W:WL} {q:QL} {s:Ha09.St} {i:Nat} {l:PL} {p:Proc} {v:Val} {L:Letter} {kq:Hp->Prop} (k:jg P w A K H hv W q s (aP s i ⟨{p with ctrl:=.back v},[L],none⟩) 3 kq) (x:yh W s i l p)
  (ws1:WS P w A K H1 hv W q (b6 s (s.air++[L]))) (c:Ch [W.ls] H H1) {r:PV} (pa1:ji K H1 hv (aB s) A.aj (i+1) l p r) {u:V} (hu:VR H1 hv (aB s) u v) :
  kq (upd H1 l.p (.ins A.aj l.dx (PN.zip (({r with md:=.int 1,vl:=u}:PV).fs (i+1) p.born l)))):=by
 have ws2:=ws1.Az (i:=i) (l:=l) (p:=p) ⟨x.l,x.p⟩ pa1 (r':={r with md:=.int 1,vl:=u}) (t:=.back v) rfl rfl rfl rfl rfl ⟨rfl,hu⟩
 have es:Bp.bw (b6 s (s.air++[L])) i {p with ctrl:=.back v}=aP s i ⟨{p with ctrl:=.back v},[L],none⟩:=by unfold b6 aP Bp.bw;simp
 rw[es] at ws2
 refine k _ hv W ws2 (List.prefix_refl _) ?_ ((c.mono fun b hb=>by rw[List.mem_singleton.mp hb];exact List.mem_append.mpr (.inl Bo.2.2)).trans (Ch.put pa1.ob trivial (jh x.l _ mU.1))) (Ext.refl _ _)
 rw[<-es]
 have h1:=iM (s:=b6 s (s.air++[L])) (p':={p with ctrl:=.back v}) x.p
 have e6:iK {p with ctrl:=.back v}=iK p:=rfl
 have e7:wt (b6 s (s.air++[L]))=wt s+zP L:=by
  unfold wt b6
  dsimp only
  rw[Bp.wJ];simp[rP];omega
 have e8:zP L<=3:=by unfold zP;split<;>omega
 omega
inductive GA (q:wI):Prop|mk (y:_) (z:_) (a:_):q.ex=.send y z->q.first=some a->GA q
theorem CD (T:Tx w K mg A D):aS P w K mg base eV 3 A.ja D.oj ["world","process","thing"] (xf P w A K GA):=by
 refine T.yu.ok xi (fun vs H Q E h=>?_) (fun cdv A' outer s0 H vs Q E hr h=>?_)
 ·obtain⟨hv,W,q,s,i,l,p,v,fq,tv,f,rfl,_⟩:=h;rfl
 ·obtain⟨hv,W,q,s,i,l,p,v,fq,tv,f,rfl,d,⟨y,z,a,hex,hfi⟩,k⟩:=h
  refine⟨_,(ah (aX (i:=3) xi.nd rfl (Or.inl rfl) (aK aH (pv 2) aq (fun _ _=>rfl)))
   (ak (aW (aO (bc (aK aH (pv 3) aq (fun _ _=>rfl)) (a8 T.xQ))) (ah (aI (aG (pv 0) T.aL T.j4 (jV T) (hr.mono (by decide)) T.j7 .nil aJ (aa (az (pv 1) rfl) (aa (aK aH (pv 3) aq (fun _ _=>rfl)) (aa (az (pv 1) rfl) ag)))))
   (ak (aI (aG (pv 1) T.ao T.bB (bu T) (hr.mono (by decide)) T.bD .nil aJ (aa (az (pv 1) rfl) ag))))) (ak (aI (aV (hJ T) (hr.mono (by decide)) rfl T.jl T.iI.kp T.jJ .nil aJ (aa (pv 1) ag))))))),?_⟩
  obtain⟨r,pa⟩:=d.ws.wa.at_ i l p d.x.l d.x.p
  have ct:=pa.ct
  rw[d.c] at ct
  have fo:=d.fr.fo
  rw[hex,hfi] at fo
  obtain rfl:Ha09.Frame.sendWhat a=f:=Option.some.inj fo
  have hfs:=d.fr.fs
  rw[hfi] at hfs
  obtain⟨m1,⟨a1,he1,ha1⟩,d1⟩:=hfs
  have hob:=d.fr.ob
  rw[he1] at hob
  have pf:=List.prefix_refl hv
  have pn:=List.prefix_refl (aB s)
  have hb:=d.b
  rw[d.fr.rf]
  refine⟨_,rfl,fq.a,_,_,_,rfl,rfl,dM.of hob,at2,?_⟩
  refine⟨_,rfl,a1,_,_,_,rfl,rfl,dM.of ha1,eR,_,_,rfl,rfl,_,rfl,?_⟩
  have wrong:(∀q',a≠.pid q')->∀n,H n=none->Q .bo (upd (upd H n (.tup [.int 0,.int 101])) l.p (.ins A.aj l.dx (PN.zip ((((r.fs (i+1) p.born l)).set 2 (.int 2)).set 5 (.ref n))))):=fun hna n hn=>by
   have c1:Ch [] H (upd H n (.tup [.int 0,.int 101])):=Ch.new hn
   refine jC k ?_ (d.ws.news c1) d.x (ji.mono c1 pf pn (by simp) pa) pf (by omega) (c1.mono (by simp)) (t:=.up Ha09.BAD) (r':={r with md:=.int 2,vl:=.ref n}) rfl rfl rfl rfl rfl ⟨rfl,.num ae (by unfold AA;omega)⟩
   cases a with
   | pid q'=>exact absurd rfl (hna q')
   | num _=>rfl
   | pair _ _=>rfl
  cases d1 with
  | num _=>exact dF (by show ¬(0:Int)=1;decide) ⟨_,rfl,l.p,l.dx,_,rfl,⟨pa.ob,rfl⟩,wrong (by intro q' h;cases h)⟩
  | two _ _ _=>exact dF (by show ¬(2:Int)=1;decide) ⟨_,rfl,l.p,l.dx,_,rfl,⟨pa.ob,rfl⟩,wrong (by intro q' h;cases h)⟩
  | @name j pn' hj =>
   refine dT rfl ?_
   refine⟨_,rfl,W.w,W.dx,_,rfl,d.ws.wa.ob,zn (by decide +kernel),_,rfl,l.p,_,l.dx,_,_,rfl,pa.ob,T.ao,T.bH,zl 0 ck rfl rfl,_,rfl,a1,_,_,_,rfl,rfl,dM.of ha1,tO,_,rfl,l.p,_,l.dx,_,_,rfl,pa.ob,T.ao,T.aQ,zl 5 ck rfl rfl,hv,W,q,s,_,_,_,⟨p.name,pn',some v⟩,rfl,d.ws,⟨i,rfl,xI d.x⟩,⟨j,rfl,hj⟩,ct.2,by omega,fun H1 ws1 c1=>?_⟩
   have pa1:=ji.mono c1 pf pn (fun b hb hz=>(d.ws.wa.own d.x.l b hb).2.2 (List.mem_singleton.mp hz)) pa
   refine⟨_,rfl,l.p,l.dx,_,rfl,pa1.ob,zn (by decide +kernel),_,rfl,l.p,_,l.dx,_,_,rfl,pa1.ob,T.ao,T.aQ,zl 5 ck rfl rfl,l.p,l.dx,_,_,rfl,⟨pa1.ob,rfl⟩,?_⟩
   exact DR (L:=⟨p.name,pn',some v⟩) k d.x ws1 c1 pa1 (ct.2.mono c1 pf pn)
inductive C5 (q:wI):Prop|mk (y:_):q.ex=.watch y->q.first=none->C5 q
theorem Bb (T:Tx w K mg A D):aS P w K mg base eV 3 A.gA D.lE ["world","process","thing"] (xf P w A K C5):=by
 refine T.vw.ok vE (fun vs H Q E h=>?_) (fun cdv A' outer s0 H vs Q E hr h=>?_)
 ·obtain⟨hv,W,q,s,i,l,p,v,fq,tv,f,rfl,_⟩:=h;rfl
 ·obtain⟨hv,W,q,s,i,l,p,v,fq,tv,f,rfl,d,⟨y,hex,hfi⟩,k⟩:=h
  refine⟨_,(ah (aX (i:=3) vE.nd rfl (Or.inl rfl) (az (pv 1) rfl))
   (ak (aW (aO (bc (aK aH (pv 3) aq (fun _ _=>rfl)) (a8 T.xQ))) (ah (aI (aG (pv 0) T.aL T.j4 (jV T) (hr.mono (by decide)) T.j7 .nil aJ (aa (az (pv 1) rfl) (aa (aK aH (pv 3) aq (fun _ _=>rfl)) (aa lM ag)))))
   (ak (aI (aG (pv 1) T.ao T.bB (bu T) (hr.mono (by decide)) T.bD .nil aJ (aa (pv 3) ag))))) (ak (aI (aV (hJ T) (hr.mono (by decide)) rfl T.jl T.iI.kp T.jJ .nil aJ (aa (pv 1) ag))))))),?_⟩
  obtain⟨r,pa⟩:=d.ws.wa.at_ i l p d.x.l d.x.p
  have ct:=pa.ct
  rw[d.c] at ct
  have fo:=d.fr.fo
  rw[hex,hfi] at fo
  obtain rfl:Ha09.Frame.watch=f:=Option.some.inj fo
  obtain⟨hmd,m1,⟨a1,he1,ha1⟩,d1⟩:=ct
  have pf:=List.prefix_refl hv
  have pn:=List.prefix_refl (aB s)
  have hb:=d.b
  have hval:VR H hv (aB s) r.vl v:=⟨m1,⟨a1,he1,ha1⟩,d1⟩
  refine⟨_,rfl,l.p,_,l.dx,_,_,rfl,pa.ob,T.ao,T.aQ,zl 5 ck rfl rfl,?_⟩
  refine⟨_,rfl,a1,_,_,_,he1,rfl,dM.of ha1,eR,_,_,rfl,rfl,_,rfl,?_⟩
  have wrong:(∀q',v≠.pid q')->∀n,H n=none->Q .bo (upd (upd H n (.tup [.int 0,.int 101])) l.p (.ins A.aj l.dx (PN.zip ((((r.fs (i+1) p.born l)).set 2 (.int 2)).set 5 (.ref n))))):=fun hna n hn=>by
   have c1:Ch [] H (upd H n (.tup [.int 0,.int 101])):=Ch.new hn
   refine jC k ?_ (d.ws.news c1) d.x (ji.mono c1 pf pn (by simp) pa) pf (by omega) (c1.mono (by simp)) (t:=.up Ha09.BAD) (r':={r with md:=.int 2,vl:=.ref n}) rfl rfl rfl rfl rfl ⟨rfl,.num ae (by unfold AA;omega)⟩
   cases v with
   | pid q'=>exact absurd rfl (hna q')
   | num _=>rfl
   | pair _ _=>rfl
  cases d1 with
  | num _=>exact dF (by show ¬(0:Int)=1;decide) ⟨_,rfl,l.p,l.dx,_,rfl,⟨pa.ob,rfl⟩,wrong (by intro q' h;cases h)⟩
  | two _ _ _=>exact dF (by show ¬(2:Int)=1;decide) ⟨_,rfl,l.p,l.dx,_,rfl,⟨pa.ob,rfl⟩,wrong (by intro q' h;cases h)⟩
  | @name j pn' hj =>
   refine dT rfl ?_
   refine⟨_,rfl,W.w,W.dx,_,rfl,d.ws.wa.ob,zn (by decide +kernel),_,rfl,l.p,_,l.dx,_,_,rfl,pa.ob,T.ao,T.bH,zl 0 ck rfl rfl,_,rfl,a1,_,_,_,he1,rfl,dM.of ha1,tO,hv,W,q,s,_,_,_,⟨p.name,pn',none⟩,rfl,d.ws,⟨i,rfl,xI d.x⟩,⟨j,rfl,hj⟩,rfl,by omega,fun H1 ws1 c1=>?_⟩
   have pa1:=ji.mono c1 pf pn (fun b hb hz=>(d.ws.wa.own d.x.l b hb).2.2 (List.mem_singleton.mp hz)) pa
   refine⟨_,rfl,l.p,l.dx,_,rfl,pa1.ob,zn (by decide +kernel),_,rfl,l.p,l.dx,_,_,rfl,⟨pa1.ob,rfl⟩,?_⟩
   exact DR (L:=⟨p.name,pn',none⟩) k d.x ws1 c1 pa1 (hval.mono c1 pf pn)
inductive C7 (q:wI):Prop|mk (y:_):q.ex=.raise y->q.first=none->C7 q
theorem Bd (T:Tx w K mg A D):aS P w K mg base eV 2 A.gC D.lG ["world","process","thing"] (xf P w A K C7):=by
 refine T.vz.ok AJ (fun vs H Q E h=>?_) (fun cdv A' outer s0 H vs Q E hr h=>?_)
 ·obtain⟨hv,W,q,s,i,l,p,v,fq,tv,f,rfl,_⟩:=h;rfl
 ·obtain⟨hv,W,q,s,i,l,p,v,fq,tv,f,rfl,d,⟨y,hex,hfi⟩,k⟩:=h
  refine⟨_,(ak (aI (aG (pv 1) T.ao T.gX (j3 T) (hr.mono (by decide)) T.g0 .nil aJ (aa (az (pv 1) rfl) ag)))),?_⟩
  obtain⟨r,pa⟩:=d.ws.wa.at_ i l p d.x.l d.x.p
  have ct:=pa.ct
  rw[d.c] at ct
  have fo:=d.fr.fo
  rw[hex,hfi] at fo
  obtain rfl:Ha09.Frame.raise=f:=Option.some.inj fo
  refine⟨_,rfl,l.p,l.dx,_,rfl,pa.ob,zn (by decide +kernel),_,rfl,l.p,_,l.dx,_,_,rfl,pa.ob,T.ao,T.aQ,zl 5 ck rfl rfl,l.p,l.dx,_,_,rfl,⟨pa.ob,rfl⟩,?_⟩
  exact jC k rfl d.ws d.x pa (List.prefix_refl _) (by omega) (Ch.refl _ _) (t:=.up v) (r':={r with md:=.int 2}) rfl rfl rfl rfl rfl ⟨rfl,ct.2⟩
inductive C8 (q:wI):Prop|mk (y:_) (z:_):q.ex=.try_ y z->q.first=none->C8 q
theorem Be (T:Tx w K mg A D):aS P w K mg base eV 2 A.gD D.lH ["world","process","thing"] (xf P w A K C8):=by
 refine T.vA.ok AK (fun vs H Q E h=>?_) (fun cdv A' outer s0 H vs Q E hr h=>?_)
 ·obtain⟨hv,W,q,s,i,l,p,v,fq,tv,f,rfl,_⟩:=h;rfl
 ·obtain⟨hv,W,q,s,i,l,p,v,fq,tv,f,rfl,d,⟨y,z,hex,hfi⟩,k⟩:=h
  refine⟨_,(ak (aI (aG (pv 1) T.ao T.bB (bu T) (hr.mono (by decide)) T.bD .nil aJ (aa (az (pv 1) rfl) ag)))),?_⟩
  obtain⟨r,pa⟩:=d.ws.wa.at_ i l p d.x.l d.x.p
  have ct:=pa.ct
  rw[d.c] at ct
  have fo:=d.fr.fo
  rw[hex,hfi] at fo
  obtain rfl:Ha09.Frame.try_ z fq.env=f:=Option.some.inj fo
  refine⟨_,rfl,l.p,l.dx,_,rfl,pa.ob,zn (by decide +kernel),_,rfl,l.p,_,l.dx,_,_,rfl,pa.ob,T.ao,T.aQ,zl 5 ck rfl rfl,l.p,l.dx,_,_,rfl,⟨pa.ob,rfl⟩,?_⟩
  exact jC k rfl d.ws d.x pa (List.prefix_refl _) (by omega) (Ch.refl _ _) (t:=.back v) (r':={r with md:=.int 1}) rfl rfl rfl rfl rfl ⟨rfl,ct.2⟩
inductive JS (q:wI):Prop|mk (y:_):q.ex=.say y->q.first=none->JS q
theorem EO (T:Tx w K mg A D):aS P w K mg base eV 2 A.k6 D.rL ["world","process","thing"] (xf P w A K JS):=by
 refine T.Ax.ok EH (fun vs H Q E h=>?_) (fun cdv A' outer s0 H vs Q E hr h=>?_)
 ·obtain⟨hv,W,q,s,i,l,p,v,fq,tv,f,rfl,_⟩:=h;rfl
 ·obtain⟨hv,W,q,s,i,l,p,v,fq,tv,f,rfl,d,⟨y,hex,hfi⟩,k⟩:=h
  refine⟨_,(ah (aI (dO PySem.F.plainAttrs_list PySem.F.slot_list_append PySem.F.type_list_append bJ (az (pv 1) rfl) (aa (az (pv 1) rfl) ag)))
   (ak (aI (aG (pv 1) T.ao T.bB (bu T) (hr.mono (by decide)) T.bD .nil aJ (aa (az (pv 1) rfl) ag))))),?_⟩
  obtain⟨r,pa⟩:=d.ws.wa.at_ i l p d.x.l d.x.p
  obtain⟨la,lb,lc,ld⟩:=pa.len
  have ct:=pa.ct
  rw[d.c] at ct
  have fo:=d.fr.fo
  rw[hex,hfi] at fo
  obtain rfl:Ha09.Frame.say=f:=Option.some.inj fo
  have pf:=List.prefix_refl hv
  have pn:=List.prefix_refl (aB s)
  have hb:=d.b
  have hwx:=oB d.x.p
  have nd:=d.ws.wa.FP d.x.l
  obtain⟨⟨n1,n2,n3,n4⟩,⟨m1,m2,m3⟩,⟨o1,o2⟩,p1⟩:=PL.DB nd
  refine⟨_,rfl,l.p,_,l.dx,_,_,rfl,pa.ob,T.ao,T.fS,zl 10 ck rfl rfl,.inl ⟨rfl,_,bM.of pa.sd⟩,_,rfl,l.p,_,l.dx,_,_,rfl,pa.ob,T.ao,T.aQ,zl 5 ck rfl rfl,l.sd,_,_,rfl,rfl,pa.sd,by rw[lc];simp only[iK] at hwx;rw[sizeLine_eq];omega,?_⟩
  have c1:Ch [l.p,l.sd] H (upd H l.sd (.lst (r.sv++[r.vl]))):=Ch.put pa.sd trivial (by simp)
  have g1:(upd H l.sd (.lst (r.sv++[r.vl]))) l.sd=some (.lst (r.sv++[r.vl])):=ae
  have ob1:(upd H l.sd (.lst (r.sv++[r.vl]))) l.p=_:=(aE n3).trans pa.ob
  generalize upd H l.sd _=H1 at c1 g1 ob1 ⊢
  refine⟨_,rfl,l.p,l.dx,_,rfl,ob1,zn (by decide +kernel),_,rfl,l.p,_,l.dx,_,_,rfl,ob1,T.ao,T.aQ,zl 5 ck rfl rfl,l.p,l.dx,r.fs (i+1) p.born l,_,rfl,⟨ob1,rfl⟩,?_⟩
  show Q .bo (upd H1 l.p (.ins A.aj l.dx (PN.zip (({r with md:=.int 1,sv:=r.sv++[r.vl]}:PV).fs (i+1) p.born l))))
  have c2:Ch [l.p,l.sd] H1 (upd H1 l.p (.ins A.aj l.dx (PN.zip (({r with md:=.int 1,sv:=r.sv++[r.vl]}:PV).fs (i+1) p.born l)))):=Ch.put ob1 trivial (by simp)
  have o2':(upd H1 l.p (.ins A.aj l.dx (PN.zip (({r with md:=.int 1,sv:=r.sv++[r.vl]}:PV).fs (i+1) p.born l)))) l.p=some (.ins A.aj l.dx (PN.zip (({r with md:=.int 1,sv:=r.sv++[r.vl]}:PV).fs (i+1) p.born l))):=ae
  have g2:(upd H1 l.p (.ins A.aj l.dx (PN.zip (({r with md:=.int 1,sv:=r.sv++[r.vl]}:PV).fs (i+1) p.born l)))) l.sd=some (.lst (r.sv++[r.vl])):=(aE n3.symm).trans g1
  generalize upd H1 l.p _=H2 at c2 o2' g2 ⊢
  have cc:=c1.trans c2
  have sub:∀b∈[l.p,l.sd],b∈l.addrs:=by simp[PL.addrs]
  have er:after s i p v .say=bw s i {p with ctrl:=.back v,said:=p.said++[v]}:=dv _ _ _
  rw[er] at k
  refine k H2 hv W ?_ pf ?_ (cc.mono fun b hb=>jh d.x.l b (sub b hb)) (Ext.refl _ _)
  ·refine d.ws.bw d.x.l d.x.p rfl rfl pf cc (fun b hb=>.inl (sub b hb)) (d.ws.Iq d.x.l sub cc) (r:={r with md:=.int 1,sv:=r.sv++[r.vl]}) ⟨o2',yR.mono cc pa.nm,⟨rfl,ct.2.mono cc pf pn⟩,cc.fr _ _ pa.td (by simp[n1.symm,m2]),Paired.bL pa.yC fun _ _ z=>B5.mono cc pf pn z,cc.fr _ _ pa.bx (by simp[n2.symm,o1]),Paired.bL pa.Dc fun _ _ z=>VR.mono cc pf pn z,g2,Paired.snoc (Paired.bL pa.EG fun _ _ z=>VR.mono cc pf pn z) (ct.2.mono cc pf pn),cc.fr _ _ pa.wt (by simp[n4.symm,p1.symm]),pa.Ek⟩
  ·have:=iM (p':={p with ctrl:=.back v,said:=p.said++[v]}) d.x.p
   have e6:iK {p with ctrl:=.back v,said:=p.said++[v]}=iK p+1:=by simp[iK];omega
   omega
def kr (s:Ha09.St) (c:Proc):Ha09.St:={s with procs:=s.procs++[c]}
theorem rD (s:Ha09.St) (c:Proc):aB (kr s c)=aB s++[c.name]:=by unfold aB kr;simp
theorem rO.kr {CP CW:Addr} {H H':Hp} {hv:Tab} {W:WL} {s:Ha09.St} {l:PL} {c':Proc} {r:PV} {ex:List Addr} (h:rO CP CW K H hv W s) (c:Ch ex H H') (hx:∀b∈ex,b=W.ps\/b∉W.addrs) (hps:H' W.ps=some (.lst ((W.pl++[l]).map fun l=>.ref l.p)))
  (fr:∀b∈l.addrs,H b=none) (nd:l.addrs.Nodup) (a:ji K H' hv (aB s++[c'.name]) CP (W.pl.length+1) l c' r):rO CP CW K H' hv {W with pl:=W.pl++[l]} (kr s c'):=by
 obtain⟨n1,n2,n3⟩:=h.heads
 have nx:∀b,b∈W.addrs->b≠W.ps->b∉ex:=fun b hb hn z=>(hx b z).elim hn fun q=>q hb
 have pf:=List.prefix_refl hv
 have pn:aB s<+:aB s++[c'.name]:=List.prefix_append _ _
 have fresh:∀b,H b=none->b∉W.addrs:=fun b e z=>by obtain⟨o,q⟩:=h.there b z;rw[e] at q;cases q
 refine⟨c.fr _ _ h.ob (nx _ Bo.1 n1),?_,h.fd,hps,by unfold Bt.kr;simp[h.len],fun j m q e1 e2=>?_,?_,?_⟩
 ·obtain⟨a,vs,e,t,r⟩:=h.fn;exact⟨a,vs,e,t.mono c,Paired.bL r fun _ _ z=>z.mono c⟩
 ·rw[rD]
  have e1':(W.pl++[l])[j]?=some m:=e1
  have e2':(s.procs++[c'])[j]?=some q:=e2
  by_cases hj:j<W.pl.length
  ·rw[List.getElem?_append_left hj] at e1'
   rw[List.getElem?_append_left (by rw[<-h.len];exact hj)] at e2'
   obtain⟨r',q'⟩:=h.at_ j m q e1' e2'
   exact⟨r',ji.mono c pf pn (fun b hb=>nx b (qw e1' b hb) (h.own e1' b hb).2.1) q'⟩
  ·have hj0:j=W.pl.length:=by
    have:=(List.getElem?_eq_some_iff.mp e1').1
    simp at this;omega
   subst hj0
   rw[List.getElem?_append_right (Nat.le_refl _)] at e1'
   rw[List.getElem?_append_right (by rw[h.len];exact Nat.le_refl _)] at e2'
   rw[h.len] at e2'
   simp at e1' e2'
   subst e1' e2'
   exact⟨r,a⟩
 ·rw[rD]
  obtain⟨lv,e,r⟩:=h.ls
  exact⟨lv,c.fr _ _ e (nx _ Bo.2.2 n3.symm),Paired.bL r fun _ _ z=>yi.mono c pf pn z⟩
 ·have hnd:=h.nd
  unfold WL.addrs at hnd ⊢
  show(W.w::W.ps::W.ls::(W.pl++[l]).flatMap PL.addrs).Nodup
  have e:W.w::W.ps::W.ls::(W.pl++[l]).flatMap PL.addrs=(W.w::W.ps::W.ls::W.pl.flatMap PL.addrs)++l.addrs:=by simp
  rw[e]
  exact List.nodup_append.mpr ⟨hnd,nd,fun x h1 y h2 z=>fresh y (fr y h2) (by rw[<-z];exact h1)⟩
inductive BU (A:Ad) (K:PySem.W.Frag) (vs:List V) (H:Hp) (Q:VK) (E:XK):Prop|mk (hv:Tab) (W:WL) (s:Ha09.St) (nmV uv:V) (nm:List Nat) (f:Nat) (b:Ha09.Expr) (v:Val):vs=[.ref W.w,nmV,.int (f:Int),uv]->rO A.aj A.aR K H hv W s->yR H nmV nm->s.program[f]?=some b->VR H hv (aB s) uv v->s.procs.length<=20->(s.procs.length=20->E (.ref A.bK) none H)->(s.procs.length<20->∀H' l,rO A.aj A.aR K H' hv {W with pl:=W.pl++[l]} (kr s ⟨nm,.eval b [v],[],[],0,[],[]⟩)->Ch [W.ps] H H'->(∀c∈l.addrs,H c=none)->Q (.ref l.p) H')->BU A K vs H Q E
def Ha (A:Ad) (K:PySem.W.Frag):Sp:=fun vs H Q E=>BU A K vs H Q E
theorem qD (T:Tx w K mg A D):aS P w K mg base (wg P w) 3 A.gE D.gK ["self","name","f","value"] (Ha A K):=by
 refine T.uO.ES qi (fun vs H Q E h=>?_) (fun cdv A' outer s0 H vs Q E hr hp h=>?_)
 ·obtain⟨hv,W,s,nmV,uv,nm,f,b,v,rfl,_⟩:=h;rfl
 ·obtain⟨hv,W,s,nmV,uv,nm,f,b,v,rfl,wa,hnm,hfb,hvr,hle,kE,kS⟩:=h
  refine⟨_,(ah (aW (aO (bc (a9 aM rfl T.gc PySem.boot_len (aa (az (pv 0) rfl) ag)) (a8 T.pO))) (ak (u5 T.fY hr)) aT)
   (ah (aX (i:=4) qi.nd rfl (Or.inl rfl) (rC T.nB (pK T) (hr.mono (by decide)) rfl T.xX T.nI .nil aJ (aa (eT oV (a9 aM rfl T.gc PySem.boot_len (aa (az (pv 0) rfl) ag)) aq) (aa (pv 1) ag))))
   (ah (aI (aG (pv 4) T.ao T.bA (bt T) (hr.mono (by decide)) T.bC .nil aJ (aa (aK aH (az (pv 0) rfl) (pv 2) (fun _ _=>rfl)) (aa (bR (aa (pv 3) ag)) ag))))
   (ah (aI (dO PySem.F.plainAttrs_list PySem.F.slot_list_append PySem.F.type_list_append bJ (az (pv 0) rfl) (aa (pv 4) ag)))
   (ak (aF (pv 4))))))),?_⟩
  have hpl:=wa.len
  have pf:=List.prefix_refl hv
  refine⟨_,rfl,W.w,_,W.dx,_,_,rfl,wa.ob,T.aL,T.bg,zl 1 mr rfl rfl,W.ps,_,rfl,.inl (bM.of wa.ps),_,_,rfl,rfl,_,rfl,?_⟩
  refine d2 (fun h=>?_) fun h=>?_
  ·rw[List.length_map,hpl] at h
   exact kE (by omega)
  rw[List.length_map,hpl] at h
  have hlt:s.procs.length<20:=by omega
  refine⟨_,rfl,W.w,_,W.dx,_,_,rfl,wa.ob,T.aL,T.bg,zl 1 mr rfl rfl,W.ps,_,rfl,.inl (bM.of wa.ps),_,_,rfl,rfl,_,rfl,fun x dx hx hdx hne=>?_⟩
  have cx:Ch [] H (upd (upd H dx (.own x)) x (.ins A.aj dx [])):=by
   have h2:(upd H dx (.own x)) x=none:=(aE hne.symm).trans hx
   exact(Ch.new hdx).trans (Ch.new h2)
  have gx:(upd (upd H dx (.own x)) x (.ins A.aj dx [])) x=some (.ins A.aj dx []):=ae
  have gfree:∀z,(upd (upd H dx (.own x)) x (.ins A.aj dx [])) z=none->H z=none:=fun z hz=>cx.free hz (by simp)
  generalize upd (upd H dx _) x _=H1 at cx gx gfree ⊢
  refine⟨x,dx,_,_,rfl,gx,fun H2 L hLp hLd pnw=>⟨rfl,?_⟩⟩
  subst hLp hLd
  obtain⟨vr0,hob0⟩:=pnw.ob
  have enum:(((W.pl.map fun l=>V.ref l.p).length:Int)+1)=((W.pl.length+1:Nat):Int):=by rw[List.length_map];omega
  have hob:H2 L.p=some (.ins A.aj L.dx (PN.zip [V.int ((W.pl.length+1:Nat):Int),nmV,.int 0,.bo,vr0,.bo,.int 0,.int 0,.ref L.td,.ref L.bx,.ref L.sd,.int 0,.ref L.wt])):=by
   rw[hob0]
   show some (HO.ins _ _ (PN.zip [V.int (((W.pl.map fun l=>V.ref l.p).length:Int)+1),nmV,.int 0,.bo,vr0,.bo,.int 0,.int 0,.ref L.td,.ref L.bx,.ref L.sd,.int 0,.ref L.wt]))=_
   rw[enum]
  have c2:=pnw.ch
  have c12:Ch [] H H2:=cx.trans' c2 (by intro c hc;rw[List.mem_singleton.mp hc];exact .inr hx)
  obtain⟨fa,fus,hfn,ftp,frel⟩:=wa.fn
  obtain⟨fv,hfv,hnr⟩:=ug frel hfb
  have hWob2:=c12.fr _ _ wa.ob (by simp)
  refine⟨_,rfl,L.p,L.dx,_,rfl,hob,zn (by decide +kernel),_,rfl,W.w,_,W.dx,_,_,rfl,hWob2,T.aL,T.dJ,zl 0 mr rfl rfl,_,rfl,fa,fus,_,_,by rw[hfn],rfl,(ftp.mono c12).sq,at_of rfl hfv,_,rfl,by show 1<=sizeLine;decide,fun n hn=>?_⟩
  have c3:Ch [] H2 (upd H2 n (.tup [uv])):=Ch.new hn
  have g3:(upd H2 n (.tup [uv])) n=some (.tup [uv]):=ae
  generalize upd H2 n _=H3 at c3 g3 ⊢
  have ob3:=c3.fr _ _ hob (by simp)
  refine⟨L.p,L.dx,[.int ((W.pl.length+1:Nat):Int),nmV,.int 0,.bo,vr0,.bo,.int 0,.int 0,.ref L.td,.ref L.bx,.ref L.sd,.int 0,.ref L.wt],_,_,rfl,⟨ob3,rfl⟩,?_⟩
  have r0:∃r:PV,r={nm:=nmV,md:=.int 0,nd:=fv,vr:=.ref n,vl:=.bo,sc:=.int 0,lk:=.int 0,ws:=[],bv:=[],sv:=[],wv:=[]}:=⟨_,rfl⟩
  obtain⟨r,hr0⟩:=r0
  have c4:Ch [L.p] H3 (upd H3 L.p (.ins A.aj L.dx (PN.zip (r.fs (W.pl.length+1) 0 L)))):=Ch.put ob3 trivial (by simp)
  have g4:(upd H3 L.p (.ins A.aj L.dx (PN.zip (r.fs (W.pl.length+1) 0 L)))) L.p=some (.ins A.aj L.dx (PN.zip (r.fs (W.pl.length+1) 0 L))):=ae
  have hshow:PN.zip (r.fs (W.pl.length+1) 0 L)=PN.zip (((([V.int ((W.pl.length+1:Nat):Int),nmV,.int 0,.bo,vr0,.bo,.int 0,.int 0,.ref L.td,.ref L.bx,.ref L.sd,.int 0,.ref L.wt]:List V).set 2 (.int 0)).set 3 fv).set 4 (.ref n)):=by rw[hr0];rfl
  rw[<-hshow]
  generalize upd H3 L.p _=H4 at c4 g4 ⊢
  obtain⟨⟨a1,a2,a3,a4⟩,_⟩:=PL.DB pnw.nd
  obtain⟨f1,f2,f3,f4⟩:=pnw.nw
  have hxH:H L.p=none:=hx
  have cH4:Ch [] H H4:=(c12.trans c3).trans' c4 (by intro c hc;rw[List.mem_singleton.mp hc];exact .inr hxH)
  have c24:Ch [L.p] H2 H4:=(c3.mono (by simp)).trans c4
  have ps4:=cH4.fr _ _ wa.ps (by simp)
  have hWob4:=cH4.fr _ _ wa.ob (by simp)
  refine⟨_,rfl,W.w,_,W.dx,_,_,rfl,hWob4,T.aL,T.bg,zl 1 mr rfl rfl,.inl ⟨rfl,_,bM.of ps4⟩,_,rfl,W.ps,_,_,rfl,rfl,ps4,by rw[List.length_map,hpl,sizeLine_eq];omega,?_⟩
  have c5:Ch [W.ps] H4 (upd H4 W.ps (.lst ((W.pl.map fun l=>V.ref l.p)++[.ref L.p]))):=Ch.put ps4 trivial (by simp)
  have g5:(upd H4 W.ps (.lst ((W.pl.map fun l=>V.ref l.p)++[.ref L.p]))) W.ps=some (.lst ((W.pl++[L]).map fun l=>.ref l.p)):=by rw[ae];simp
  generalize upd H4 W.ps _=H5 at c5 g5 ⊢
  have cH5:Ch [W.ps] H H5:=(cH4.mono (by simp)).trans c5
  have fresh:∀b∈L.addrs,H b=none:=by
   intro b hb
   simp[PL.addrs] at hb
   rcases hb with rfl|rfl|rfl|rfl|rfl
   ·exact hxH
   ·exact gfree _ f1
   ·exact gfree _ f2
   ·exact gfree _ f3
   ·exact gfree _ f4
  have nps:∀b∈L.addrs,b≠W.ps:=fun b hb z=>by have:=fresh b hb;rw[z,wa.ps] at this;cases this
  have c25:∀b o,H2 b=some o->b∈L.addrs->b≠L.p->H5 b=some o:=fun b o e hb hn=>c5.fr _ _ (c24.fr _ _ e (by simpa using hn)) (by simpa using nps b hb)
  refine⟨_,rfl,?_⟩
  have pn:aB s<+:aB s++[nm]:=List.prefix_append _ _
  have hdep:=wa.fd b (List.mem_of_getElem? hfb)
  refine kS hlt H5 L (wa.kr cH5 (by simp) g5 fresh pnw.nd (r:=r) ⟨c5.fr _ _ g4 (by simpa using nps L.p (by simp[PL.addrs])),?_,?_,?_,?_,?_,?_,?_,?_,?_,?_⟩) cH5 fresh
  ·rw[hr0];exact yR.mono cH5 hnm
  ·rw[hr0]
   exact⟨rfl,hnr.mono cH5,⟨n,[uv],rfl,c5.tu _ _ (c4.tu _ _ g3),.cons (hvr.mono cH5 pf pn) .nil⟩,by simp only[List.length_singleton];omega⟩
  ·rw[hr0];exact c25 _ _ pnw.td (by simp[PL.addrs]) a1.symm
  ·rw[hr0];exact .nil
  ·rw[hr0];exact c25 _ _ pnw.bx (by simp[PL.addrs]) a2.symm
  ·rw[hr0];exact .nil
  ·rw[hr0];exact c25 _ _ pnw.sd (by simp[PL.addrs]) a3.symm
  ·rw[hr0];exact .nil
  ·rw[hr0];exact c25 _ _ pnw.wt (by simp[PL.addrs]) a4.symm
  ·rw[hr0];exact .nil
def GX (P:Program) (w:World) (A:Ad) (H:Hp) (hv:Tab) (W:WL) (q:QL) (s:Ha09.St) (n:Nat) (E:XK):Prop :=
 ∀H' hv',nJ P w A.bE H' q hv'->hv<+:hv'->hv'.length<=hv.length+wt s+n->Ch (fp W q) H H'->E (.ref A.bK) none H'
def Cb (p:Proc) (b:Ha09.Expr) (v:Val):Proc:=⟨p.name++[p.born+1],.eval b [v],[],[],0,[],[]⟩
inductive B2 (P:Program) (w:World) (A:Ad) (K:PySem.W.Frag) (vs:List V) (H:Hp) (Q:VK) (E:XK):Prop|mk (hv:Tab) (W:WL) (q:QL) (s:Ha09.St) (i:Nat) (l:PL) (p:Proc) (f:Nat) (uv:V) (b:Ha09.Expr) (v:Val):vs=[.ref W.w,.ref l.p,.int (f:Int),uv]->WS P w A K H hv W q s->yh W s i l p->s.program[f]?=some b->VR H hv (aB s) uv v->s.procs.length<=20->(s.procs.length=20->∀H',Ch [] H H'->E (.ref A.bK) none H')->(s.procs.length<20->∀H' l' u,WS P w A K H' hv {W with pl:=W.pl++[l']} q (kr (bw s i {p with born:=p.born+1}) (Cb p b v))->Ch [W.ps,l.p] H H'->(∀c∈l'.addrs,H c=none)->VR H' hv (aB s++[p.name++[p.born+1]]) u (.pid (p.name++[p.born+1]))->Q u H')->B2 P w A K vs H Q E
def Hh (P:Program) (w:World) (A:Ad) (K:PySem.W.Frag):Sp:=fun vs H Q E=>B2 P w A K vs H Q E
theorem Hw {P:Program} {w:World} {C:Addr} {H:Hp} {q:QL} {hv:Tab} (pr:nJ P w C H q hv):∀b∈q.addrs,∃o,H b=some o:=by
 intro b hb
 obtain⟨as,xs,e1,_,e2,_⟩:=pr.ex
 simp[QL.addrs] at hb
 rcases hb with rfl|rfl|rfl
 ·exact⟨_,pr.ob⟩
 ·exact⟨_,e1⟩
 ·exact⟨_,e2.ob⟩
theorem catN {H:Hp} {n:Addr} {nv:V} {nm:List Nat} {j:Nat} (h1:yR H nv nm) (h2:H n=some (.tup [.int (j:Int)])) (hz:nm.length<=1000) {Qk:VK} (k:∀H' u,Ch [] H H'->yR H' u (nm++[j])->Qk u H'):FI K nv (.ref n) H Qk:=by
 obtain⟨a,rfl,ha⟩:=h1
 refine⟨a,n,_,_,rfl,rfl,dM.of ha,dM.of h2,by rw[List.length_map,List.length_singleton,sizeLine_eq];omega,fun h=>?_,fun h hy=>by simp at hy,fun h hy p hp=>?_⟩
 ·have:nm=[]:=by simpa using h
  subst this
  exact k H _ (Ch.refl _ _) ⟨n,rfl,h2⟩
 ·exact k _ _ (Ch.new hp) ⟨p,rfl,by rw[ae,List.map_append];rfl⟩
theorem qC (T:Tx w K mg A D):aS P w K mg base (wg P w) 4 A.cM D.cT ["self","parent","f","value"] (Hh P w A K):=by
 refine T.mh.ES j2 (fun vs H Q E h=>?_) (fun cdv A' outer s0 H vs Q E hr hp h=>?_)
 ·obtain⟨hv,W,q,s,i,l,p,f,uv,b,v,rfl,_⟩:=h;rfl
 ·obtain⟨hv,W,q,s,i,l,p,f,uv,b,v,rfl,ws,x,hfb,hvr,hle,kE,kS⟩:=h
  refine⟨_,(ah (aX (i:=4) j2.nd rfl (Or.inl rfl) (aG (pv 0) T.aL T.oX (qD T) (hr.mono (by decide)) T.pq .nil lN (aa (eT HF (az (pv 1) rfl) (bR (aa (eT oV (az (pv 1) rfl) aq) ag))) (aa (pv 2) (aa (pv 3) ag)))))
   (ah (u6 (pv 1) aq CS)
   (ak (aF (bR (aa (a8 T.xQ) (aa (az (pv 4) rfl) ag))))))),?_⟩
  obtain⟨r,pa⟩:=ws.wa.at_ i l p x.l x.p
  have pf:=List.prefix_refl hv
  obtain⟨an,hnm,hna⟩:=pa.nm
  have hob:=pa.ob
  refine⟨_,rfl,W.w,W.dx,_,rfl,ws.wa.ob,zn (by decide +kernel),_,rfl,l.p,_,l.dx,_,_,rfl,hob,T.ao,T.gP,zl 1 ck rfl rfl,_,rfl,l.p,_,l.dx,_,_,rfl,hob,T.ao,T.cg,zl 11 ck rfl rfl,_,_,rfl,rfl,by show 1<=sizeLine;decide,fun n hn=>?_⟩
  have c1:Ch [] H (upd H n (.tup [.int ((p.born:Int)+1)])):=Ch.new hn
  have g1:(upd H n (.tup [.int ((p.born:Int)+1)])) n=some (.tup [.int ((p.born:Int)+1)]):=ae
  show FI K r.nm (.ref n) (upd H n (.tup [.int ((p.born:Int)+1)])) _
  generalize upd H n _=H1 at c1 g1 ⊢
  have eb:((p.born:Int)+1)=((p.born+1:Nat):Int):=by omega
  rw[eb] at g1
  have hln:=ws.gd.ln p (List.mem_of_getElem? x.p)
  refine catN (yR.mono c1 pa.nm) g1 (by omega) (fun H2 nv c2 hnv=>?_)
  have c12:=c1.trans c2
  have pn:=List.prefix_refl (aB s)
  refine⟨_,rfl,_,rfl,hv,W,s,nv,uv,p.name++[p.born+1],f,b,v,rfl,ws.wa.mono c12 pf (by simp),hnv,hfb,hvr.mono c12 pf pn,hle,fun h20=>kE h20 H2 c12,fun hlt H3 l' wa3 c3 fr3=>?_⟩
  have hil:=(List.getElem?_eq_some_iff.mp x.l).1
  have hip:=(List.getElem?_eq_some_iff.mp x.p).1
  have x3l:({W with pl:=W.pl++[l']}:WL).pl[i]?=some l:=by show(W.pl++[l'])[i]?=some l;rw[List.getElem?_append_left hil];exact x.l
  have x3p:(kr s (Cb p b v)).procs[i]?=some p:=by show(s.procs++[_])[i]?=some p;rw[List.getElem?_append_left hip];exact x.p
  obtain⟨r3,pa3⟩:=wa3.at_ i l p x3l x3p
  refine⟨_,rfl,l.p,_,l.dx,_,_,rfl,pa3.ob,T.ao,T.cg,zl 11 ck rfl rfl,_,_,rfl,rfl,l.dx,_,pa3.ob,lp,?_⟩
  rw[zp 11 ck rfl (by show 11<13;decide)]
  have e11:(r3.fs (i+1) p.born l).set 11 (.int ((p.born:Int)+1))=r3.fs (i+1) (p.born+1) l:=by
   show [_,_,_,_,_,_,_,_,_,_,_,V.int ((p.born:Int)+1),_]=[_,_,_,_,_,_,_,_,_,_,_,V.int ((p.born+1:Nat):Int),_]
   rw[eb]
  rw[e11]
  have c4:Ch [W.ps,l.p] H3 (upd H3 l.p (.ins A.aj l.dx (PN.zip (r3.fs (i+1) (p.born+1) l)))):=Ch.put pa3.ob trivial (by simp)
  have pa4:=pa3.Az (b:=p.born+1) (t:=p.ctrl) (wa3.FP x3l) rfl rfl rfl rfl rfl pa3.ct
  have wa4:=wa3.bw x3l x3p (p':={p with ctrl:=p.ctrl,born:=p.born+1}) rfl pf (ex:=[l.p]) (Ch.put pa3.ob trivial (by simp)) (by simp[PL.addrs]) pa4
  generalize upd H3 l.p _=H4 at c4 pa4 wa4 ⊢
  have es:({kr s (Cb p b v) with procs:=(kr s (Cb p b v)).procs.set i {p with ctrl:=p.ctrl,born:=p.born+1}}:Ha09.St)=kr (bw s i {p with born:=p.born+1}) (Cb p b v):=by
   unfold kr Bp.bw
   simp only[List.set_append,hip,if_true]
  replace wa4:=(congrArg (rO A.aj A.aR K H4 hv {W with pl:=W.pl++[l']}) es).mp wa4
  have cH3:Ch [W.ps,l.p] H H3:=(c12.mono (by simp)).trans (c3.mono (by simp))
  have cH4:=cH3.trans c4
  have fr0:∀c∈l'.addrs,H c=none:=fun c hc=>c12.free (fr3 c hc) (by simp)
  have hq4:∀b∈q.addrs,b∉[W.ps,l.p]:=fun b hb z=>by
   rcases List.mem_cons.mp z with rfl|z
   ·exact ws.dj _ hb Bo.2.1
   ·rw[List.mem_singleton.mp z] at hb;exact qx ws x.l _ hb mU.1
  obtain⟨rl,pal⟩:=wa4.at_ W.pl.length l' (Cb p b v) (by show(W.pl++[l'])[W.pl.length]?=_;simp) (by show(s.procs.set i _++[Cb p b v])[W.pl.length]?=_;rw[ws.wa.len];rw[List.getElem?_append_right (by simp)];simp)
  have enm:aB (kr (bw s i {p with born:=p.born+1}) (Cb p b v))=aB s++[p.name++[p.born+1]]:=by
   rw[rD,nW (p':={p with born:=p.born+1}) x.p rfl];rfl
  have ws4:WS P w A K H4 hv {W with pl:=W.pl++[l']} q (kr (bw s i {p with born:=p.born+1}) (Cb p b v)):=by
   refine⟨wa4,ws.pr.mono cH4 hq4,ws.po,fun c hc hz=>?_,?_⟩
   ·have hz':c∈W.w::W.ps::W.ls::(W.pl++[l']).flatMap PL.addrs:=hz
    have hcs:c∈W.addrs\/c∈l'.addrs:=by
     unfold WL.addrs
     simp only[List.mem_cons,List.flatMap_append,List.mem_append,List.flatMap_cons,List.flatMap_nil,List.append_nil] at hz' ⊢
     rcases hz' with h|h|h|h|h
     ·exact .inl (.inl h)
     ·exact .inl (.inr (.inl h))
     ·exact .inl (.inr (.inr (.inl h)))
     ·exact .inl (.inr (.inr (.inr h)))
     ·exact .inr h
    rcases hcs with h|h
    ·exact ws.dj c hc h
    ·obtain⟨o,ho⟩:=Hw ws.pr c hc
     rw[fr0 c h] at ho;cases ho
   ·have g:=ws.gd.apply (o:=⟨{p with born:=p.born+1},[],some (Cb p b v)⟩) x.p ⟨rfl,.inr ⟨_,rfl,rfl,rfl,rfl,rfl,rfl,rfl⟩⟩
    exact⟨g.nd,g.ch,g.ln⟩
  refine⟨_,rfl,l'.p,_,l'.dx,_,_,rfl,pal.ob,T.ao,T.bH,zl 0 ck rfl rfl,by show 2<=sizeLine;decide,fun m hm=>?_⟩
  have c5:Ch [] H4 (upd H4 m (.tup [.int 1,.int ((W.pl.length+1:Nat):Int)])):=Ch.new hm
  refine kS hlt _ l' _ (ws4.news c5) (cH4.trans (c5.mono (by simp))) fr0 (.pid ae ?_)
  have hlen:W.pl.length=(aB s).length:=by unfold aB;rw[List.length_map];exact ws.wa.len
  rw[hlen];simp
inductive GQ (P:Program) (w:World) (A:Ad) (K:PySem.W.Frag) (cond:wI->Prop) (vs:List V) (H:Hp) (Q:VK) (E:XK):Prop|mk (hv:Tab) (W:WL) (q:QL) (s:Ha09.St) (i:Nat) (l:PL) (p:Proc) (v:Val) (fq:wI) (tv:V) (f:Ha09.Frame):vs=[.ref W.w,.ref l.p,tv]->IS P w A K H hv W q s i l p v fq tv f->cond fq->s.procs.length<=20->((after s i p v f).procs.length<=20->jg P w A K H hv W q s (after s i p v f) 3 (Q .bo))->(20<(after s i p v f).procs.length->GX P w A H hv W q s 0 E)->GQ P w A K cond vs H Q E
def Fy (P:Program) (w:World) (A:Ad) (K:PySem.W.Frag) (cond:wI->Prop):Sp:=fun vs H Q E=>GQ P w A K cond vs H Q E
inductive C6 (q:wI):Prop|mk (g:_) (y:_):q.ex=.spawn g y->q.first=none->C6 q
theorem C3 {prog:List Ha09.Expr} {p:Proc} {v:Val}:∀{f:Ha09.Frame},(∀g,f≠.spawn g)->(Ha09.returns prog {p with frames:=f::p.frames} v).child=none:=by
 intro f h
 cases f with
 | spawn g=>exact absurd rfl (h g)
 | sendWhat a=>unfold Ha09.returns;cases a<;>rfl
 | watch=>unfold Ha09.returns;cases v<;>rfl
 | _=>rfl
theorem Fc {s:Ha09.St} {i:Nat} {p:Proc} {v:Val} {f:Ha09.Frame} (h:∀g,f≠.spawn g):(after s i p v f).procs.length=s.procs.length:=by
 unfold after aP
 rw[C3 h]
 simp
theorem nE {cond:wI->Prop} (hc:∀fq f,cond fq->frameOf fq.ex fq.env fq.first=some f->∀g,f≠.spawn g):∀vs H Q E,Fy P w A K cond vs H Q E->xf P w A K cond vs H Q E:=by
 rintro vs H Q E ⟨hv,W,q,s,i,l,p,v,fq,tv,f,rfl,d,hcd,hle,k,_⟩
 exact⟨hv,W,q,s,i,l,p,v,fq,tv,f,rfl,d,hcd,k (by rw[Fc (hc fq f hcd d.fr.fo)];exact hle)⟩
theorem Bc (T:Tx w K mg A D):aS P w K mg base (wg P w) 5 A.gB D.lF ["world","process","thing"] (Fy P w A K C6):=by
 refine T.vx.ES vF (fun vs H Q E h=>?_) (fun cdv A' outer s0 H vs Q E hr hp h=>?_)
 ·obtain⟨hv,W,q,s,i,l,p,v,fq,tv,f,rfl,_⟩:=h;rfl
 ·obtain⟨hv,W,q,s,i,l,p,v,fq,tv,f,rfl,d,⟨g,y,hex,hfi⟩,hle,k,kE⟩:=h
  refine⟨_,(ah (aX (i:=3) vF.nd rfl (Or.inl rfl) (aK aH (aK aH (pv 2) aq (fun _ _=>rfl)) aq (fun _ _=>rfl)))
   (ak (aW (fW (aG (pv 0) T.aL T.eG (fX T) (hr.mono (by decide)) T.eH .nil aJ (aa (pv 3) ag))) (ak (aI (aG (pv 1) T.ao T.bB (bu T) (hr.mono (by decide)) T.bD .nil aJ (aa (aG (pv 0) T.aL T.lS (qC T) (hr.mono (by decide)) T.l9 .nil lN (aa (pv 1) (aa (pv 3) (aa (az (pv 1) rfl) ag)))) ag)))) (ak (aI (aV (hJ T) (hr.mono (by decide)) rfl T.jl T.iI.kp T.jJ .nil aJ (aa (pv 1) ag))))))),?_⟩
  obtain⟨r,pa⟩:=d.ws.wa.at_ i l p d.x.l d.x.p
  have ct:=pa.ct
  rw[d.c] at ct
  have fo:=d.fr.fo
  rw[hex,hfi] at fo
  obtain rfl:Ha09.Frame.spawn g=f:=Option.some.inj fo
  have ne:=d.fr.ne
  rw[hex] at ne
  obtain⟨an,us,hnd,tp,ts0⟩:=ne.n.1.tup
  obtain⟨u0,r0,rfl,t0,ts1⟩:=ts0.inv
  obtain rfl:=t0.int
  obtain⟨u1,r1,rfl,t1,ts2⟩:=ts1.inv
  obtain rfl:=t1.int
  have pf:=List.prefix_refl hv
  have pn:=List.prefix_refl (aB s)
  have hob:=d.fr.ob
  rw[hnd] at hob
  rw[d.fr.rf]
  have hil:=(List.getElem?_eq_some_iff.mp d.x.l).1
  have hip:=(List.getElem?_eq_some_iff.mp d.x.p).1
  refine⟨_,rfl,fq.a,_,_,_,rfl,rfl,dM.of hob,eR,an,_,_,_,rfl,rfl,tp.sq,tO,?_⟩
  refine⟨_,rfl,W.w,W.dx,_,rfl,d.ws.wa.ob,zn (by decide +kernel),_,rfl,hv,W,s,g,rfl,d.ws.wa,_,rfl,?_⟩
  refine d2 (fun hg=>?_) fun hg=>?_
  ·have hpg:s.program[g]?=some s.program[g]:=List.getElem?_eq_getElem hg
   have ea:after s i p v (.spawn g)=aP s i ⟨{p with ctrl:=.back (.pid (p.name++[p.born+1])),born:=p.born+1},[],some (Cb p s.program[g] v)⟩:=by
    show aP s i (match s.program[g]? with|some b=>_|none=>_)=_
    rw[hpg];rfl
   have el:(after s i p v (.spawn g)).procs.length=s.procs.length+1:=by
    rw[ea];unfold aP;simp
   refine⟨_,rfl,l.p,l.dx,_,rfl,pa.ob,zn (by decide +kernel),_,rfl,W.w,W.dx,_,rfl,d.ws.wa.ob,zn (by decide +kernel),_,rfl,_,rfl,_,rfl,l.p,_,l.dx,_,_,rfl,pa.ob,T.ao,T.aQ,zl 5 ck rfl rfl,hv,W,q,s,i,l,p,g,_,s.program[g],v,rfl,d.ws,d.x,hpg,ct.2,hle,fun h20 H1 c1=>?_,fun hlt H1 l' u ws1 c1 fr hu=>?_⟩
   ·exact kE (by omega) H1 hv (d.ws.pr.mono c1 (by simp)) pf (by omega) (c1.mono (by simp))
   ·have x1:yh {W with pl:=W.pl++[l']} (kr (bw s i {p with born:=p.born+1}) (Cb p s.program[g] v)) i l {p with born:=p.born+1}:=by
     refine⟨by show(W.pl++[l'])[i]?=some l;rw[List.getElem?_append_left hil];exact d.x.l,?_⟩
     show(s.procs.set i _++[_])[i]?=_
     rw[List.getElem?_append_left (by simpa using hip),List.getElem?_set_self hip]
    obtain⟨r1',pa1⟩:=ws1.wa.at_ i l _ x1.l x1.p
    have enm:aB (kr (bw s i {p with born:=p.born+1}) (Cb p s.program[g] v))=aB s++[p.name++[p.born+1]]:=by
     rw[rD,nW (p':={p with born:=p.born+1}) d.x.p rfl];rfl
    refine⟨l.p,l.dx,_,_,rfl,⟨pa1.ob,rfl⟩,?_⟩
    have ws2:=ws1.Az x1 pa1 (r':={r1' with md:=.int 1,vl:=u}) (t:=.back (.pid (p.name++[p.born+1]))) rfl rfl rfl rfl rfl ⟨rfl,by rw[enm];exact hu⟩
    have es:Bp.bw (kr (bw s i {p with born:=p.born+1}) (Cb p s.program[g] v)) i {({p with born:=p.born+1}:Proc) with ctrl:=.back (.pid (p.name++[p.born+1]))}=after s i p v (.spawn g):=by
     rw[ea]
     unfold kr aP Bp.bw
     simp only[List.set_append,List.length_set,hip,if_true,List.set_set,Option.toList_some,List.append_nil]
    have ws3:=(congrArg (WS P w A K _ hv {W with pl:=W.pl++[l']} q) es).mp ws2
    refine k (by omega) _ hv {W with pl:=W.pl++[l']} ws3 pf ?_ ((c1.mono fun b hb=>?_).trans (Ch.put pa1.ob trivial (jh d.x.l _ mU.1))) ⟨rfl,rfl,rfl,rfl,?_,fun b hb=>?_⟩
    ·rw[ea]
     have h1:=iM (p':={p with ctrl:=.back (.pid (p.name++[p.born+1])),born:=p.born+1}) d.x.p
     have e6:iK {p with ctrl:=.back (.pid (p.name++[p.born+1])),born:=p.born+1}=iK p:=rfl
     have e7:wt (aP s i ⟨{p with ctrl:=.back (.pid (p.name++[p.born+1])),born:=p.born+1},[],some (Cb p s.program[g] v)⟩)=wt (bw s i {p with ctrl:=.back (.pid (p.name++[p.born+1])),born:=p.born+1}):=by
      unfold wt aP Bp.bw
      simp[Bp.Fh,oA,iK,Cb]
     omega
    ·rcases List.mem_cons.mp hb with rfl|hb
     ·exact List.mem_append.mpr (.inl Bo.2.1)
     ·rw[List.mem_singleton.mp hb];exact jh d.x.l _ mU.1
    ·show W.pl.map (·.p)<+:(W.pl++[l']).map (·.p)
     rw[List.map_append];exact List.prefix_append _ _
    ·have hb':b∈W.w::W.ps::W.ls::(W.pl++[l']).flatMap PL.addrs:=hb
     unfold WL.addrs
     simp only[List.mem_cons,List.flatMap_append,List.mem_append,List.flatMap_cons,List.flatMap_nil,List.append_nil] at hb' ⊢
     rcases hb' with h|h|h|h|h
     ·exact .inl (.inl h)
     ·exact .inl (.inr (.inl h))
     ·exact .inl (.inr (.inr (.inl h)))
     ·exact .inl (.inr (.inr (.inr h)))
     ·exact .inr (fr b h)
  ·have ea:Ha09.returns s.program {p with frames:=.spawn g::p.frames} v=Ha09.quiet {p with ctrl:=.up Ha09.BAD}:=by
    show(match s.program[g]? with|some b=>_|none=>_)=_
    rw[List.getElem?_eq_none_iff.mpr (by omega)]
   have k':=k (by unfold after;rw[ea,dv];simpa [Bp.bw] using hle)
   refine⟨_,rfl,l.p,l.dx,_,rfl,⟨pa.ob,rfl⟩,fun n hn=>?_⟩
   have c1:Ch [] H (upd H n (.tup [.int 0,.int 101])):=Ch.new hn
   exact jC k' ea (d.ws.news c1) d.x (ji.mono c1 pf pn (by simp) pa) pf (by omega) (c1.mono (by simp)) (t:=.up Ha09.BAD) (r':={r with md:=.int 2,vl:=.ref n}) rfl rfl rfl rfl rfl ⟨rfl,.num ae (by unfold AA;omega)⟩
inductive IT where
 | both|HE|let_|choice|call|send|start|watch|raise|Au|say
def IT.addr (A:Ad):IT->Addr
 | .both=>A.jc|.HE=>A.cZ|.let_=>A.k7|.choice=>A.e9|.call=>A.jb|.send=>A.ja|.start=>A.gB|.watch=>A.gA|.raise=>A.gC|.Au=>A.gD|.say=>A.k6
def IT.cond:IT->wI->Prop
 | .both=>GD|.HE=>GB|.let_=>JT|.choice=>Av|.call=>GC|.send=>GA|.start=>C6|.watch=>C5|.raise=>C7|.Au=>C8|.say=>JS
def JO (P:Program) (w:World) (A:Ad) (K:PySem.W.Frag) (j:IT):Sp:=Fy P w A K j.cond
theorem doFn (T:Tx w K mg A D) (j:IT):∃fd ps,aS P w K mg base (wg P w) 5 (j.addr A) fd ps (JO P w A K j)/\PySem.W.keepIn K (.ref (j.addr A))=true/\Binds K fd ps []:=by
 cases j with
 | both=>exact⟨_,_,aS.lift (aS.mono (aS.imp (CG T) (nE fun fq f ⟨y,z,a,e1,e2⟩ h g=>by rw[e1,e2] at h;cases h;intro q;cases q)) (by decide)),T.yx.kp,T.BG⟩
 | HE=>exact⟨_,_,aS.lift (aS.mono (aS.imp (wD T) (nE fun fq f ⟨k,y,z,a,e1,e2⟩ h g=>by rw[e1,e2] at h;cases h;intro q;cases q)) (by decide)),T.nR.kp,T.sI⟩
 | let_=>exact⟨_,_,aS.lift (aS.mono (aS.imp (ER T) (nE fun fq f ⟨y,z,e1,e2⟩ h g=>by rw[e1,e2] at h;cases h;intro q;cases q)) (by decide)),T.Ay.kp,T.DT⟩
 | choice=>exact⟨_,_,aS.lift (aS.mono (aS.imp (Ae T) (nE fun fq f ⟨y,p,z,c,e1,e2⟩ h g=>by rw[e1,e2] at h;cases h;intro q;cases q)) (by decide)),T.tS.kp,T.yf⟩
 | call=>exact⟨_,_,aS.lift (aS.mono (aS.imp (CF T) (nE fun fq f ⟨y,z,e1,e2⟩ h g=>by rw[e1,e2] at h;cases h;intro q;cases q)) (by decide)),T.yw.kp,T.BF⟩
 | send=>exact⟨_,_,aS.lift (aS.mono (aS.imp (CD T) (nE fun fq f ⟨y,z,a,e1,e2⟩ h g=>by rw[e1,e2] at h;cases h;intro q;cases q)) (by decide)),T.yu.kp,T.BE⟩
 | start=>exact⟨_,_,Bc T,T.vx.kp,T.zz⟩
 | watch=>exact⟨_,_,aS.lift (aS.mono (aS.imp (Bb T) (nE fun fq f ⟨y,e1,e2⟩ h g=>by rw[e1,e2] at h;cases h;intro q;cases q)) (by decide)),T.vw.kp,T.zy⟩
 | raise=>exact⟨_,_,aS.lift (aS.mono (aS.imp (Bd T) (nE fun fq f ⟨y,e1,e2⟩ h g=>by rw[e1,e2] at h;cases h;intro q;cases q)) (by decide)),T.vz.kp,T.zA⟩
 | Au=>exact⟨_,_,aS.lift (aS.mono (aS.imp (Be T) (nE fun fq f ⟨y,z,e1,e2⟩ h g=>by rw[e1,e2] at h;cases h;intro q;cases q)) (by decide)),T.vA.kp,T.zB⟩
 | say=>exact⟨_,_,aS.lift (aS.mono (aS.imp (EO T) (nE fun fq f ⟨y,e1,e2⟩ h g=>by rw[e1,e2] at h;cases h;intro q;cases q)) (by decide)),T.Ax.kp,T.DS⟩
theorem popped {H:Hp} {hv:Tab} {W:WL} {q:QL} {s:Ha09.St} {i:Nat} {l:PL} {p:Proc} {r:PV} {w1:V} {ws1:List V} {f:Ha09.Frame} {fs:List Ha09.Frame} (ws:WS P w A K H hv W q s) (x:yh W s i l p) (pa:ji K H hv (aB s) A.aj (i+1) l p r) (hw:r.ws=w1::ws1) (hf:p.frames=f::fs) (rest:Paired (B5 K H hv (aB s)) ws1 fs) :
  ∃H1,upd H l.td (.lst ws1.reverse)=H1/\Ch [l.td] H H1/\WS P w A K H1 hv W q (bw s i {p with frames:=fs})/\yh W (bw s i {p with frames:=fs}) i l {p with frames:=fs}/\ji K H1 hv (aB s) A.aj (i+1) l {p with frames:=fs} {r with ws:=ws1}/\wt (bw s i {p with frames:=fs})+1=wt s:=by
 have nd:=ws.wa.FP x.l
 obtain⟨⟨n1,n2,n3,n4⟩,⟨m1,m2,m3⟩,⟨o1,o2⟩,p1⟩:=PL.DB nd
 have pf:=List.prefix_refl hv
 have pn:=List.prefix_refl (aB s)
 have c1:Ch [l.td] H (upd H l.td (.lst ws1.reverse)):=Ch.put pa.td trivial (by simp)
 have g1:(upd H l.td (.lst ws1.reverse)) l.td=some (.lst ws1.reverse):=ae
 have sub:∀b∈[l.td],b∈l.addrs:=by simp[PL.addrs]
 have pa1:ji K (upd H l.td (.lst ws1.reverse)) hv (aB s) A.aj (i+1) l {p with frames:=fs} {r with ws:=ws1} :=
  ⟨c1.fr _ _ pa.ob (by simp[n1]),yR.mono c1 pa.nm,yB.mono c1 pf pn pa.ct,g1,Paired.bL rest fun _ _ z=>B5.mono c1 pf pn z,c1.fr _ _ pa.bx (by simp[m1.symm]),Paired.bL pa.Dc fun _ _ z=>VR.mono c1 pf pn z,c1.fr _ _ pa.sd (by simp[m2.symm]),Paired.bL pa.EG fun _ _ z=>VR.mono c1 pf pn z,c1.fr _ _ pa.wt (by simp[m3.symm]),pa.Ek⟩
 refine⟨_,rfl,c1,ws.bw x.l x.p rfl rfl pf c1 (fun b hb=>.inl (sub b hb)) (ws.Iq x.l sub c1) pa1,⟨x.l,List.getElem?_set_self (List.getElem?_eq_some_iff.mp x.p).1⟩,pa1,?_⟩
 have:=iM (p':={p with frames:=fs}) x.p
 have e6:iK p=iK {p with frames:=fs}+1:=by simp[iK,hf];omega
 omega
theorem Cq {s:Ha09.St} {i:Nat} {p:Proc} {o:Ha09.Out}:aP (bw s i p) i o=aP s i o:=by
 unfold aP Bp.bw
 simp[List.set_set]
theorem EF {s:Ha09.St} {i:Nat} {p p':Proc}:bw (bw s i p) i p'=bw s i p':=by
 unfold Bp.bw
 simp[List.set_set]
theorem jg.from {H H1:Hp} {hv:Tab} {W:WL} {q:QL} {s s1 s':Ha09.St} {n m:Nat} {k:Hp->Prop} (hk:jg P w A K H hv W q s s' n k) (c:Ch (fp W q) H H1) (hw:wt s1+m<=wt s+n):jg P w A K H1 hv W q s1 s' m k:=fun H' hv' W' a b d e f =>
 hk H' hv' W' a b (by omega) (c.trans e) ⟨f.w,f.dx,f.pr,f.fn,f.pl,fun x hx=>by
  by_cases m:x∈fp W q
  ·rcases List.mem_append.mp m with z|z
   ·exact .inl z
   ·exact absurd hx (a.dj x z)
  ·exact(f.fr x hx).imp id fun z=>c.free z m⟩
inductive v3 (P:Program) (w:World) (A:Ad) (K:PySem.W.Frag) (vs:List V) (H:Hp) (Q:VK):Prop|mk (hv:Tab) (W:WL) (q:QL) (s:Ha09.St) (i:Nat) (l:PL) (p:Proc) (v:Val):vs=[.ref W.w,.ref l.p]->WS P w A K H hv W q s->yh W s i l p->p.ctrl=.up v->hv.length+wt s<=15000000->jg P w A K H hv W q s (aP s i (Ha09.rises p v)) 2 (Q .bo)->v3 P w A K vs H Q
def Cp (P:Program) (w:World) (A:Ad) (K:PySem.W.Frag):Sp:=fun vs H Q _=>v3 P w A K vs H Q
theorem wB (T:Tx w K mg A D):aS P w K mg base eV 4 A.fw D.fI ["world","process"] (Cp P w A K):=by
 refine T.nP.ok pE (fun vs H Q E h=>?_) (fun cdv A' outer s0 H vs Q E hr h=>?_)
 ·obtain⟨hv,W,q,s,i,l,p,v,rfl,_⟩:=h;rfl
 ·obtain⟨hv,W,q,s,i,l,p,v,rfl,ws,x,hc,hb,k⟩:=h
  refine⟨_,(ah (aW (aO (bc (a9 aM rfl T.gc PySem.boot_len (aa (az (pv 1) rfl) ag)) aq)) (ah (aI (aG (pv 0) T.aL T.tD (uo T) (hr.mono (by decide)) T.tM .nil aJ (aa (pv 1) (aa (a8 T.rG) ag))))
   (ak Ds)) aT)
   (ah (aX (i:=2) pE.nd rfl (Or.inl rfl) (z7 PySem.F.plainAttrs_list PySem.F.slot_list_pop PySem.F.type_list_pop Ah (az (pv 1) rfl)))
   (ak (aW (aO (bc (aK aH (aK aH (pv 2) aq (fun _ _=>rfl)) aq (fun _ _=>rfl)) aq)) (ak (aI (aG (pv 1) T.ao T.bA (bt T) (hr.mono (by decide)) T.bC .nil aJ (aa (aK aH (aK aH (pv 2) aq (fun _ _=>rfl)) aq (fun _ _=>rfl)) (aa (eT wN (bR (aa (az (pv 1) rfl) ag)) (aK aH (pv 2) aq (fun _ _=>rfl))) ag))))) aT)))),?_⟩
  obtain⟨r,pa⟩:=ws.wa.at_ i l p x.l x.p
  obtain⟨la,lb,lc,ld⟩:=pa.len
  have ct:=pa.ct
  rw[hc] at ct
  have pf:=List.prefix_refl hv
  have pn:=List.prefix_refl (aB s)
  refine⟨_,rfl,l.p,_,l.dx,_,_,rfl,pa.ob,T.ao,T.bU,zl 8 ck rfl rfl,l.td,_,rfl,.inl (bM.of pa.td),_,_,rfl,rfl,_,rfl,?_⟩
  cases hf:p.frames with
  | nil =>
   refine dT (by rw[List.length_reverse,la,hf];rfl) ?_
   refine⟨_,rfl,W.w,W.dx,_,rfl,ws.wa.ob,zn (by decide +kernel),_,rfl,hv,W,q,s,i,l,p,5,.failed v,1,v,rfl,ws,x,.inr ⟨rfl,hc,rfl,rfl⟩,hb,?_⟩
   have er:Ha09.rises p v=⟨{p with ctrl:=.failed v,box:=[],watchers:=[]},nD p 1 v,none⟩:=by
    unfold Ha09.rises;rw[hf];rfl
   rw[er] at k
   exact fun H' hv' W' a b d e f=>k H' hv' W' a b (by omega) e f
  | cons f fs =>
   refine dF (by rw[List.length_reverse,la,hf];simp;omega) ?_
   have yC:=pa.yC
   rw[hf] at yC
   generalize hw:r.ws=rws at yC
   cases yC with
   | @cons w1 _ ws1 _ h1 rest =>
    obtain⟨H1,hH1,c1,wsA,xA,paA,hwA⟩:=popped ws x pa hw hf rest
    obtain⟨fq,fa⟩:=h1
    have td:=pa.td
    rw[hw] at td
    refine⟨_,rfl,l.p,_,l.dx,_,_,rfl,pa.ob,T.ao,T.bU,zl 8 ck rfl rfl,.inl ⟨rfl,_,bM.of td⟩,l.td,_,_,rfl,rfl,td,(by simp:((w1::ws1).reverse)[((w1::ws1).reverse).length-1]?=some w1),?_⟩
    have hdl:((w1::ws1).reverse).dropLast=ws1.reverse:=by simp
    rw[hdl,hH1]
    have cF:Ch (fp W q) H H1:=c1.mono fun b hb=>by rw[List.mem_singleton.mp hb];exact jh x.l _ mU.2.1
    have hob:=c1.tu _ _ fa.ob
    have ne:NE K H1 hv (aB s) fq.nv fq.vv fq.ex fq.env:=fa.ne.mono c1 pf pn
    rw[fa.rf]
    have enA:aB (bw s i {p with frames:=fs})=aB s:=nW x.p rfl
    obtain⟨an,t,us,hnd,tp,hcase⟩:∃(an:Addr) (t:Int) (us:List V),fq.nv=.ref an/\TupAt K H1 an (.int t::us)/\((t≠14/\Ha09.rises p v=Ha09.quiet {p with frames:=fs})\/(t=14/\∃u1 u2 b,us=[u1,u2]/\NR K H1 u2 b/\fq.env.length+1+32*b7 b<=700/\Ha09.rises p v=Ha09.quiet {p with ctrl:=.eval b (v::fq.env),frames:=fs})):=by
     have h:=ne.n.1
     have ok:=ne.n.2
     have hz:=ne.z
     have fo:=fa.fo
     cases hex:fq.ex with
     | try_ y z =>
      rw[hex] at h ok hz fo
      obtain⟨an,us,hnd,tp,ts0⟩:=h.tup
      obtain⟨u0,r0,rfl,t0,ts1⟩:=ts0.inv
      obtain rfl:=t0.int
      obtain⟨u1,r1,rfl,t1,ts2⟩:=ts1.inv
      obtain⟨u2,r2,rfl,t2,ts3⟩:=ts2.inv
      obtain rfl:=ts3.nil_inv
      simp only[b7] at hz
      cases hfi:fq.first with
      | some a=>rw[hfi] at fo;cases fo
      | none =>
       rw[hfi] at fo
       cases fo
       refine⟨an,14,_,hnd,tp,.inr ⟨rfl,u1,u2,z,rfl,⟨t2,ok.2⟩,by omega,?_⟩⟩
       unfold Ha09.rises;rw[hf]
     | _ =>
      rw[hex] at h fo
      first
       | (exfalso;cases hfi:fq.first<;>(rw[hfi] at fo;cases fo);done)
       | (obtain⟨an,us,hnd,tp,ts0⟩:=h.tup; obtain⟨u0,r0,rfl,t0,ts1⟩:=ts0.inv; obtain rfl:=t0.int; refine⟨an,_,_,hnd,tp,.inl ⟨by decide,?_⟩⟩; unfold Ha09.rises; rw[hf]; cases hfi:fq.first<;>(rw[hfi] at fo;cases fo)<;>rfl)
    rw[hnd] at hob
    refine⟨_,rfl,fq.a,_,_,_,rfl,rfl,dM.of hob,eR,an,_,_,_,rfl,rfl,tp.sq,eR,_,_,rfl,rfl,_,rfl,?_⟩
    rcases hcase with⟨ht,er⟩|⟨rfl,u1,u2,b,rfl,hnr,hz,er⟩
    ·refine dF ht ?_
     rw[er,dv] at k
     exact k H1 hv W wsA pf (by omega) cF (Ext.refl _ _)
    ·refine dT rfl ?_
     rw[er,dv] at k
     refine⟨_,rfl,l.p,l.dx,_,rfl,paA.ob,zn (by decide +kernel),_,rfl,fq.a,_,_,_,rfl,rfl,dM.of hob,eR,an,_,_,_,rfl,rfl,tp.sq,at2,_,rfl,l.p,_,l.dx,_,_,rfl,paA.ob,T.ao,T.aQ,zl 5 ck rfl rfl,by show 1<=sizeLine;decide,fun n hn=>?_⟩
     refine⟨_,rfl,fq.a,_,_,_,rfl,rfl,dM.of ((Ch.new (ex:=[]) hn).tu _ _ hob),tO,?_⟩
     refine IE (ct.2.mono c1 pf pn) ne.v (by omega) (fun H2 uu c2 hu=>?_) n hn
     have pa2:=ji.mono c2 pf pn (by simp) paA
     refine⟨l.p,l.dx,({r with ws:=ws1}:PV).fs (i+1) p.born l,_,_,rfl,⟨pa2.ob,rfl⟩,?_⟩
     have ws2:=(wsA.news c2).Az (r:={r with ws:=ws1}) xA (by rw[enA];exact pa2) (r':={r with ws:=ws1,md:=.int 0,nd:=u2,vr:=uu}) (t:=.eval b (v::fq.env)) rfl rfl rfl rfl rfl (by rw[enA];exact⟨rfl,hnr.mono c2,hu,by simp only[List.length_cons];omega⟩)
     rw[EF] at ws2
     refine k _ hv W ws2 pf ?_ ((cF.trans (c2.mono (by simp))).trans (Ch.put pa2.ob trivial (jh x.l _ mU.1))) (Ext.refl _ _)
     have:=iM (p':={p with ctrl:=.eval b (v::fq.env),frames:=fs}) x.p
     have e6:iK p=iK {p with ctrl:=.eval b (v::fq.env),frames:=fs}+1:=by simp[iK,hf];omega
     omega
inductive yl (P:Program) (w:World) (A:Ad) (K:PySem.W.Frag) (vs:List V) (H:Hp) (Q:VK) (E:XK):Prop|mk (hv:Tab) (W:WL) (q:QL) (s:Ha09.St) (i:Nat) (l:PL) (p:Proc) (v:Val):vs=[.ref W.w,.ref l.p]->WS P w A K H hv W q s->yh W s i l p->p.ctrl=.back v->hv.length+wt s<=15000000->s.procs.length<=20->((aP s i (Ha09.returns s.program p v)).procs.length<=20->jg P w A K H hv W q s (aP s i (Ha09.returns s.program p v)) 2 (Q .bo))->(20<(aP s i (Ha09.returns s.program p v)).procs.length->GX P w A H hv W q s 2 E)->yl P w A K vs H Q E
def Ez (P:Program) (w:World) (A:Ad) (K:PySem.W.Frag):Sp:=fun vs H Q E=>yl P w A K vs H Q E
inductive KdA (K:PySem.W.Frag) (H:Hp) (fq:wI) (f:Ha09.Frame) (A:Ad) (t:Int) (us:List V):Prop|mk (j:Nat) (u:V) (b:Ha09.Expr):fq.fv=.bo->qe (jX A) (.inl t)=some (.int (j:Int))->(V.int t::us)[j]?=some u->NR K H u b->fq.env.length+32*b7 b+32<=700 ->
   (∀(prog:List Ha09.Expr) (p:Proc) (fs:List Ha09.Frame) (v:Val),p.frames=f::fs->∃f',frameOf fq.ex fq.env (some v)=some f'/\Ha09.returns prog p v=Ha09.quiet {p with ctrl:=.eval b fq.env,frames:=f'::fs})->KdA K H fq f A t us
inductive KdB (fq:wI) (A:Ad) (t:Int):Prop|mk (k:IT):qe (DF A) (.inl t)=some (.ref (k.addr A))->k.cond fq->((qe (jX A) (.inl t)).isSome=true->fq.fv≠.bo)->KdB fq A t
inductive KdI (K:PySem.W.Frag) (H:Hp) (fq:wI) (f:Ha09.Frame) (A:Ad):Prop|mk (an:Addr) (t:Int) (us:List V):fq.nv=.ref an->TupAt K H an (.int t::us)->(KdA K H fq f A t us\/KdB fq A t)->KdI K H fq f A
theorem kinds {H:Hp} {hv:Tab} {bz:qX} {fq:wI} {tv:V} {f:Ha09.Frame} (A:Ad) (fa:FrA K H hv bz fq tv f):KdI K H fq f A:=by
 have h:=fa.ne.n.1
 have ok:=fa.ne.n.2
 have hz:=fa.ne.z
 have fo:=fa.fo
 have hfs:=fa.fs
 have vrn:∀{u:V} {x:Val},VR H hv bz u x->u≠.bo:=fun {u x} ⟨m,⟨a,e,_⟩,_⟩ z=>by rw[z] at e;cases e
 cases hex:fq.ex with
 | num z=>rw[hex] at fo;cases hfi:fq.first<;>(rw[hfi] at fo;cases fo)
 | var z=>rw[hex] at fo;cases hfi:fq.first<;>(rw[hfi] at fo;cases fo)
 | self=>rw[hex] at fo;cases hfi:fq.first<;>(rw[hfi] at fo;cases fo)
 | recv a b c d=>rw[hex] at fo;cases hfi:fq.first<;>(rw[hfi] at fo;cases fo)
 | wait a b c d=>rw[hex] at fo;cases hfi:fq.first<;>(rw[hfi] at fo;cases fo)
 | pair y z =>
  rw[hex] at h ok hz fo
  obtain⟨an,us,hnd,tp,ts0⟩:=h.tup
  obtain⟨u0,r0,rfl,t0,ts1⟩:=ts0.inv
  obtain rfl:=t0.int
  obtain⟨u1,r1,rfl,t1,ts2⟩:=ts1.inv
  obtain⟨u2,r2,rfl,t2,ts3⟩:=ts2.inv
  simp only[b7] at hz
  cases hfi:fq.first with
  | none =>
   rw[hfi] at fo hfs
   cases fo
   exact⟨an,2,_,hnd,tp,.inl ⟨2,u2,z,hfs,rfl,rfl,⟨t2,ok.2⟩,by omega,fun prog p fs v hf=>⟨_,by rw[hex];rfl,by unfold Ha09.returns;rw[hf]⟩⟩⟩
  | some a =>
   rw[hfi] at hfs
   exact⟨an,2,_,hnd,tp,.inr ⟨.both,rfl,⟨y,z,a,hex,hfi⟩,fun _=>vrn hfs⟩⟩
 | op k y z =>
  rw[hex] at h ok hz fo
  obtain⟨an,us,hnd,tp,ts0⟩:=h.tup
  obtain⟨u0,r0,rfl,t0,ts1⟩:=ts0.inv
  obtain rfl:=t0.int
  obtain⟨u1,r1,rfl,t1,ts2⟩:=ts1.inv
  obtain⟨u2,r2,rfl,t2,ts3⟩:=ts2.inv
  obtain⟨u3,r3,rfl,t3,ts4⟩:=ts3.inv
  simp only[b7] at hz
  cases hfi:fq.first with
  | none =>
   rw[hfi] at fo hfs
   cases fo
   exact⟨an,3,_,hnd,tp,.inl ⟨3,u3,z,hfs,rfl,rfl,⟨t3,ok.2.2⟩,by omega,fun prog p fs v hf=>⟨_,by rw[hex];rfl,by unfold Ha09.returns;rw[hf]⟩⟩⟩
  | some a =>
   rw[hfi] at hfs
   exact⟨an,3,_,hnd,tp,.inr ⟨.HE,rfl,⟨k,y,z,a,hex,hfi⟩,fun _=>vrn hfs⟩⟩
 | send y z =>
  rw[hex] at h ok hz fo
  obtain⟨an,us,hnd,tp,ts0⟩:=h.tup
  obtain⟨u0,r0,rfl,t0,ts1⟩:=ts0.inv
  obtain rfl:=t0.int
  obtain⟨u1,r1,rfl,t1,ts2⟩:=ts1.inv
  obtain⟨u2,r2,rfl,t2,ts3⟩:=ts2.inv
  simp only[b7] at hz
  cases hfi:fq.first with
  | none =>
   rw[hfi] at fo hfs
   cases fo
   exact⟨an,9,_,hnd,tp,.inl ⟨2,u2,z,hfs,rfl,rfl,⟨t2,ok.2⟩,by omega,fun prog p fs v hf=>⟨_,by rw[hex];rfl,by unfold Ha09.returns;rw[hf]⟩⟩⟩
  | some a =>
   rw[hfi] at hfs
   exact⟨an,9,_,hnd,tp,.inr ⟨.send,rfl,⟨y,z,a,hex,hfi⟩,fun _=>vrn hfs⟩⟩
 | let_ y z =>
  rw[hex] at h fo
  obtain⟨an,us,hnd,tp,ts0⟩:=h.tup
  obtain⟨u0,r0,rfl,t0,ts1⟩:=ts0.inv
  obtain rfl:=t0.int
  cases hfi:fq.first with
  | some a=>rw[hfi] at fo;cases fo
  | none=>exact⟨an,4,_,hnd,tp,.inr ⟨.let_,rfl,⟨y,z,hex,hfi⟩,fun q=>by cases q⟩⟩
 | case y pp z c =>
  rw[hex] at h fo
  obtain⟨an,us,hnd,tp,ts0⟩:=h.tup
  obtain⟨u0,r0,rfl,t0,ts1⟩:=ts0.inv
  obtain rfl:=t0.int
  cases hfi:fq.first with
  | some a=>rw[hfi] at fo;cases fo
  | none=>exact⟨an,5,_,hnd,tp,.inr ⟨.choice,rfl,⟨y,pp,z,c,hex,hfi⟩,fun q=>by cases q⟩⟩
 | call g y =>
  rw[hex] at h fo
  obtain⟨an,us,hnd,tp,ts0⟩:=h.tup
  obtain⟨u0,r0,rfl,t0,ts1⟩:=ts0.inv
  obtain rfl:=t0.int
  cases hfi:fq.first with
  | some a=>rw[hfi] at fo;cases fo
  | none=>exact⟨an,6,_,hnd,tp,.inr ⟨.call,rfl,⟨g,y,hex,hfi⟩,fun q=>by cases q⟩⟩
 | spawn g y =>
  rw[hex] at h fo
  obtain⟨an,us,hnd,tp,ts0⟩:=h.tup
  obtain⟨u0,r0,rfl,t0,ts1⟩:=ts0.inv
  obtain rfl:=t0.int
  cases hfi:fq.first with
  | some a=>rw[hfi] at fo;cases fo
  | none=>exact⟨an,10,_,hnd,tp,.inr ⟨.start,rfl,⟨g,y,hex,hfi⟩,fun q=>by cases q⟩⟩
 | watch y =>
  rw[hex] at h fo
  obtain⟨an,us,hnd,tp,ts0⟩:=h.tup
  obtain⟨u0,r0,rfl,t0,ts1⟩:=ts0.inv
  obtain rfl:=t0.int
  cases hfi:fq.first with
  | some a=>rw[hfi] at fo;cases fo
  | none=>exact⟨an,12,_,hnd,tp,.inr ⟨.watch,rfl,⟨y,hex,hfi⟩,fun q=>by cases q⟩⟩
 | raise y =>
  rw[hex] at h fo
  obtain⟨an,us,hnd,tp,ts0⟩:=h.tup
  obtain⟨u0,r0,rfl,t0,ts1⟩:=ts0.inv
  obtain rfl:=t0.int
  cases hfi:fq.first with
  | some a=>rw[hfi] at fo;cases fo
  | none=>exact⟨an,13,_,hnd,tp,.inr ⟨.raise,rfl,⟨y,hex,hfi⟩,fun q=>by cases q⟩⟩
 | try_ y z =>
  rw[hex] at h fo
  obtain⟨an,us,hnd,tp,ts0⟩:=h.tup
  obtain⟨u0,r0,rfl,t0,ts1⟩:=ts0.inv
  obtain rfl:=t0.int
  cases hfi:fq.first with
  | some a=>rw[hfi] at fo;cases fo
  | none=>exact⟨an,14,_,hnd,tp,.inr ⟨.Au,rfl,⟨y,z,hex,hfi⟩,fun q=>by cases q⟩⟩
 | say y =>
  rw[hex] at h fo
  obtain⟨an,us,hnd,tp,ts0⟩:=h.tup
  obtain⟨u0,r0,rfl,t0,ts1⟩:=ts0.inv
  obtain rfl:=t0.int
  cases hfi:fq.first with
  | some a=>rw[hfi] at fo;cases fo
  | none=>exact⟨an,15,_,hnd,tp,.inr ⟨.say,rfl,⟨y,hex,hfi⟩,fun q=>by cases q⟩⟩
theorem rS (T:Tx w K mg A D):aS P w K mg base (wg P w) 6 A.df D.di ["world","process"] (Ez P w A K):=by
 refine T.jf.ES gO (fun vs H Q E h=>?_) (fun cdv A' outer s0 H vs Q E hr hp h=>?_)
 ·obtain⟨hv,W,q,s,i,l,p,v,rfl,_⟩:=h;rfl
 ·obtain⟨hv,W,q,s,i,l,p,v,rfl,ws,x,hc,hb,hle,k,kE⟩:=h
  refine⟨_,(ah (aW (aO (bc (a9 aM rfl T.gc PySem.boot_len (aa (az (pv 1) rfl) ag)) aq)) (ah (aI (aG (pv 0) T.aL T.tD (uo T) (hr.mono (by decide)) T.tM .nil aJ (aa (pv 1) (aa (a8 T.uA) ag))))
   (ak Ds)) aT)
   (ah (aX (i:=2) gO.nd rfl (Or.inl rfl) (z7 PySem.F.plainAttrs_list PySem.F.slot_list_pop PySem.F.type_list_pop Ah (az (pv 1) rfl)))
   (ah (aX (i:=3) gO.nd rfl (Or.inl rfl) (aK aH (pv 2) aq (fun _ _=>rfl)))
   (ak (aW (PW.pt (xt (aO (JB T.ph rfl T.oZ (aK aH (pv 3) aq (fun _ _=>rfl)))) (ud (aO (sZ (aK aH (pv 2) aq (fun _ _=>rfl))))))) (ah (aI (dO PySem.F.plainAttrs_list PySem.F.slot_list_append PySem.F.type_list_append bJ (az (pv 1) rfl) (aa (bR (aa (pv 3) (aa (aK aH (pv 2) aq (fun _ _=>rfl)) (aa (az (pv 1) rfl) ag)))) ag)))
   (ak (aI (aG (pv 1) T.ao T.bA (bt T) (hr.mono (by decide)) T.bC .nil aJ (aa (aK aH (pv 3) (kW T.ph rfl T.oZ (aK aH (pv 3) aq (fun _ _=>rfl))) (fun _ _=>rfl)) (aa (aK aH (pv 2) aq (fun _ _=>rfl)) ag)))))) (ak (aI (FW (addr:=IT.addr A) (sp:=JO P w A K) (kW T.Gx rfl T.Gj (aK aH (pv 3) aq (fun _ _=>rfl))) (doFn T) (hr.mono (by decide)) lN (aa (pv 0) (aa (pv 1) (aa (pv 2) ag))))))))))),?_⟩
  obtain⟨r,pa⟩:=ws.wa.at_ i l p x.l x.p
  obtain⟨la,lb,lc,ld⟩:=pa.len
  have hwx:=oB x.p
  have ct:=pa.ct
  rw[hc] at ct
  have pf:=List.prefix_refl hv
  have pn:=List.prefix_refl (aB s)
  have nd:=ws.wa.FP x.l
  refine⟨_,rfl,l.p,_,l.dx,_,_,rfl,pa.ob,T.ao,T.bU,zl 8 ck rfl rfl,l.td,_,rfl,.inl (bM.of pa.td),_,_,rfl,rfl,_,rfl,?_⟩
  cases hf:p.frames with
  | nil =>
   refine dT (by rw[List.length_reverse,la,hf];rfl) ?_
   have er:Ha09.returns s.program p v=⟨{p with ctrl:=.done v,box:=[],watchers:=[]},nD p 0 v,none⟩:=by
    unfold Ha09.returns;rw[hf];rfl
   rw[er] at k
   refine⟨_,rfl,W.w,W.dx,_,rfl,ws.wa.ob,zn (by decide +kernel),_,rfl,hv,W,q,s,i,l,p,4,.done v,0,v,rfl,ws,x,.inl ⟨rfl,hc,rfl,rfl⟩,hb,?_⟩
   have k':=k (by unfold aP;simpa using hle)
   exact fun H' hv' W' a b d e f=>k' H' hv' W' a b (by omega) e f
  | cons f fs =>
   refine dF (by rw[List.length_reverse,la,hf];simp;omega) ?_
   have yC:=pa.yC
   rw[hf] at yC
   generalize hw:r.ws=rws at yC
   cases yC with
   | @cons w1 _ ws1 _ h1 rest =>
    obtain⟨H1,hH1,c1,wsA,xA,paA,hwA⟩:=popped ws x pa hw hf rest
    obtain⟨fq,fa0⟩:=h1
    have td:=pa.td
    rw[hw] at td
    refine⟨_,rfl,l.p,_,l.dx,_,_,rfl,pa.ob,T.ao,T.bU,zl 8 ck rfl rfl,.inl ⟨rfl,_,bM.of td⟩,l.td,_,_,rfl,rfl,td,(by simp:((w1::ws1).reverse)[((w1::ws1).reverse).length-1]?=some w1),?_⟩
    have hdl:((w1::ws1).reverse).dropLast=ws1.reverse:=by simp
    rw[hdl,hH1]
    have cF:Ch (fp W q) H H1:=c1.mono fun b hb=>by rw[List.mem_singleton.mp hb];exact jh x.l _ mU.2.1
    have enA:aB (bw s i {p with frames:=fs})=aB s:=nW x.p rfl
    have fa:FrA K H1 hv (aB s) fq w1 f:=⟨fa0.rf,c1.tu _ _ fa0.ob,fa0.ne.mono c1 pf pn,wH.mono c1 pf pn fa0.fs,fa0.fo⟩
    obtain⟨an,t,us,hnd,tp,hcase⟩:=kinds A fa
    have hob:=fa.ob
    rw[hnd] at hob
    rw[fa.rf]
    refine⟨_,rfl,fq.a,_,_,_,rfl,rfl,dM.of hob,eR,?_⟩
    refine⟨_,rfl,an,_,_,_,rfl,rfl,tp.sq,eR,.inl t,rfl,_,rfl,?_⟩
    have ctA:VR H1 hv (aB s) r.vl v:=ct.2.mono c1 pf pn
    rcases hcase with⟨j,u,b,hfv,hsp,hj,hnr,hz,hret⟩|⟨kd,hdo,hcond,hsec⟩
    ·
     rw[hsp]
     refine oY ⟨_,rfl,fq.a,_,_,_,rfl,rfl,dM.of hob,at2,_,rfl,dT hfv ?_⟩
     obtain⟨f',hf',er⟩:=hret s.program p fs v hf
     rw[er,dv] at k
     have k':=k (by unfold Bp.bw;simpa using hle)
     obtain⟨lw,_⟩:=paA.len
     refine⟨_,rfl,l.p,_,l.dx,_,_,rfl,paA.ob,T.ao,T.bU,zl 8 ck rfl rfl,.inl ⟨rfl,_,bM.of paA.td⟩,_,rfl,_,rfl,fq.a,_,_,_,rfl,rfl,dM.of hob,tO,_,rfl,l.p,_,l.dx,_,_,rfl,paA.ob,T.ao,T.aQ,zl 5 ck rfl rfl,by show 3<=sizeLine;decide,fun t3 ht3=>?_⟩
     generalize hH2:upd H1 t3 _=H2
     have c2:Ch [] H1 H2:=by rw[<-hH2];exact Ch.new ht3
     have g2:H2 t3=some (.tup [.ref an,fq.vv,r.vl]):=by rw[<-hH2];exact ae
     have td2:=c2.fr _ _ paA.td (by simp)
     have ob2:=c2.fr _ _ paA.ob (by simp)
     refine⟨l.td,_,_,rfl,rfl,td2,by rw[List.length_reverse,lw];simp only[iK] at hwx;rw[hf] at hwx;simp only[List.length_cons] at hwx;rw[sizeLine_eq];show fs.length<_;omega,?_⟩
     have c3:Ch [l.p,l.td] H2 (upd H2 l.td (.lst (ws1.reverse++[.ref t3]))):=Ch.put td2 trivial (by simp)
     have g3:(upd H2 l.td (.lst (ws1.reverse++[.ref t3]))) l.td=some (.lst (V.ref t3::ws1).reverse):=by rw[ae];simp
     have ob3:(upd H2 l.td (.lst (ws1.reverse++[.ref t3]))) l.p=_:=(aE (PL.DB nd).1.1).trans ob2
     generalize upd H2 l.td _=H3 at c3 g3 ob3 ⊢
     have c13:Ch [l.p,l.td] H1 H3:=(c2.mono (by simp)).trans c3
     have tp3:=tp.mono c13
     refine⟨_,rfl,l.p,l.dx,_,rfl,ob3,zn (by decide +kernel),_,rfl,_,rfl,an,_,_,_,rfl,rfl,tp3.sq,eR,.inl t,_,rfl,hsp,an,_,_,_,rfl,rfl,tp3.sq,at_of rfl hj,_,rfl,fq.a,_,_,_,rfl,rfl,dM.of (c13.tu _ _ hob),tO,l.p,l.dx,({r with ws:=ws1}:PV).fs (i+1) p.born l,_,_,rfl,⟨ob3,rfl⟩,?_⟩
     show Q .bo (upd H3 l.p (.ins A.aj l.dx (PN.zip (({r with ws:=.ref t3::ws1,md:=.int 0,nd:=u,vr:=fq.vv}:PV).fs (i+1) p.born l))))
     have c4:Ch [l.p,l.td] H3 (upd H3 l.p (.ins A.aj l.dx (PN.zip (({r with ws:=.ref t3::ws1,md:=.int 0,nd:=u,vr:=fq.vv}:PV).fs (i+1) p.born l)))):=Ch.put ob3 trivial (by simp)
     have o4:(upd H3 l.p (.ins A.aj l.dx (PN.zip (({r with ws:=.ref t3::ws1,md:=.int 0,nd:=u,vr:=fq.vv}:PV).fs (i+1) p.born l)))) l.p=some (.ins A.aj l.dx (PN.zip (({r with ws:=.ref t3::ws1,md:=.int 0,nd:=u,vr:=fq.vv}:PV).fs (i+1) p.born l))):=ae
     have g4:(upd H3 l.p (.ins A.aj l.dx (PN.zip (({r with ws:=.ref t3::ws1,md:=.int 0,nd:=u,vr:=fq.vv}:PV).fs (i+1) p.born l)))) l.td=some (.lst (V.ref t3::ws1).reverse):=(aE (PL.DB nd).1.1.symm).trans g3
     generalize upd H3 l.p _=H4 at c4 o4 g4 ⊢
     have c24:Ch [l.p,l.td] H2 H4:=c3.trans c4
     have c14:Ch [l.p,l.td] H1 H4:=c13.trans c4
     have cc:Ch [l.p,l.td] H H4:=(c1.mono (by simp)).trans c14
     have sub:∀b∈[l.p,l.td],b∈l.addrs:=by simp[PL.addrs]
     obtain⟨⟨n1,n2,n3,n4⟩,⟨m1,m2,m3⟩,⟨o1,o2⟩,p1⟩:=PL.DB nd
     refine k' H4 hv W ?_ pf ?_ (cc.mono fun b hb=>jh x.l b (sub b hb)) (Ext.refl _ _)
     ·refine ws.bw x.l x.p rfl rfl pf cc (fun b hb=>.inl (sub b hb)) (ws.Iq x.l sub cc) (r:={r with ws:=.ref t3::ws1,md:=.int 0,nd:=u,vr:=fq.vv}) ⟨o4,yR.mono cc pa.nm,⟨rfl,hnr.mono c14,fa.ne.v.mono c14 pf pn,by omega⟩,g4,.cons ?_ (Paired.bL rest fun _ _ z=>B5.mono cc pf pn z),cc.fr _ _ pa.bx (by simp[n2.symm,m1.symm]),Paired.bL pa.Dc fun _ _ z=>VR.mono cc pf pn z,cc.fr _ _ pa.sd (by simp[n3.symm,m2.symm]),Paired.bL pa.EG fun _ _ z=>VR.mono cc pf pn z,cc.fr _ _ pa.wt (by simp[n4.symm,m3.symm]),pa.Ek⟩
      exact⟨⟨t3,.ref an,fq.vv,r.vl,fq.ex,fq.env,some v⟩,rfl,c24.tu _ _ g2,by rw[<-hnd];exact fa.ne.mono c14 pf pn,ctA.mono c14 pf pn,hf'⟩
     ·have:=iM (p':={p with ctrl:=.eval b fq.env,frames:=f'::fs}) x.p
      have e6:iK {p with ctrl:=.eval b fq.env,frames:=f'::fs}=iK p:=by simp[iK,hf]
      omega
    ·
     have hps:({({p with frames:=fs}:Proc) with frames:=f::({p with frames:=fs}:Proc).frames}:Proc)=p:=by
      obtain⟨a1,a2,a3,a4,a5,a6,a7⟩:=p
      dsimp only at hf ⊢
      rw[hf]
     have eaf:after (bw s i {p with frames:=fs}) i {p with frames:=fs} v f=aP s i (Ha09.returns s.program p v):=by
      unfold after
      rw[hps,Cq];rfl
     have last:JO P w A K kd [.ref W.w,.ref l.p,.ref fq.a] H1 (fun _ H3=>Q .bo H3) E:=by
      refine⟨hv,W,q,bw s i {p with frames:=fs},i,l,{p with frames:=fs},v,fq,.ref fq.a,f,rfl,⟨wsA,xA,hc,by rw[enA,<-fa.rf];exact fa,by omega⟩,hcond,by unfold Bp.bw;simpa using hle,fun hl=>?_,fun hl=>?_⟩
      ·rw[eaf] at hl ⊢
       exact fun H' hv' W' a b d e f=>(k hl).from cF (m:=3) (s1:=bw s i {p with frames:=fs}) (by omega) H' hv' W' a b d e f
      ·rw[eaf] at hl
       intro H' hv' pr' hp' hl' c'
       exact kE hl H' hv' pr' hp' (by omega) (cF.trans c')
     cases hs:(qe (jX A) (.inl t)).isSome with
     | false =>
      refine mw ?_
      refine⟨_,rfl,an,_,_,_,rfl,rfl,tp.sq,eR,.inl t,_,rfl,hdo,kd,rfl,_,rfl,_,rfl,_,rfl,last⟩
     | true =>
      refine oY ⟨_,rfl,fq.a,_,_,_,rfl,rfl,dM.of hob,at2,_,rfl,dF (hsec hs) ?_⟩
      refine⟨_,rfl,an,_,_,_,rfl,rfl,tp.sq,eR,.inl t,_,rfl,hdo,kd,rfl,_,rfl,_,rfl,_,rfl,last⟩
inductive DY (P:Program) (w:World) (A:Ad) (K:PySem.W.Frag) (vs:List V) (H:Hp) (Q:VK) (E:XK):Prop|mk (hv:Tab) (W:WL) (q:QL) (s:Ha09.St) (i:Nat) (l:PL) (p:Proc):vs=[.ref W.w,.ref l.p]->WS P w A K H hv W q s->yh W s i l p->hv.length+wt s<=15000000->s.procs.length<=20->(∀o,Ha09.stepOf s.program s.time p=some o->(aP s i o).procs.length<=20->jg P w A K H hv W q s (aP s i o) 2 (Q (.bl true)))->(∀o,Ha09.stepOf s.program s.time p=some o->20<(aP s i o).procs.length->GX P w A H hv W q s 2 E)->(Ha09.stepOf s.program s.time p=none->jg P w A K H hv W q s s 0 (Q (.bl false)))->DY P w A K vs H Q E
def Je (P:Program) (w:World) (A:Ad) (K:PySem.W.Frag):Sp:=fun vs H Q E=>DY P w A K vs H Q E
theorem jg.le {H:Hp} {hv:Tab} {W:WL} {q:QL} {s s':Ha09.St} {n m:Nat} {k:Hp->Prop} (h:jg P w A K H hv W q s s' n k) (hm:m<=n):jg P w A K H hv W q s s' m k:=fun H' hv' W' a b d e f=>h H' hv' W' a b (by omega) e f
theorem Ho {s:Ha09.St} {i:Nat} {p:Proc}:(bw s i p).procs.length=s.procs.length:=by unfold Bp.bw;simp
theorem tZ {prog:List Ha09.Expr} {now:Nat} {p:Proc} {o:Ha09.Out} (h:(∃a b c d e,p.ctrl=.awaits a b c d e)\/∃a b c d e,p.ctrl=.awaitsTill a b c d e) (ho:Ha09.stepOf prog now p=some o):o.child=none:=by
 rcases h with⟨a,b,c,d,e,hc⟩|⟨a,b,c,d,e,hc⟩<;>(unfold Ha09.stepOf at ho;rw[hc] at ho;dsimp only at ho)
 ·obtain⟨y,_,rfl⟩:=Option.map_eq_some_iff.mp ho;rfl
 ·split at ho
  ·cases ho;rfl
  ·split at ho
   ·cases ho;rfl
   ·cases ho
theorem Aa (T:Tx w K mg A D):aS P w K mg base (wg P w) 7 A.jr D.jB ["world","process"] (Je P w A K):=by
 refine T.tP.ES zU (fun vs H Q E h=>?_) (fun cdv A' outer s0 H vs Q E hr hp h=>?_)
 ·obtain⟨hv,W,q,s,i,l,p,rfl,_⟩:=h;rfl
 ·obtain⟨hv,W,q,s,i,l,p,rfl,ws,x,hb,hle,kS,kE,kN⟩:=h
  refine⟨_,(ah (aW (fW (gf (pv 1) T.ao T.eZ (gg T) (hr.mono (by decide)) T.fh .nil aJ)) (ak (aF xx)) aT)
   (ah (aW (aO (bc (az (pv 1) rfl) (a8 T.wR))) (ak (aF (aV (um T) (hr.mono (by decide)) rfl T.pQ T.ku.kp T.pR .nil aJ (aa (pv 0) (aa (pv 1) ag))))) aT)
   (ah (aW (aO (bc (az (pv 1) rfl) (a8 T.Ak))) (ak (aI (aV (A7 T) (hr.mono (by decide)) rfl T.zb T.vo.kp T.zm .nil aJ (aa (pv 0) (aa (pv 1) ag))))) (ak (aW (aO (bc (az (pv 1) rfl) (a8 T.Gf))) (ak (aI (aV (rS T) (hr.mono (by decide)) rfl T.mV T.jf.kp T.mY .nil lN (aa (pv 0) (aa (pv 1) ag))))) (ak (aW (aO (bc (az (pv 1) rfl) (a8 T.Al))) (ak (aI (aV (wB T) (hr.mono (by decide)) rfl T.sy T.nP.kp T.sG .nil aJ (aa (pv 0) (aa (pv 1) ag))))) aT)))))
   (ak (aF xx))))),?_⟩
  obtain⟨r,pa⟩:=ws.wa.at_ i l p x.l x.p
  have ct:=pa.ct
  have pf:=List.prefix_refl hv
  cases hc:p.ctrl with
  | done v =>
   rw[hc] at ct
   refine⟨_,rfl,l.p,l.dx,_,rfl,pa.ob,zn (by decide +kernel),l.p,l.dx,_,4,rfl,⟨pa.ob,rfl⟩,(by rw[<-ct.1];rfl),_,rfl,?_⟩
   refine oY ?_
   exact kN (by unfold Ha09.stepOf;rw[hc]) H hv W ws pf (by omega) (Ch.refl _ _) (Ext.refl _ _)
  | failed v =>
   rw[hc] at ct
   refine⟨_,rfl,l.p,l.dx,_,rfl,pa.ob,zn (by decide +kernel),l.p,l.dx,_,5,rfl,⟨pa.ob,rfl⟩,(by rw[<-ct.1];rfl),_,rfl,?_⟩
   refine oY ?_
   exact kN (by unfold Ha09.stepOf;rw[hc]) H hv W ws pf (by omega) (Ch.refl _ _) (Ext.refl _ _)
  | awaits a b c d e =>
   rw[hc] at ct
   refine⟨_,rfl,l.p,l.dx,_,rfl,pa.ob,zn (by decide +kernel),l.p,l.dx,_,3,rfl,⟨pa.ob,rfl⟩,(by rw[<-ct.1];rfl),_,rfl,?_⟩
   refine mw ?_
   refine⟨_,rfl,l.p,_,l.dx,_,_,rfl,pa.ob,T.ao,T.aN,zl 2 ck rfl rfl,_,_,ct.1,rfl,_,rfl,dT rfl ?_⟩
   refine⟨_,rfl,_,rfl,hv,W,q,s,i,l,p,rfl,ws,x,.inl ⟨a,b,c,d,e,hc⟩,hb,fun o ho=>?_,kN⟩
   refine(kS o ho ?_).le (by omega)
   have h1:=tZ (.inl ⟨a,b,c,d,e,hc⟩) ho
   unfold aP;rw[h1];simpa using hle
  | awaitsTill a b c d e =>
   rw[hc] at ct
   refine⟨_,rfl,l.p,l.dx,_,rfl,pa.ob,zn (by decide +kernel),l.p,l.dx,_,3,rfl,⟨pa.ob,rfl⟩,(by rw[<-ct.1];rfl),_,rfl,?_⟩
   refine mw ?_
   refine⟨_,rfl,l.p,_,l.dx,_,_,rfl,pa.ob,T.ao,T.aN,zl 2 ck rfl rfl,_,_,ct.1,rfl,_,rfl,dT rfl ?_⟩
   refine⟨_,rfl,_,rfl,hv,W,q,s,i,l,p,rfl,ws,x,.inr ⟨a,b,c,d,e,hc⟩,hb,fun o ho=>?_,kN⟩
   refine(kS o ho ?_).le (by omega)
   have h1:=tZ (.inr ⟨a,b,c,d,e,hc⟩) ho
   unfold aP;rw[h1];simpa using hle
  | eval a e =>
   rw[hc] at ct
   refine⟨_,rfl,l.p,l.dx,_,rfl,pa.ob,zn (by decide +kernel),l.p,l.dx,_,0,rfl,⟨pa.ob,rfl⟩,(by rw[<-ct.1];rfl),_,rfl,?_⟩
   refine mw ?_
   refine⟨_,rfl,l.p,_,l.dx,_,_,rfl,pa.ob,T.ao,T.aN,zl 2 ck rfl rfl,_,_,ct.1,rfl,_,rfl,dF (by decide) ?_⟩
   refine⟨_,rfl,l.p,_,l.dx,_,_,rfl,pa.ob,T.ao,T.aN,zl 2 ck rfl rfl,_,_,ct.1,rfl,_,rfl,dT rfl ?_⟩
   refine⟨_,rfl,_,rfl,hv,W,q,s,i,l,p,a,e,rfl,ws,x,hc,hb,?_⟩
   have:=kS (Ha09.quiet (Ha09.begins s.time p a e)) (by unfold Ha09.stepOf;rw[hc])
   rw[dv,Ho] at this
   exact this hle
  | back v =>
   rw[hc] at ct
   refine⟨_,rfl,l.p,l.dx,_,rfl,pa.ob,zn (by decide +kernel),l.p,l.dx,_,1,rfl,⟨pa.ob,rfl⟩,(by rw[<-ct.1];rfl),_,rfl,?_⟩
   refine mw ?_
   refine⟨_,rfl,l.p,_,l.dx,_,_,rfl,pa.ob,T.ao,T.aN,zl 2 ck rfl rfl,_,_,ct.1,rfl,_,rfl,dF (by decide) ?_⟩
   refine⟨_,rfl,l.p,_,l.dx,_,_,rfl,pa.ob,T.ao,T.aN,zl 2 ck rfl rfl,_,_,ct.1,rfl,_,rfl,dF (by decide) ?_⟩
   refine⟨_,rfl,l.p,_,l.dx,_,_,rfl,pa.ob,T.ao,T.aN,zl 2 ck rfl rfl,_,_,ct.1,rfl,_,rfl,dT rfl ?_⟩
   refine⟨_,rfl,_,rfl,hv,W,q,s,i,l,p,v,rfl,ws,x,hc,hb,hle,?_,?_⟩
   ·exact kS _ (by unfold Ha09.stepOf;rw[hc])
   ·exact kE _ (by unfold Ha09.stepOf;rw[hc])
  | up v =>
   rw[hc] at ct
   refine⟨_,rfl,l.p,l.dx,_,rfl,pa.ob,zn (by decide +kernel),l.p,l.dx,_,2,rfl,⟨pa.ob,rfl⟩,(by rw[<-ct.1];rfl),_,rfl,?_⟩
   refine mw ?_
   refine⟨_,rfl,l.p,_,l.dx,_,_,rfl,pa.ob,T.ao,T.aN,zl 2 ck rfl rfl,_,_,ct.1,rfl,_,rfl,dF (by decide) ?_⟩
   refine⟨_,rfl,l.p,_,l.dx,_,_,rfl,pa.ob,T.ao,T.aN,zl 2 ck rfl rfl,_,_,ct.1,rfl,_,rfl,dF (by decide) ?_⟩
   refine⟨_,rfl,l.p,_,l.dx,_,_,rfl,pa.ob,T.ao,T.aN,zl 2 ck rfl rfl,_,_,ct.1,rfl,_,rfl,dF (by decide) ?_⟩
   refine⟨_,rfl,l.p,_,l.dx,_,_,rfl,pa.ob,T.ao,T.aN,zl 2 ck rfl rfl,_,_,ct.1,rfl,_,rfl,dT rfl ?_⟩
   refine⟨_,rfl,_,rfl,hv,W,q,s,i,l,p,v,rfl,ws,x,hc,hb,?_⟩
   refine kS _ (by unfold Ha09.stepOf;rw[hc]) ?_
   have h1:(Ha09.rises p v).child=none:=by unfold Ha09.rises;split<;>rfl
   unfold aP;rw[h1];simpa using hle
theorem EV {s t:Ha09.St} {n:List Nat} (h:Ha09.moves s n=some t):s.procs.length<=t.procs.length:=by
 unfold Ha09.moves at h
 obtain⟨p,h1,h2⟩:=Option.bind_eq_some_iff.mp h
 obtain⟨o,h3,h4⟩:=Option.map_eq_some_iff.mp h2
 rw[<-h4]
 unfold Ha09.setProc
 cases o.child<;>simp
theorem xp:∀(k:Nat) (s:Ha09.St) (n:List Nat),s.procs.length<=(Ha09.runs k s n).1.procs.length
 | 0,s,n=>Nat.le_refl _
 | k+1,s,n=>by
  unfold Ha09.runs
  cases h:Ha09.moves s n with
  | none=>exact Nat.le_refl _
  | some t=>exact Nat.le_trans (EV h) (xp k t n)
theorem yY {s:Ha09.St} {i:Nat} {p:Proc} {o:Ha09.Out} {k:Nat} (g:Good s) (h:s.procs[i]?=some p) (ho:Ha09.stepOf s.program s.time p=some o):Ha09.runs (k+1) s p.name=Ha09.oneMore (Ha09.runs k (aP s i o) p.name):=by
 show(match Ha09.moves s p.name with|some t=>Ha09.oneMore (Ha09.runs k t p.name)|none=>(s,0))=_
 rw[Bp.Bk g.nd h,ho];rfl
theorem EJ {s:Ha09.St} {i:Nat} {p:Proc} {k:Nat} (g:Good s) (h:s.procs[i]?=some p) (ho:Ha09.stepOf s.program s.time p=none):Ha09.runs k s p.name=(s,0):=by
 cases k with
 | zero=>rfl
 | succ k =>
  show(match Ha09.moves s p.name with|some t=>Ha09.oneMore (Ha09.runs k t p.name)|none=>(s,0))=_
  rw[Bp.Bk g.nd h,ho];rfl
inductive BS (P:Program) (w:World) (A:Ad) (K:PySem.W.Frag) (vs:List V) (H:Hp) (Q:VK) (E:XK):Prop|mk (hv:Tab) (W:WL) (q:QL) (s:Ha09.St) (i:Nat) (l:PL) (p:Proc) (m:Nat):vs=[.ref W.w,.ref l.p,.int (m:Int)]->WS P w A K H hv W q s->yh W s i l p->hv.length+wt s+2*m<=15000000->s.procs.length<=20->((Ha09.runs m s p.name).1.procs.length<=20->jg P w A K H hv W q s (Ha09.runs m s p.name).1 (2*m) (Q (.int ((Ha09.runs m s p.name).2:Int))))->(20<(Ha09.runs m s p.name).1.procs.length->GX P w A H hv W q s (2*m) E)->BS P w A K vs H Q E
def G9 (P:Program) (w:World) (A:Ad) (K:PySem.W.Frag):Sp:=fun vs H Q E=>BS P w A K vs H Q E
theorem Ext.place {W W1:WL} {H:Hp} (x:Ext W W1 H) {i:Nat} {l:PL} (h:W.pl[i]?=some l):∃l1,W1.pl[i]?=some l1/\l1.p=l.p:=by
 obtain⟨t,ht⟩:=x.pl
 have h1:(W.pl.map (·.p))[i]?=some l.p:=by rw[List.getElem?_map,h];rfl
 have h2:(W1.pl.map (·.p))[i]?=some l.p:=by
  rw[<-ht,List.getElem?_append_left (List.getElem?_eq_some_iff.mp h1).1];exact h1
 rw[List.getElem?_map] at h2
 obtain⟨l1,a,b⟩:=Option.map_eq_some_iff.mp h2
 exact⟨l1,a,b⟩
theorem GX.from {H H1:Hp} {hv hv1:Tab} {W W1:WL} {q:QL} {s s1:Ha09.St} {n m:Nat} {E:XK} (h:GX P w A H hv W q s n E) (p1:hv<+:hv1) (c:Ch (fp W q) H H1) (e:Ext W W1 H) (hl:hv1.length+wt s1+m<=hv.length+wt s+n):GX P w A H1 hv1 W1 q s1 m E :=
 fun H' hv' a b d c'=>h H' hv' a (p1.trans b) (by omega) (j5 c e c')
structure IK (P:Program) (w:World) (A:Ad) (K:PySem.W.Frag) (H:Hp) (hv:Tab) (W:WL) (q:QL) (s:Ha09.St) (i:Nat) (l:PL) (p:Proc) (m k j:Nat) (H1:Hp) (hv1:Tab) (W1:WL) (s1:Ha09.St) (l1:PL) (p1:Proc):Prop where
 ws:WS P w A K H1 hv1 W1 q s1
 x:yh W1 s1 i l1 p1
 lp:l1.p=l.p
 nm:p1.name=p.name
 pf:hv<+:hv1
 le:hv1.length+wt s1<=hv.length+wt s+2*k
 c:Ch (fp W q) H H1
 e:Ext W W1 H
 kj:k+j=m
 pl:s1.procs.length<=20
 rs:(Ha09.runs m s p.name).1=(Ha09.runs j s1 p.name).1
 rn:(Ha09.runs m s p.name).2=k+(Ha09.runs j s1 p.name).2
theorem rZ (T:Tx w K mg A D):aS P w K mg base (wg P w) 8 A.hX D.iy ["world","process","most"] (G9 P w A K):=by
 refine T.ng.ES nj (fun vs H Q E h=>?_) (fun cdv A' outer s0 H vs Q E hr hp h=>?_)
 ·obtain⟨hv,W,q,s,i,l,p,m,rfl,_⟩:=h;rfl
 ·obtain⟨hv,W,q,s,i,l,p,m,rfl,ws,x,hb,hle,kS,kE⟩:=h
  refine⟨_,(ah (aX (i:=3) nj.nd rfl (Or.inl rfl) aq)
   (ah (qu hp (PW.pt (xt (aO (xy (pv 3) (pv 2))) (ud (fW (aV (Aa T) (hr.mono (by decide)) rfl T.xS T.tP.kp T.yc .nil lN (aa (pv 0) (aa (pv 1) ag))))))) (ak (FO (i:=3) nj.nd rfl (Or.inl rfl) aq F9)))
   (ak (aF (pv 3))))),?_⟩
  refine⟨fun j σ Hj=>∃(k:Nat) (hv1:Tab) (W1:WL) (s1:Ha09.St) (l1:PL) (p1:Proc),σ=[some (.ref W.w),some (.ref l.p),some (.int (m:Int)),some (.int (k:Int))]/\IK P w A K H hv W q s i l p m k j Hj hv1 W1 s1 l1 p1,⟨m,0,hv,W,s,l,p,rfl,ws,x,rfl,rfl,List.prefix_refl _,by omega,Ch.refl _ _,Ext.refl _ _,by omega,hle,rfl,by omega⟩,?_⟩
  rintro j σ Hj ⟨k,hv1,W1,s1,l1,p1,rfl,M⟩
  refine⟨_,rfl,_,rfl,_,_,rfl,rfl,?_⟩
  refine⟨_,rfl,?_⟩
  have ew:=M.e.w
  have en:=M.nm
  refine d2 (fun hlt=>?_) fun hlt=>?_
  ·obtain⟨j,rfl⟩:∃j',j=j'+1:=⟨j-1,by have:=M.kj;omega⟩
   have hkj:=M.kj
   have hle1:=M.le
   refine⟨_,rfl,_,rfl,hv1,W1,q,s1,i,l1,p1,by rw[ew,M.lp];rfl,M.ws,M.x,by omega,M.pl,?_,?_,?_⟩
   ·intro o ho hl H2 hv2 W2 ws2 pf2 le2 c2 e2
    have er:=yY (k:=j) M.ws.gd M.x.p ho
    rw[en] at er
    obtain⟨l2,hl2,hlp⟩:=e2.place M.x.l
    refine⟨_,rfl,oY ⟨fun σ' H'=>σ'=[some (.ref W.w),some (.ref l.p),some (.int (m:Int)),some (.int ((k+1:Nat):Int))]/\H'=H2,?_,?_⟩⟩
    ·rintro σ' H' ⟨rfl,rfl⟩
     refine⟨j,by omega,k+1,hv2,W2,aP s1 i o,l2,o.proc,rfl,ws2,⟨hl2,?_⟩,hlp.trans M.lp,(Bp.tY ho).1.trans M.nm,M.pf.trans pf2,by omega,j5 M.c M.e c2,M.e.trans e2 M.c ws2.dj,by omega,hl,?_,?_⟩
     ·unfold aP
      rw[List.getElem?_append_left (by rw[List.length_set];exact(List.getElem?_eq_some_iff.mp M.x.p).1)]
      exact List.getElem?_set_self (List.getElem?_eq_some_iff.mp M.x.p).1
     ·rw[M.rs,er];rfl
     ·rw[M.rn,er];show k+(_+1)=_;omega
    ·exact⟨_,rfl,_,_,rfl,rfl,rfl,rfl⟩
   ·intro o ho hl
    have er:=yY (k:=j) M.ws.gd M.x.p ho
    rw[en] at er
    refine(kE ?_).from M.pf M.c M.e (by omega)
    rw[M.rs,er]
    exact Nat.lt_of_lt_of_le hl (xp _ _ _)
   ·intro ho H2 hv2 W2 ws2 pf2 le2 c2 e2
    have er:=EJ (k:=j+1) M.ws.gd M.x.p ho
    rw[en] at er
    have e1:=M.rs
    have e3:=M.rn
    rw[er] at e1 e3
    dsimp only at e1 e3
    refine⟨_,rfl,mw ⟨_,rfl,?_⟩⟩
    rw[e1,e3] at kS
    exact kS M.pl H2 hv2 W2 ws2 (M.pf.trans pf2) (by omega) (j5 M.c M.e c2) (M.e.trans e2 M.c ws2.dj)
  ·obtain rfl:j=0:=by have:=M.kj;omega
   have e1:=M.rs
   have e3:=M.rn
   have hkj:=M.kj
   have hle1:=M.le
   rw[show Ha09.runs 0 s1 p.name=(s1,0) from rfl] at e1 e3
   dsimp only at e1 e3
   refine mw ⟨_,rfl,?_⟩
   rw[e1,e3] at kS
   exact kS M.pl Hj hv1 W1 M.ws M.pf (by omega) M.c M.e
theorem qg (s:Ha09.St) (p:Proc):aB (Ha09.setProc s p)=aB s:=by
 unfold aB Ha09.setProc
 dsimp only
 rw[List.map_map]
 refine List.map_congr_left fun q _=>?_
 show(if q.name=p.name then p else q).name=q.name
 split
 ·next h=>exact h.symm
 ·rfl
theorem EU {s t:Ha09.St} {n:List Nat} (h:Ha09.moves s n=some t):aB s<+:aB t:=by
 unfold Ha09.moves at h
 obtain⟨p,h1,h2⟩:=Option.bind_eq_some_iff.mp h
 obtain⟨o,h3,h4⟩:=Option.map_eq_some_iff.mp h2
 rw[<-h4]
 have e:=qg s o.proc
 unfold aB at e ⊢
 dsimp only
 rw[<-e]
 cases o.child with
 | none=>exact List.prefix_refl _
 | some c=>dsimp only;rw[List.map_append];exact List.prefix_append _ _
theorem AM:∀(k:Nat) (s:Ha09.St) (n:List Nat),aB s<+:aB (Ha09.runs k s n).1
 | 0,s,n=>List.prefix_refl _
 | k+1,s,n=>by
  unfold Ha09.runs
  cases h:Ha09.moves s n with
  | none=>exact List.prefix_refl _
  | some t=>exact(EU h).trans (AM k t n)
theorem qW (s:Ha09.St) (l:Letter):aB (Ha09.arrives s l)=aB s:=by
 unfold Ha09.arrives
 split
 ·split<;>rfl
 ·split
  ·exact qg _ _
  ·rfl
  ·exact qg _ _
  ·rfl
theorem vT:∀(ls:List Letter) (s:Ha09.St),aB (Ha09.deliverAll ls s)=aB s
 | [],s=>rfl
 | l::r,s=>(vT r _).trans (qW s l)
theorem rE (s:Ha09.St):s.procs.length=(aB s).length:=by unfold aB;simp
def turn (u:Ha09.St) (n:List Nat):Ha09.St:=(Ha09.runs 10 u n).1
theorem xY:∀(ns:List (List Nat)) (s:Ha09.St),s.procs.length<=(ns.foldl turn s).procs.length
 | [],s=>Nat.le_refl _
 | n::r,s=>Nat.le_trans (xp 10 s n) (xY r (turn s n))
theorem AO (s:Ha09.St):Ha09.round s=Ha09.deliverAll ((aB s).foldl turn s).air {((aB s).foldl turn s) with air:=[]}:=rfl
theorem uZ (s:Ha09.St):(Ha09.round s).procs.length=((aB s).foldl turn s).procs.length:=by
 rw[AO,rE,vT,rE];rfl
theorem xq:∀(n:Nat) (s:Ha09.St),s.procs.length<=(Ha09.rounds n s).procs.length
 | 0,s=>Nat.le_refl _
 | n+1,s=>Nat.le_trans (by rw[uZ];exact xY _ _) (xq n (Ha09.round s))
theorem Fi {ls:List Letter} {i:Nat} {l:Letter} (h:ls[i]?=some l):rP (ls.drop i)=zP l+rP (ls.drop (i+1)):=by
 obtain⟨hi,e⟩:=List.getElem?_eq_some_iff.mp h
 rw[List.drop_eq_getElem_cons hi,e]
 unfold rP
 simp
theorem WS.newA {H H':Hp} {hv:Tab} {W:WL} {q:QL} {s:Ha09.St} {nl:Addr} (h:WS P w A K H hv W q s) (hn:H nl=none) (c:Ch [W.w] H H') (ho:H' W.w=some (.ins A.aR W.dx (WN.zip [W.fn,.ref W.ps,.ref nl,.int (s.time:Int),.ref W.pr]))) (hl:H' nl=some (.lst [])) :
  WS P w A K H' hv {W with ls:=nl} q {s with air:=[]}/\∀b∈({W with ls:=nl}:WL).addrs,b∈W.addrs\/H b=none:=by
 obtain⟨n1,n2,n3⟩:=h.wa.heads
 have nd:=h.wa.nd
 have fresh:nl∉W.addrs:=fun z=>by obtain⟨o,q⟩:=h.wa.there nl z;rw[hn] at q;cases q
 have pf:=List.prefix_refl hv
 have pn:=List.prefix_refl (aB s)
 have nw:∀b∈W.addrs,b≠W.w->b∉[W.w]:=fun b _ hb z=>hb (List.mem_singleton.mp z)
 have sub:∀b∈({W with ls:=nl}:WL).addrs,b∈W.addrs\/b=nl:=fun b hb=>by
  unfold WL.addrs at hb ⊢
  simp only[List.mem_cons] at hb ⊢
  rcases hb with z|z|z|z
  ·exact .inl (.inl z)
  ·exact .inl (.inr (.inl z))
  ·exact .inr z
  ·exact .inl (.inr (.inr (.inr z)))
 refine⟨⟨⟨ho,?_,h.wa.fd,c.fr _ _ h.wa.ps (by simp[n1.symm]),h.wa.len,fun i l p e1 e2=>?_,⟨[],hl,.nil⟩,?_⟩,h.pr.mono c (fun b hb z=>h.dj b hb (by rw[List.mem_singleton.mp z];simp[WL.addrs])),h.po,fun b hb z=>?_,⟨h.gd.nd,h.gd.ch,h.gd.ln⟩⟩,fun b hb=>?_⟩
 ·obtain⟨a,vs,e,t,r⟩:=h.wa.fn;exact⟨a,vs,e,t.mono c,Paired.bL r fun _ _ z=>z.mono c⟩
 ·obtain⟨r',q'⟩:=h.wa.at_ i l p e1 e2
  exact⟨r',ji.mono c pf pn (fun b hb=>by simp[(h.wa.own e1 b hb).1]) q'⟩
 ·unfold WL.addrs at nd fresh ⊢
  obtain⟨x1,x2⟩:=List.nodup_cons.mp nd
  obtain⟨y1,y2⟩:=List.nodup_cons.mp x2
  obtain⟨z1,z2⟩:=List.nodup_cons.mp y2
  simp only[List.mem_cons,not_or] at x1 y1 z1 fresh
  refine List.nodup_cons.mpr ⟨?_,List.nodup_cons.mpr ⟨?_,List.nodup_cons.mpr ⟨?_,z2⟩⟩⟩
  ·simp only[List.mem_cons,not_or];exact⟨x1.1,Ne.symm fresh.1,x1.2.2⟩
  ·simp only[List.mem_cons,not_or];exact⟨Ne.symm fresh.2.1,y1.2⟩
  ·exact fresh.2.2.2
 ·rcases sub b z with z|z
  ·exact h.dj b hb z
  ·subst z
   obtain⟨as,xs,e1,_,e2,_⟩:=h.pr.ex
   simp[QL.addrs] at hb
   rcases hb with rfl|rfl|rfl
   ·rw[h.pr.ob] at hn;cases hn
   ·rw[e1] at hn;cases hn
   ·rw[e2.ob] at hn;cases hn
 ·exact(sub b hb).imp id fun z=>by rw[z];exact hn
theorem nJ.there {C:Addr} {H:Hp} {q:QL} {hv:Tab} (h:nJ P w C H q hv):∀b∈q.addrs,∃o,H b=some o:=fun b hb=>by
 obtain⟨as,xs,e1,_,e2,_⟩:=h.ex
 simp[QL.addrs] at hb
 rcases hb with rfl|rfl|rfl
 ·exact⟨_,h.ob⟩
 ·exact⟨_,e1⟩
 ·exact⟨_,e2.ob⟩
theorem Ext.since {W W1:WL} {H H1:Hp} (c:Ch [] H H1) (e:Ext W W1 H1):Ext W W1 H:=⟨e.w,e.dx,e.pr,e.fn,e.pl,fun b hb=>(e.fr b hb).imp id fun z=>c.free z (by simp)⟩
inductive GO (P:Program) (w:World) (A:Ad) (K:PySem.W.Frag) (vs:List V) (H:Hp) (Q:VK) (E:XK):Prop|mk (hv:Tab) (W:WL) (q:QL) (s:Ha09.St):vs=[.ref W.w]->WS P w A K H hv W q s->hv.length+wt s+400<=15000000->s.procs.length<=20->((Ha09.round s).procs.length<=20->jg P w A K H hv W q s (Ha09.round s) 400 (Q .bo))->(20<(Ha09.round s).procs.length->GX P w A H hv W q s 400 E)->GO P w A K vs H Q E
def spRnd (P:Program) (w:World) (A:Ad) (K:PySem.W.Frag):Sp:=fun vs H Q E=>GO P w A K vs H Q E
theorem Ba (T:Tx w K mg A D):aS P w K mg base (wg P w) 9 A.lu D.lD ["world"] (spRnd P w A K):=by
 refine T.vt.ES mz (fun vs H Q E h=>?_) (fun cdv A' outer s0 H vs Q E hr hp h=>?_)
 ·obtain⟨hv,W,q,s,rfl,_⟩:=h;rfl
 ·obtain⟨hv,W,q,s,rfl,ws,hb,hle,kS,kE⟩:=h
  refine⟨_,(ah (lL hp rfl (rB (fk ff rfl T.vC boot_list (aa (az (pv 0) rfl) ag))) (gv (i:=1) mz.nd rfl (Or.inl rfl)) (ak (aI (aV (rZ T) (hr.mono (by decide)) rfl T.qN T.ng.kp T.qS .nil lN (aa (pv 0) (aa (pv 1) (aa (a8 T.pN) ag)))))))
   (ah (aX (i:=2) mz.nd rfl (Or.inl rfl) (az (pv 0) rfl))
   (ah (aY (pv 0) (bf ag) rfl)
   (ak (lL hp rfl (rB (pv 2)) (gv (i:=3) mz.nd rfl (Or.inl rfl)) (ak (aI (aG (pv 0) T.aL T.nA (pJ T) (hr.mono (by decide)) T.nH .nil aJ (aa (pv 3) ag))))))))),?_⟩
  refine⟨_,rfl,W.w,_,W.dx,_,_,rfl,ws.wa.ob,T.aL,T.bg,zl 1 mr rfl rfl,W.ps,_,rfl,.inl (bM.of ws.wa.ps),fun la hla=>?_⟩
  generalize hH1:upd H la _=H1
  have c1:Ch [] H H1:=by rw[<-hH1];exact Ch.new hla
  have g1:H1 la=some (.lst (W.pl.map fun l=>.ref l.p)):=by rw[<-hH1];exact ae
  have ws1:=ws.news c1
  have laq:∀W2:WL,Ext W W2 H1->la∉fp W2 q:=fun W2 e z=>by
   rcases List.mem_append.mp z with z|z
   ·rcases e.fr la z with z|z
    ·obtain⟨o,h⟩:=ws.wa.there la z;rw[hla] at h;cases h
    ·rw[g1] at z;cases z
   ·obtain⟨o,h⟩:=ws.pr.there la z;rw[hla] at h;cases h
  refine⟨la,rfl,⟨_,bM.of g1⟩,qO (K:=K) (a:=la) (xs:=W.pl.map fun l=>.ref l.p) (fun j σ Hj=>∃hv1 W1 s1 o1,σ=[some (.ref W.w),o1,none,none]/\WS P w A K Hj hv1 W1 q s1/\hv<+:hv1/\hv1.length+wt s1<=hv.length+wt s+20*j/\Ch (fp W q) H1 Hj/\Ext W W1 H1/\s1.procs.length<=20/\aB s<+:aB s1/\((aB s).drop j).foldl turn s1=(aB s).foldl turn s)
   ⟨hv,W,s,none,rfl,ws1,List.prefix_refl _,by omega,Ch.refl _ _,Ext.refl _ _,hle,List.prefix_refl _,by rfl⟩ (fun j σ Hj _ ⟨hv1,W1,s1,o1,_,_,_,_,c,e,_⟩=>bM.of (c.fr _ _ g1 (laq W (Ext.refl _ _)))) ?_ ?_⟩
  ·rintro j y σ Hj hy ⟨hv1,W1,s1,o1,rfl,wsj,pf,hl,c,e,hl20,hn,hf⟩
   rw[List.getElem?_map] at hy
   obtain⟨l,hlj,rfl⟩:=Option.map_eq_some_iff.mp hy
   have hj:=(List.getElem?_eq_some_iff.mp hlj).1
   rw[ws.wa.len] at hj
   obtain⟨l1,hl1,hlp⟩:=e.place hlj
   have hjn:j<(aB s).length:=by rw[<-rE];exact hj
   obtain⟨p1,hp1,hpn⟩:∃p1,s1.procs[j]?=some p1/\p1.name=(aB s)[j]:=by
    have h1:=uf hn (List.getElem?_eq_getElem hjn)
    unfold aB at h1
    rw[List.getElem?_map] at h1
    exact Option.map_eq_some_iff.mp h1
   rw[List.drop_eq_getElem_cons hjn,List.foldl_cons,<-hpn] at hf
   have cH:Ch (fp W q) H Hj:=(c1.mono (by simp)).trans c
   refine⟨_,rfl,_,rfl,hv1,W1,q,s1,j,l1,p1,10,by rw[e.w,hlp];rfl,wsj,⟨hl1,hp1⟩,by omega,hl20,?_,?_⟩
   ·intro hl2 H2 hv2 W2 ws2 pf2 le2 c2 e2
    exact⟨hv2,W2,_,_,rfl,ws2,pf.trans pf2,by omega,j5 c e c2,e.trans e2 c ws2.dj,hl2,hn.trans (AM _ _ _),hf⟩
   ·intro hl2
    refine(kE ?_).from pf cH (e.since c1) (by omega)
    rw[uZ,<-hf]
    exact Nat.lt_of_lt_of_le hl2 (xY _ _)
  ·rintro σ Hj ⟨hv1,W1,s1,o1,rfl,wsj,pf,hl,c,e,hl20,hn,hf⟩
   rw[List.length_map,ws.wa.len,rE,List.drop_length] at hf
   rw[List.length_map,ws.wa.len] at hl
   have hf':s1=(aB s).foldl turn s:=hf
   have hrl:=uZ s
   have hre:=AO s
   rw[<-hf'] at hrl hre
   have ob1:=wsj.wa.ob
   have ew:=e.w
   obtain⟨lv,hls,hlt⟩:=wsj.wa.ls
   obtain⟨n1,n2,n3⟩:=wsj.wa.heads
   rw[ew] at ob1 n1 n2
   refine⟨_,rfl,W.w,_,W1.dx,_,_,rfl,ob1,T.aL,T.br,zl 2 mr rfl rfl,?_⟩
   refine⟨Nat.zero_le _,fun nl hnl=>?_⟩
   generalize hH2:upd Hj nl _=H2
   have c2:Ch [W.w] Hj H2:=by rw[<-hH2];exact Ch.new hnl
   have g2:H2 nl=some (.lst []):=by rw[<-hH2];exact ae
   have ob2:=(show H2 W.w=Hj W.w from by rw[<-hH2];exact aE (ay ob1 hnl)).trans ob1
   refine⟨_,rfl,W.w,_,W1.dx,_,rfl,ob2,T.aL,T.br,(by decide:5<1000),?_⟩
   rw[zp 2 mr rfl (by show 2<5;decide)]
   generalize hH3:upd H2 W.w _=H3
   have c3:Ch [W.w] Hj H3:=by rw[<-hH3];exact c2.trans (Ch.put ob2 trivial (by simp))
   have g3:H3 nl=some (.lst []):=by rw[<-hH3];exact(aE (ay ob1 hnl).symm).trans g2
   have ob3:H3 W.w=some (.ins A.aR W1.dx (WN.zip [W1.fn,.ref W1.ps,.ref nl,.int (s1.time:Int),.ref W1.pr])):=by rw[<-hH3];exact ae
   rw[<-ew] at c3 ob3
   obtain⟨ws3,fr3⟩:=wsj.newA hnl c3 ob3 g3
   have ls3:=c3.fr _ _ hls (by rw[ew];simp[n2.symm])
   have hpl:=Paired.length hlt
   have e3:Ext W1 {W1 with ls:=nl} Hj:=⟨rfl,rfl,rfl,rfl,List.prefix_refl _,fr3⟩
   have w3:∀W4:WL,Ext {W1 with ls:=nl} W4 H3->W1.ls∉fp W4 q:=fun W4 e4 z=>by
    rcases List.mem_append.mp z with z|z
    ·rcases e4.fr _ z with z|z
     ·have nd:=ws3.wa.nd
      have nd1:=wsj.wa.nd
      unfold WL.addrs at z nd1
      simp only[List.mem_cons] at z
      obtain⟨x1,x2⟩:=List.nodup_cons.mp nd1
      obtain⟨y1,y2⟩:=List.nodup_cons.mp x2
      obtain⟨z1,z2⟩:=List.nodup_cons.mp y2
      rcases z with z|z|z|z
      ·exact x1 (by rw[<-z];simp)
      ·exact y1 (by rw[<-z];simp)
      ·rw[z] at hls;rw[hnl] at hls;cases hls
      ·exact z1 z
     ·rw[ls3] at z;cases z
    ·exact wsj.dj _ z (by simp[WL.addrs])
   have wA:wt {s1 with air:=[]}+rP s1.air=wt s1:=by unfold wt;simp[rP];omega
   refine⟨_,rfl,W1.ls,rfl,⟨_,bM.of ls3⟩,qO (K:=K) (a:=W1.ls) (xs:=lv) (fun j σ H4=>∃hv4 W4 s4 o1 o3,σ=[some (.ref W.w),o1,some (.ref W1.ls),o3]/\WS P w A K H4 hv4 W4 q s4/\hv1<+:hv4/\hv4.length+wt s4+rP (s1.air.drop j)<=hv1.length+wt s1/\Ch (fp {W1 with ls:=nl} q) H3 H4/\Ext {W1 with ls:=nl} W4 H3/\aB s4=aB s1/\Ha09.deliverAll (s1.air.drop j) s4=Ha09.round s)
    ⟨hv1,_,_,_,none,rfl,ws3,List.prefix_refl _,by rw[List.drop_zero];omega,Ch.refl _ _,Ext.refl _ _,rfl,hre.symm⟩ (fun j σ H4 _ ⟨hv4,W4,s4,o1,o3,_,_,_,_,c4,e4,_⟩=>bM.of (c4.fr _ _ ls3 (w3 _ (Ext.refl _ _)))) ?_ ?_⟩
   ·rintro j y σ H4 hy ⟨hv4,W4,s4,o1,o3,rfl,ws4,pf4,hl4,c4,e4,hn4,hd4⟩
    obtain⟨L,hL,hLt⟩:=A1 hlt hy
    have ob4:=ws4.wa.ob
    have ew4:W4.w=W.w:=e4.w.trans ew
    rw[ew4] at ob4
    have hwd:=Fi hL
    have hdc:s1.air.drop j=L::s1.air.drop (j+1):=by
     obtain⟨hi,e⟩:=List.getElem?_eq_some_iff.mp hL
     rw[List.drop_eq_getElem_cons hi,e]
    rw[hdc] at hd4
    refine⟨_,rfl,W.w,W4.dx,_,rfl,ob4,zn (by decide +kernel),_,rfl,hv4,W4,q,s4,y,L,by rw[ew4];rfl,ws4,?_,by omega,?_⟩
    ·rw[hn4]
     exact yi.mono c4 pf4 (List.prefix_refl _) (yi.mono c3 (List.prefix_refl _) (List.prefix_refl _) hLt)
    ·intro H5 hv5 W5 ws5 pf5 le5 c5 e5
     exact⟨hv5,W5,_,_,_,rfl,ws5,pf4.trans pf5,by omega,j5 c4 e4 c5,e4.trans e5 c4 ws5.dj,(qW _ _).trans hn4,hd4⟩
   ·rintro σ H4 ⟨hv4,W4,s4,o1,o3,rfl,ws4,pf4,hl4,c4,e4,hn4,hd4⟩
    rw[hpl,List.drop_length] at hd4 hl4
    have hd5:s4=Ha09.round s:=hd4
    subst hd5
    have c13:Ch (fp W1 q) Hj H3:=c3.mono fun b hb=>by rw[List.mem_singleton.mp hb];simp[fp,WL.addrs]
    have cA:=j5 c e c13
    have eA:=e.trans e3 c ws3.dj
    have cB:=j5 cA eA c4
    have eB:=eA.trans e4 cA ws4.dj
    refine kS (by omega) H4 hv4 W4 ws4 (pf.trans pf4) (by omega) ((c1.mono (by simp)).trans cB) (eB.since c1)
inductive D1 (P:Program) (w:World) (A:Ad) (K:PySem.W.Frag) (vs:List V) (H:Hp) (Q:VK) (E:XK):Prop|mk (hv:Tab) (W:WL) (q:QL) (s:Ha09.St) (n:Nat):vs=[.ref W.w,.int (n:Int)]->WS P w A K H hv W q s->n<=30->hv.length+wt s+400*n<=15000000->s.procs.length<=20->((Ha09.rounds n s).procs.length<=20->jg P w A K H hv W q s (Ha09.rounds n s) (400*n) (Q .bo))->(20<(Ha09.rounds n s).procs.length->GX P w A H hv W q s (400*n) E)->D1 P w A K vs H Q E
def Jg (P:Program) (w:World) (A:Ad) (K:PySem.W.Frag):Sp:=fun vs H Q E=>D1 P w A K vs H Q E
theorem Ab (T:Tx w K mg A D):aS P w K mg base (wg P w) 10 A.js D.jD ["world","rounds"] (Jg P w A K):=by
 refine T.tQ.ES t7 (fun vs H Q E h=>?_) (fun cdv A' outer s0 H vs Q E hr hp h=>?_)
 ·obtain⟨hv,W,q,s,n,rfl,_⟩:=h;rfl
 ·obtain⟨hv,W,q,s,n,rfl,ws,hn,hb,hle,kS,kE⟩:=h
  refine⟨_,(ak (lL hp rfl (EL rfl T.Cg (aa (pv 1) ag)) (gv (i:=2) t7.nd rfl (Or.inl rfl)) (ak (aI (aV (Ba T) (hr.mono (by decide)) rfl T.ze T.vt.kp T.zx .nil lN (aa (pv 0) ag)))))),?_⟩
  refine⟨_,rfl,(n:Int),rfl,by omega,by omega,?_⟩
  rw[Int.toNat_natCast]
  refine zg (fun j σ Hj=>∃hv1 W1 s1 o,σ=[some (.ref W.w),some (.int (n:Int)),o]/\WS P w A K Hj hv1 W1 q s1/\hv<+:hv1/\hv1.length+wt s1<=hv.length+wt s+400*j/\Ch (fp W q) H Hj/\Ext W W1 H/\s1.procs.length<=20/\Ha09.rounds (n-j) s1=Ha09.rounds n s)
   ⟨hv,W,s,none,rfl,ws,List.prefix_refl _,by omega,Ch.refl _ _,Ext.refl _ _,hle,rfl⟩ ?_ ?_
  ·rintro j σ Hj hj ⟨hv1,W1,s1,o,rfl,ws1,pf,hl,c,e,hl20,hr1⟩
   obtain⟨m,hm⟩:∃m,n-j=m+1:=⟨n-j-1,by omega⟩
   have hm':n-(j+1)=m:=by omega
   rw[hm] at hr1
   refine⟨_,rfl,hv1,W1,q,s1,by rw[e.w];rfl,ws1,by omega,hl20,?_,?_⟩
   ·intro hl2 H2 hv2 W2 ws2 pf2 le2 c2 e2
    exact⟨hv2,W2,_,_,rfl,ws2,pf.trans pf2,by omega,j5 c e c2,e.trans e2 c ws2.dj,hl2,by rw[hm'];exact hr1⟩
   ·intro hl2
    refine(kE ?_).from pf c e (by omega)
    rw[<-hr1]
    exact Nat.lt_of_lt_of_le hl2 (xq m (Ha09.round s1))
  ·rintro σ Hj ⟨hv1,W1,s1,o,rfl,ws1,pf,hl,c,e,hl20,hr1⟩
   rw[Nat.sub_self] at hr1
   have hr2:s1=Ha09.rounds n s:=hr1
   subst hr2
   exact kS hl20 Hj hv1 W1 ws1 pf hl c e
theorem WS.free {H H':Hp} {hv:Tab} {W:WL} {q:QL} {s:Ha09.St} {ex:List Addr} (ws:WS P w A K H hv W q s) (c:Ch ex H H') (hx:∀b∈ex,b∉fp W q):WS P w A K H' hv W q s :=
 ⟨ws.wa.mono c (List.prefix_refl _) (fun b hb z=>hx b z (List.mem_append.mpr (.inl hb))),ws.pr.mono c (fun b hb z=>hx b z (List.mem_append.mpr (.inr hb))),ws.po,ws.dj,ws.gd⟩
theorem WS.there {H:Hp} {hv:Tab} {W:WL} {q:QL} {s:Ha09.St} (ws:WS P w A K H hv W q s):∀b∈fp W q,∃o,H b=some o:=fun b hb=>by
 rcases List.mem_append.mp hb with h|h
 ·exact ws.wa.there b h
 ·exact ws.pr.there b h
theorem WS.fresh {H:Hp} {hv:Tab} {W:WL} {q:QL} {s:Ha09.St} (ws:WS P w A K H hv W q s) {b:Addr} (h:H b=none):b∉fp W q:=fun z=>by obtain⟨o,e⟩:=ws.there b z;rw[h] at e;cases e
inductive Ea (A:Ad) (K:PySem.W.Frag) (vs:List V) (H:Hp) (Q:VK):Prop|mk (hv:Tab) (W:WL) (s:Ha09.St) (n:Nat):vs=[.ref W.w,.int (n:Int)]->rO A.aj A.aR K H hv W s->Q (.bl (decide (1<=n/\n<=s.procs.length))) H->Ea A K vs H Q
def Jo (A:Ad) (K:PySem.W.Frag):Sp:=fun vs H Q _=>Ea A K vs H Q
theorem b5 (T:Tx w K mg A D):aS P w K mg base eV 1 A.cO D.cV ["self","number"] (Jo A K):=by
 refine T.mj.ok qk (fun vs H Q E h=>?_) (fun cdv A' outer s0 H vs Q E hr h=>?_)
 ·obtain⟨hv,W,s,n,rfl,_⟩:=h;rfl
 ·obtain⟨hv,W,s,n,rfl,wa,k⟩:=h
  refine⟨_,(ak (aF (FX (qz (Ir aq (pv 1))) (Cy (qz (Ir (pv 1) (a9 aM rfl T.gc PySem.boot_len (aa (az (pv 0) rfl) ag)))))))),?_⟩
  refine⟨_,rfl,_,_,rfl,rfl,_,rfl,?_⟩
  refine d2 (fun h1=>?_) fun h1=>?_
  ·refine⟨_,rfl,_,rfl,W.w,_,W.dx,_,_,rfl,wa.ob,T.aL,T.bg,zl 1 mr rfl rfl,W.ps,_,rfl,.inl (bM.of wa.ps),_,_,rfl,rfl,?_⟩
   rw[List.length_map,wa.len]
   have e:decide ((n:Int)<=(s.procs.length:Int))=decide (1<=n/\n<=s.procs.length):=decide_eq_decide.mpr (by omega)
   rw[<-e] at k;exact k
  ·have e:decide (1<=n/\n<=s.procs.length)=false:=decide_eq_false (by omega)
   rw[e] at k;exact k
inductive D4 (A:Ad) (K:PySem.W.Frag) (vs:List V) (H:Hp) (Q:VK):Prop|mk (hv:Tab) (W:WL) (s:Ha09.St):vs=[.ref W.w]->rO A.aj A.aR K H hv W s->Q (.bl (decide (200<s.air.length))) H->D4 A K vs H Q
def Jj (A:Ad) (K:PySem.W.Frag):Sp:=fun vs H Q _=>D4 A K vs H Q
theorem qE (T:Tx w K mg A D):aS P w K mg base eV 1 A.cN D.cU ["self"] (Jj A K):=by
 refine T.mi.ok qj (fun vs H Q E h=>?_) (fun cdv A' outer s0 H vs Q E hr h=>?_)
 ·obtain⟨hv,W,s,rfl,_⟩:=h;rfl
 ·obtain⟨hv,W,s,rfl,wa,k⟩:=h
  refine⟨_,(ak (aF (qz (nV (a9 aM rfl T.gc PySem.boot_len (aa (az (pv 0) rfl) ag)) (a8 T.sj))))),?_⟩
  obtain⟨lv,hls,hlt⟩:=wa.ls
  refine⟨_,rfl,W.w,_,W.dx,_,_,rfl,wa.ob,T.aL,T.br,zl 2 mr rfl rfl,W.ls,_,rfl,.inl (bM.of hls),_,_,rfl,rfl,?_⟩
  rw[Paired.length hlt]
  have e:decide ((200:Int)<(s.air.length:Int))=decide (200<s.air.length):=decide_eq_decide.mpr (by omega)
  rw[<-e] at k;exact k
def tl (l:List Int):List V:=l.map fun z=>.int z
inductive BP (A:Ad) (K:PySem.W.Frag) (vs:List V) (H:Hp) (Q:VK):Prop|mk (hv:Tab) (W:WL) (s:Ha09.St) (i:Nat) (p:Proc):vs=[.ref W.w,.int ((i+1:Nat):Int)]->rO A.aj A.aR K H hv W s->s.procs[i]?=some p->p.name.length<=1000->(∀H' r,Ch [] H H'->H' r=some (.lst (tl (Ha09.nameTold p.name)))->H r=none->Q (.ref r) H')->BP A K vs H Q
def G6 (A:Ad) (K:PySem.W.Frag):Sp:=fun vs H Q _=>BP A K vs H Q
theorem kX (T:Tx w K mg A D):aS P w K mg base eV 2 A.jo D.jz ["world","number"] (G6 A K):=by
 refine T.jL.ok t5 (fun vs H Q E h=>?_) (fun cdv A' outer s0 H vs Q E hr h=>?_)
 ·obtain⟨hv,W,s,i,p,rfl,_⟩:=h;rfl
 ·obtain⟨hv,W,s,i,p,rfl,wa,hp,hl,k⟩:=h
  refine⟨_,(ah (aX (i:=2) t5.nd rfl (Or.inl rfl) (az (aG (pv 0) T.aL T.b9 (cp T) (hr.mono (by decide)) T.cb .nil aJ (aa (pv 1) ag)) rfl))
   (ak (aF (eT z9 (bf (aa (a9 aM rfl T.gc PySem.boot_len (aa (pv 2) ag)) ag)) (fk ff rfl T.vC boot_list (aa (pv 2) ag)))))),?_⟩
  have hlt:=(List.getElem?_eq_some_iff.mp hp).1
  rw[<-wa.len] at hlt
  obtain⟨l,hll⟩:∃l,W.pl[i]?=some l:=⟨_,List.getElem?_eq_getElem hlt⟩
  obtain⟨r,pa⟩:=wa.at_ i l p hll hp
  obtain⟨na,hna,hnm⟩:=pa.nm
  refine⟨_,rfl,W.w,W.dx,_,rfl,wa.ob,zn (by decide +kernel),_,rfl,hv,W,s,i,l,rfl,wa,hll,l.p,_,l.dx,_,_,rfl,pa.ob,T.ao,T.gP,zl 1 ck rfl rfl,?_⟩
  rw[hna]
  refine⟨_,rfl,na,_,rfl,.inr (dM.of hnm),by show 1<=sizeLine;decide,fun a1 ha1=>?_⟩
  generalize hH1:upd H a1 _=H1
  have c1:Ch [] H H1:=by rw[<-hH1];exact Ch.new ha1
  have g1:H1 a1=some (.lst [.int (p.name.length:Int)]):=by rw[<-hH1,ae,List.length_map]
  have hnm1:=c1.tu _ _ hnm
  refine⟨_,rfl,na,_,rfl,.inr (dM.of hnm1),fun a2 ha2=>?_⟩
  generalize hH2:upd H1 a2 _=H2
  have c2:Ch [] H1 H2:=by rw[<-hH2];exact Ch.new ha2
  have g2:H2 a2=some (.lst (p.name.map fun(k:Nat)=>V.int (k:Int))):=by rw[<-hH2];exact ae
  have g12:=c2.fr _ _ g1 (by simp)
  refine⟨a1,a2,_,_,rfl,rfl,g12,g2,?_,fun a3 ha3=>?_⟩
  ·rw[List.length_map];show 1+p.name.length<=sizeLine;rw[sizeLine_eq];omega
  ·refine k _ a3 ((c1.trans c2).trans (Ch.new ha3)) ?_ ((c1.trans c2).free ha3 (by simp))
   rw[ae]
   unfold Ha09.nameTold Ha09.ints tl
   simp
theorem j0 (x:Val):2<=(Ha09.told x).length:=by
 cases x with
 | num z=>show 2<=[0,z].length;simp
 | pid p=>show 2<=(1::Ha09.nameTold p).length;unfold Ha09.nameTold Ha09.ints;simp
 | pair a b =>
  show 2<=(2::(Ha09.told a++Ha09.told b)).length
  have:=j0 a
  simp;omega
theorem DL:∀xs:List Val,2*xs.length<=(xs.flatMap Ha09.told).length
 | []=>by simp
 | x::r=>by
  have:=DL r
  have:=j0 x
  rw[List.flatMap_cons,List.length_append,List.length_cons];omega
inductive DW (P:Program) (w:World) (A:Ad) (K:PySem.W.Frag) (vs:List V) (H:Hp) (Q:VK):Prop|mk (hv:Tab) (W:WL) (q:QL) (s:Ha09.St) (v:V) (x:Val):vs=[.ref W.w,v]->WS P w A K H hv W q s->VR H hv (aB s) v x->s.procs.length<=20->(Ha09.told x).length<=15000000->(∀H' r,Ch [] H H'->H' r=some (.lst (tl (Ha09.told x)))->H r=none->Q (.ref r) H')->DW P w A K vs H Q
def Jc (P:Program) (w:World) (A:Ad) (K:PySem.W.Frag):Sp:=fun vs H Q _=>DW P w A K vs H Q
theorem wO (T:Tx w K mg A D):aS P w K mg base eV 3 A.zf D.zi ["world","value"] (Jc P w A K):=by
 refine T.zK.ok wM (fun vs H Q E h=>?_) (fun cdv A' outer s0 H vs Q E hr h=>?_)
 ·obtain⟨hv,W,q,s,v,x,rfl,_⟩:=h;rfl
 ·obtain⟨hv,W,q,s,v,x,rfl,ws,hv1,hle,hl,k⟩:=h
  refine⟨_,(ah (aX (i:=2) wM.nd rfl (Or.inl rfl) (bf ag))
   (ah (aX (i:=3) wM.nd rfl (Or.inl rfl) (bf (aa (pv 1) ag)))
   (ah (qu PassesOwn.never (aO (nV (a9 aM rfl T.gc PySem.boot_len (aa (pv 3) ag)) aq)) (ah (aX (i:=4) wM.nd rfl (Or.inl rfl) (z7 PySem.F.plainAttrs_list PySem.F.slot_list_pop PySem.F.type_list_pop Ah (pv 3)))
   (ah (aI (dO PySem.F.plainAttrs_list PySem.F.slot_list_append PySem.F.type_list_append bJ (pv 2) (aa (aK aH (pv 4) aq (fun _ _=>rfl)) ag)))
   (ak (aW (aO (bc (aK aH (pv 4) aq (fun _ _=>rfl)) (a8 T.i9))) (ak (aI (dO PySem.F.plainAttrs_list PySem.F.slot_list_append PySem.F.type_list_append bJ (pv 2) (aa (aK aH (pv 4) aq (fun _ _=>rfl)) ag)))) (ak (aW (aO (bc (aK aH (pv 4) aq (fun _ _=>rfl)) (a8 T.xQ))) (ak (aI (dO PySem.F.plainAttrs_list PySem.F.slot_list_extend PySem.F.type_list_extend hR (pv 2) (aa (aV (kX T) (hr.mono (by decide)) rfl T.lX T.jL.kp T.l8 .nil aJ (aa (pv 0) (aa (aK aH (pv 4) aq (fun _ _=>rfl)) ag))) ag)))) (ah (aI (dO PySem.F.plainAttrs_list PySem.F.slot_list_append PySem.F.type_list_append bJ (pv 3) (aa (aG (az (pv 0) rfl) T.kPairs T.jW (ki T) (hr.mono (by decide)) T.jZ .nil aJ (aa (pv 4) ag)) ag)))
   (ak (aI (dO PySem.F.plainAttrs_list PySem.F.slot_list_append PySem.F.type_list_append bJ (pv 3) (aa (aG (az (pv 0) rfl) T.kPairs T.kZ (lR T) (hr.mono (by decide)) T.k8 .nil aJ (aa (pv 4) ag)) ag))))))))))))
   (ak (aF (pv 2)))))),?_⟩
  have pf:=List.prefix_refl hv
  have pn:=List.prefix_refl (aB s)
  refine⟨Nat.zero_le _,fun nl hnl=>?_⟩
  generalize hH1:upd H nl _=H1
  have c1:Ch [] H H1:=by rw[<-hH1];exact Ch.new hnl
  have g1:H1 nl=some (.lst []):=by rw[<-hH1];exact ae
  refine⟨_,rfl,by show 1<=sizeLine;decide,fun al hal=>?_⟩
  generalize hH2:upd H1 al _=H2
  have c2:Ch [] H1 H2:=by rw[<-hH2];exact Ch.new hal
  have g2:H2 al=some (.lst [v]):=by rw[<-hH2];exact ae
  have g12:=c2.fr _ _ g1 (by simp)
  have c02:=c1.trans c2
  have hal0:H al=none:=c1.free hal (by simp)
  have nal:nl≠al:=ay g1 hal
  have hx:∀b∈[nl,al],b∉fp W q:=fun b hb=>by
   rcases List.mem_cons.mp hb with rfl|hb
   ·exact ws.fresh hnl
   ·rw[List.mem_singleton.mp hb];exact ws.fresh hal0
  have hx0:∀b∈[nl,al],b∈([]:List Addr)\/H b=none:=fun b hb=>by
   rcases List.mem_cons.mp hb with rfl|hb
   ·exact .inr hnl
   ·rw[List.mem_singleton.mp hb];exact .inr hal0
  refine⟨fun m σ Hj=>∃(ns:List Int) (vs:List V) (xs:List Val) (o:Option V),σ=[some (.ref W.w),some v,some (.ref nl),some (.ref al),o]/\Hj nl=some (.lst (tl ns))/\Hj al=some (.lst vs.reverse)/\Paired (VR Hj hv (aB s)) vs xs/\ns++xs.flatMap Ha09.told=Ha09.told x/\m=(xs.flatMap Ha09.told).length/\Ch [nl,al] H2 Hj,
   ⟨_,[],[v],[x],none,rfl,g12,g2,.cons (hv1.mono c02 pf pn) .nil,by simp,rfl,Ch.refl _ _⟩,?_⟩
  rintro m σ Hj ⟨ns,vs,xs,o,rfl,hnl1,hal1,hp,he,hm,cj⟩
  refine⟨_,rfl,al,_,rfl,.inl (bM.of hal1),_,_,rfl,rfl,_,rfl,?_⟩
  have hlen:ns.length+(xs.flatMap Ha09.told).length=(Ha09.told x).length:=by rw[<-he];simp
  cases hp with
  | nil =>
   refine d2 (fun h=>absurd h (by decide)) fun _=>?_
   refine⟨_,rfl,?_⟩
   refine k Hj nl (c02.trans' cj hx0) ?_ hnl
   rw[hnl1,<-he];simp
  | @cons u y vs1 xs1 hu hrest =>
   refine d2 (fun _=>?_) fun h=>absurd (by rw[List.length_reverse,List.length_cons];omega) h
   rw[List.flatMap_cons] at he hm hlen
   have hfl:=DL xs1
   have hpl:=Paired.length hrest
   refine⟨fun σ' H'=>∃m'<m,∃(ns:List Int) (vs:List V) (xs:List Val) (o:Option V),σ'=[some (.ref W.w),some v,some (.ref nl),some (.ref al),o]/\H' nl=some (.lst (tl ns))/\H' al=some (.lst vs.reverse)/\Paired (VR H' hv (aB s)) vs xs/\ns++xs.flatMap Ha09.told=Ha09.told x/\m'=(xs.flatMap Ha09.told).length/\Ch [nl,al] H2 H',fun σ' H' h=>h,?_⟩
   refine⟨_,rfl,.inl ⟨rfl,_,bM.of hal1⟩,al,_,_,rfl,rfl,hal1,(by simp:((u::vs1).reverse)[((u::vs1).reverse).length-1]?=some u),?_⟩
   have hdl:((u::vs1).reverse).dropLast=vs1.reverse:=by simp
   rw[hdl]
   generalize hH3:upd Hj al _=H3
   have c3:Ch [nl,al] Hj H3:=by rw[<-hH3];exact Ch.put hal1 trivial (by simp)
   have a3:H3 al=some (.lst vs1.reverse):=by rw[<-hH3];exact ae
   have n3:H3 nl=some (.lst (tl ns)):=by rw[<-hH3,aE nal];exact hnl1
   have hu3:=hu.mono c3 pf pn
   have hr3:=Paired.bL hrest fun _ _ z=>VR.mono c3 pf pn z
   have cj3:=cj.trans c3
   obtain⟨mv,⟨ua,rfl,hua⟩,dm⟩:=hu3
   refine⟨_,rfl,.inl ⟨rfl,_,bM.of n3⟩,_,rfl,ua,_,_,_,rfl,rfl,dM.of hua,eR,nl,_,_,rfl,rfl,n3,by unfold tl;rw[List.length_map,sizeLine_eq];have:=j0 y;omega,?_⟩
   generalize hH4:upd H3 nl _=H4
   have c4:Ch [nl,al] H3 H4:=by rw[<-hH4];exact Ch.put n3 trivial (by simp)
   have n4:H4 nl=some (.lst (tl (ns++[mv.tag]))):=by rw[<-hH4,ae];unfold tl;simp
   have a4:H4 al=some (.lst vs1.reverse):=by rw[<-hH4,aE nal.symm];exact a3
   have hua4:=c4.tu _ _ hua
   have hr4:=Paired.bL hr3 fun _ _ z=>VR.mono c4 pf pn z
   have cj4:=cj3.trans c4
   refine⟨_,rfl,ua,_,_,_,rfl,rfl,dM.of hua4,eR,_,_,rfl,rfl,_,rfl,?_⟩
   cases dm with
   | @num z hz =>
    refine d2 (fun _=>?_) fun h=>absurd rfl h
    refine⟨_,rfl,.inl ⟨rfl,_,bM.of n4⟩,_,rfl,ua,_,_,_,rfl,rfl,dM.of hua4,tO,nl,_,_,rfl,rfl,n4,?_,?_⟩
    ·unfold tl;rw[List.length_map,sizeLine_eq,List.length_append];show ns.length+1<_
     have:=j0 (.num z);omega
    generalize hH5:upd H4 nl _=H5
    have c5:Ch [nl,al] H4 H5:=by rw[<-hH5];exact Ch.put n4 trivial (by simp)
    have n5:H5 nl=some (.lst (tl (ns++[0,z]))):=by rw[<-hH5,ae];unfold tl;simp[MV.tag,MV.CA]
    have a5:H5 al=some (.lst vs1.reverse):=by rw[<-hH5,aE nal.symm];exact a4
    refine⟨(xs1.flatMap Ha09.told).length,?_,ns++[0,z],vs1,xs1,_,rfl,n5,a5,Paired.bL hr4 fun _ _ q=>VR.mono c5 pf pn q,?_,rfl,cj4.trans c5⟩
    ·rw[hm,List.length_append];have:=j0 (.num z);omega
    ·rw[<-he,List.append_assoc];rfl
   | @name i p hi =>
    refine d2 (fun h=>absurd h (by simp[MV.tag])) fun _=>?_
    refine⟨_,rfl,ua,_,_,_,rfl,rfl,dM.of hua4,eR,_,_,rfl,rfl,_,rfl,?_⟩
    refine d2 (fun _=>?_) fun h=>absurd rfl h
    obtain⟨pp,hpp,hpn⟩:∃pp,s.procs[i]?=some pp/\pp.name=p:=by
     unfold aB at hi
     rw[List.getElem?_map] at hi
     exact Option.map_eq_some_iff.mp hi
    have ws4:=ws.free ((c02.mono (by simp)).trans cj4) hx
    have hnl9:=ws.gd.ln pp (List.mem_of_getElem? hpp)
    refine⟨_,rfl,.inl ⟨rfl,_,bM.of n4⟩,_,rfl,_,rfl,ua,_,_,_,rfl,rfl,dM.of hua4,tO,hv,W,s,i,pp,rfl,ws4.wa,hpp,by omega,fun H5 tr c5 htr ht0=>?_⟩
    have n5:=c5.fr _ _ n4 (by simp)
    have a5:=c5.fr _ _ a4 (by simp)
    rw[hpn] at htr hnl9
    have htl:(tl (Ha09.nameTold p)).length=p.length+1:=by unfold tl Ha09.nameTold Ha09.ints;simp
    refine⟨nl,tr,_,_,rfl,rfl,n5,htr,?_,?_⟩
    ·rw[htl];unfold tl;rw[List.length_map,sizeLine_eq,List.length_append];show ns.length+1+_<=_
     omega
    generalize hH6:upd H5 nl _=H6
    have c6:Ch [nl,al] H5 H6:=by rw[<-hH6];exact Ch.put n5 trivial (by simp)
    have n6:H6 nl=some (.lst (tl (ns++Ha09.told (.pid p)))):=by rw[<-hH6,ae];unfold tl;simp[MV.tag,Ha09.told]
    have a6:H6 al=some (.lst vs1.reverse):=by rw[<-hH6,aE nal.symm];exact a5
    have c46:=(c5.mono (by simp):Ch [nl,al] H4 H5).trans c6
    refine⟨(xs1.flatMap Ha09.told).length,?_,ns++Ha09.told (.pid p),vs1,xs1,_,rfl,n6,a6,Paired.bL hr4 fun _ _ q=>VR.mono c46 pf pn q,?_,rfl,cj4.trans c46⟩
    ·rw[hm,List.length_append];have:=j0 (.pid p);omega
    ·rw[<-he,List.append_assoc]
   | @two i a b ya yb hi da db =>
    refine d2 (fun h=>absurd h (by simp[MV.tag])) fun _=>?_
    refine⟨_,rfl,ua,_,_,_,rfl,rfl,dM.of hua4,eR,_,_,rfl,rfl,_,rfl,?_⟩
    refine d2 (fun h=>absurd h (by simp[MV.tag])) fun _=>?_
    have ws4:=ws.free ((c02.mono (by simp)).trans cj4) hx
    have hl9:=congrArg List.length (show Ha09.told (.pair ya yb)=2::(Ha09.told ya++Ha09.told yb) from rfl)
    rw[List.length_cons,List.length_append] at hl9
    rw[List.length_append] at hlen hm
    have:=j0 ya
    have:=j0 yb
    refine⟨_,rfl,.inl ⟨rfl,_,bM.of a4⟩,_,rfl,W.w,_,W.dx,_,_,rfl,ws4.wa.ob,T.aL,T.bV,zl 4 mr rfl rfl,?_⟩
    rw[ws.po]
    refine⟨q.o,q.dx,_,rfl,ws4.pr.ob,zn (by decide +kernel),_,rfl,q,hv,.ref ua,i,a,b,rfl,ws4.pr,⟨ua,rfl,hua4⟩,hi,fun r2 hr2=>?_⟩
    refine⟨al,_,_,rfl,rfl,a4,by rw[List.length_reverse,hpl,sizeLine_eq];omega,?_⟩
    generalize hH5:upd H4 al _=H5
    have c5:Ch [nl,al] H4 H5:=by rw[<-hH5];exact Ch.put a4 trivial (by simp)
    have a5:H5 al=some (.lst (r2::vs1).reverse):=by rw[<-hH5,ae];simp
    have n5:H5 nl=some (.lst (tl (ns++[2]))):=by rw[<-hH5,aE nal];exact n4
    have cj5:=cj4.trans c5
    have ws5:=ws.free ((c02.mono (by simp)).trans cj5) hx
    have hua5:=c5.tu _ _ hua4
    refine⟨_,rfl,.inl ⟨rfl,_,bM.of a5⟩,_,rfl,W.w,_,W.dx,_,_,rfl,ws5.wa.ob,T.aL,T.bV,zl 4 mr rfl rfl,?_⟩
    rw[ws.po]
    refine⟨q.o,q.dx,_,rfl,ws5.pr.ob,zn (by decide +kernel),_,rfl,q,hv,.ref ua,i,a,b,rfl,ws5.pr,⟨ua,rfl,hua5⟩,hi,fun r1 hr1=>?_⟩
    refine⟨al,_,_,rfl,rfl,a5,by rw[List.length_reverse,List.length_cons,hpl,sizeLine_eq];omega,?_⟩
    generalize hH6:upd H5 al _=H6
    have c6:Ch [nl,al] H5 H6:=by rw[<-hH6];exact Ch.put a5 trivial (by simp)
    have a6:H6 al=some (.lst (r1::r2::vs1).reverse):=by rw[<-hH6,ae];simp
    have n6:H6 nl=some (.lst (tl (ns++[2]))):=by rw[<-hH6,aE nal];exact n5
    have c46:=c5.trans c6
    refine⟨((ya::yb::xs1).flatMap Ha09.told).length,?_,ns++[2],r1::r2::vs1,ya::yb::xs1,_,rfl,n6,a6,.cons ⟨a,hr1.mono c6,da⟩ (.cons ⟨b,hr2.mono c46,db⟩ (Paired.bL hr4 fun _ _ q=>VR.mono c46 pf pn q)),?_,rfl,cj4.trans c46⟩
    ·rw[hm,List.flatMap_cons,List.flatMap_cons,List.length_append,List.length_append];omega
    ·rw[<-he,List.flatMap_cons,List.flatMap_cons]
     show _=ns++((2::(Ha09.told ya++Ha09.told yb))++_)
     simp
theorem Gu {K:PySem.W.Frag} {a:Addr} {xs:List V} {g:TG} {tb:TS} {D:Ends} {σ:L2.St} {H:Hp} (Pv:Nat->L2.St->Hp->Prop) (h0:Pv 0 σ H) (hl:∀i σ H,i<=xs.length->Pv i σ H->bM K H a xs)
  (hs:∀i x σ H t,xs[i]?=some x->Pv i σ H->H t=none->g (.ref t) σ (upd H t (.tup [.int (i:Nat),x])) fun σ2 H2=>tb {D with nx:=Pv (i+1),ct:=Pv (i+1),bk:=D.nx} σ2 H2) (hd:∀σ H,Pv xs.length σ H->D.nx σ H) :
  ∃W:Nat->Nat->L2.St->Hp->Prop,(∃m,W 0 m σ H)/\∀i m σ H,W i m σ H ->
   ((Ite K a).stop i H/\D.nx σ H)\/((Ite K a).go i H/\∃N:L2.St->Hp->Prop,(∀σ' H',N σ' H'->∃m',m'<m/\W (i+1) m' σ' H')/\∀x H',(Ite K a).GY i H x H'->g x σ H' fun σ2 H2=>tb {D with nx:=N,ct:=N,bk:=D.nx} σ2 H2):=by
 refine⟨fun i m σ H=>m=xs.length-i/\i<=xs.length/\Pv i σ H,⟨xs.length,by simp,Nat.zero_le _,h0⟩,?_⟩
 rintro i m σ H ⟨rfl,hi,p⟩
 have q:=hl i σ H hi p
 by_cases hlt:i<xs.length
 ·refine .inr ⟨⟨xs,xs[i],q,by simp[hlt]⟩,Pv (i+1),fun σ' H' p'=>⟨xs.length-(i+1),by omega,rfl,hlt,p'⟩,fun x H' y=>?_⟩
  obtain⟨t,x',rfl,ht,rfl,y⟩:=y
  exact hs i x' σ _ t (y xs q) p ht
 ·have e:i=xs.length:=by omega
  subst e
  exact .inl ⟨⟨xs,q,Nat.le_refl _⟩,hd σ H p⟩
theorem find_some {α:Type} {f:α->Bool}:∀{l:List α} {k:Nat} {x:α},(∀(m:Nat) y,m<k->l[m]?=some y->f y=false)->l[k]?=some x->f x=true->l.findIdx? f=some k
 | [],k,x,_,h,_=>by simp at h
 | a::r,0,x,_,h,hf=>by
  simp at h;subst h
  simp[List.findIdx?_cons,hf]
 | a::r,k+1,x,hk,h,hf=>by
  have:=find_some (l:=r) (k:=k) (x:=x) (fun m y h1 h2=>hk (m+1) y (by omega) (by simpa using h2)) (by simpa using h) hf
  rw[List.findIdx?_cons,hk 0 a (by omega) rfl,this]
  rfl
theorem find_none {α:Type} {f:α->Bool}:∀{l:List α},(∀(m:Nat) y,l[m]?=some y->f y=false)->l.findIdx? f=none
 | [],_=>rfl
 | a::r,h=>by
  rw[List.findIdx?_cons,h 0 a rfl,find_none (l:=r) fun m y hy=>h (m+1) y (by simpa using hy)]
  rfl
inductive zI (vs:List V) (H:Hp) (Q:VK):Prop|mk (hv:Tab) (bz:qX) (la:Addr) (lv:List V) (air:List Letter) (i j:Nat) (pn qn:List Nat):vs=[.ref la,.int ((i+1:Nat):Int),.int ((j+1:Nat):Int)]->bz.Nodup->H la=some (.lst lv)->Paired (yi H hv bz) lv air->bz[i]?=some pn->bz[j]?=some qn->(∀H',Ch [] H H'->Q (match air.findIdx? (fun l=>l.from_==pn&&l.to_==qn) with|some k=>.int (k:Int)|none=>.bo) H')->zI vs H Q
def Fx:Sp:=fun vs H Q _=>zI vs H Q
theorem Iv {bz:qX} (nd:bz.Nodup) {i j:Nat} {p q:List Nat} (h1:bz[i]?=some p) (h2:bz[j]?=some q):((i+1:Nat):Int)=((j+1:Nat):Int)↔p=q:=by
 constructor
 ·intro h
  have:i=j:=by omega
  subst this
  rw[h1] at h2;exact Option.some.inj h2
 ·intro h
  subst h
  have hi:=(List.getElem?_eq_some_iff.mp h1)
  have hj:=(List.getElem?_eq_some_iff.mp h2)
  obtain⟨hi,e1⟩:=hi
  obtain⟨hj,e2⟩:=hj
  have:=(List.getElem_inj nd).mp (e1.trans e2.symm)
  omega
theorem wC (T:Tx w K mg A D):aS P w K mg base eV 1 A.fx D.fJ ["letters","sender","receiver"] Fx:=by
 refine T.nQ.ok kf (fun vs H Q E h=>?_) (fun cdv A' outer s0 H vs Q E hr h=>?_)
 ·obtain⟨hv,bz,la,lv,air,i,j,pn,qn,rfl,_⟩:=h;rfl
 ·obtain⟨hv,bz,la,lv,air,i,j,pn,qn,rfl,nd,hla,hlt,hi,hj,k⟩:=h
  refine⟨_,(ah (lL PassesOwn.never rfl (Hy rfl T.wY (aa (pv 0) ag)) (Jz rfl (A0 (gv (i:=3) kf.nd rfl (Or.inl rfl)) (A0 (gv (i:=4) kf.nd rfl (Or.inl rfl)) Hz))) (ak (aW (PW.pt (xt (aO (bc (aK aH (pv 4) aq (fun _ _=>rfl)) (pv 1))) (ud (aO (bc (aK aH (pv 4) aq (fun _ _=>rfl)) (pv 2)))))) (ak (aF (pv 3))) aT)))
   (ak (aF lM))),?_⟩
  refine⟨_,rfl,la,_,rfl,bM.of hla,Gu (K:=K) (a:=la) (xs:=lv) (fun n σ Hn=>∃o3 o4,σ=[some (.ref la),some (.int ((i+1:Nat):Int)),some (.int ((j+1:Nat):Int)),o3,o4]/\Ch [] H Hn/\∀(m:Nat) (l:Letter),m<n->air[m]?=some l->(l.from_==pn&&l.to_==qn)=false)
   ⟨none,none,rfl,Ch.refl _ _,fun m l h=>absurd h (by omega)⟩ (fun n σ Hn _ ⟨_,_,_,c,_⟩=>bM.of (c.fr _ _ hla (by simp))) ?_ ?_⟩
  ·rintro n y σ Hn t hy ⟨o3,o4,rfl,c,hbad⟩ ht
   obtain⟨L,hL,hLt⟩:=A1 hlt hy
   generalize hH1:upd Hn t _=H1
   have c1:Ch [] Hn H1:=by rw[<-hH1];exact Ch.new ht
   have g1:H1 t=some (.tup [.int (n:Nat),y]):=by rw[<-hH1];exact ae
   have c01:=c.trans c1
   obtain⟨a,sv,rv,wv,rfl,ha,⟨i1,rfl,hi1⟩,⟨j1,rfl,hj1⟩,hw⟩:=yi.mono c01 (List.prefix_refl _) (List.prefix_refl _) hLt
   refine⟨t,_,rfl,dM.of g1,rfl,?_⟩
   refine⟨_,_,rfl,?_⟩
   refine⟨_,_,rfl,?_⟩
   refine⟨rfl,?_⟩
   have e1:=Iv nd hi1 hi
   have e2:=Iv nd hj1 hj
   have bad:(L.from_==pn&&L.to_==qn)=false->∀(m:Nat) (l:Letter),m<n+1->air[m]?=some l->(l.from_==pn&&l.to_==qn)=false:=fun hb m l hm hl=>by
    by_cases z:m=n
    ·subst z;rw[hL] at hl;cases hl;exact hb
    ·exact hbad m l (by omega) hl
   refine⟨_,rfl,a,_,_,_,rfl,rfl,dM.of ha,eR,_,rfl,_,_,rfl,rfl,_,rfl,?_⟩
   refine d2 (fun h1=>?_) fun h1=>?_
   ·refine⟨_,rfl,a,_,_,_,rfl,rfl,dM.of ha,tO,_,rfl,_,_,rfl,rfl,_,rfl,?_⟩
    refine d2 (fun h2=>?_) fun h2=>?_
    ·refine⟨_,rfl,?_⟩
     have e:air.findIdx? (fun l=>l.from_==pn&&l.to_==qn)=some n:=find_some (fun m y hm hy=>hbad m y hm hy) hL (by rw[e1.mp h1,e2.mp h2];simp)
     have k':=k H1 c01
     rw[e] at k'
     exact k'
    ·exact⟨_,_,rfl,c01,bad (by rw[beq_eq_false_iff_ne.mpr fun z=>h2 (e2.mpr z)];simp)⟩
   ·refine mw ?_
    exact⟨_,_,rfl,c01,bad (by rw[beq_eq_false_iff_ne.mpr fun z=>h1 (e1.mpr z)];simp)⟩
  ·rintro σ Hn ⟨o3,o4,rfl,c,hbad⟩
   have e:air.findIdx? (fun l=>l.from_==pn&&l.to_==qn)=none:=find_none fun m l hm=>hbad m l (by rw[Paired.length hlt];exact(List.getElem?_eq_some_iff.mp hm).1) hm
   have k':=k Hn c
   rw[e] at k'
   exact k'
inductive uN (P:Program) (w:World) (C:Addr) (vs:List V) (H:Hp) (Q:VK):Prop|mk (p dx:Addr):vs=[.ref p]->H p=some (.ins C dx [])->(∀(H':Hp) (q:QL),q.o=p->nJ P w C H' q []->Ch [p] H H'->H q.l=none->H q.d=none->Q .bo H')->uN P w C vs H Q
def AF (P:Program) (w:World) (C:Addr):Sp:=fun vs H Q _=>uN P w C vs H Q
theorem yM (T:Tx w K mg A D):aS P w K mg base eV 1 A.ik D.iD ["self"] (AF P w A.bE):=by
 refine T.v9.ok yI (fun vs H Q E h=>?_) (fun cdv A' outer s H vs Q E hr h=>?_)
 ·obtain⟨p,dx,rfl,_⟩:=h;rfl
 ·obtain⟨p,dx,rfl,ho,k⟩:=h
  refine⟨_,(ah (aY (pv 0) (bf ag) rfl)
   (ak (aY (pv 0) (EM (P:=P) (w:=w)) rfl))),?_⟩
  refine⟨Nat.zero_le _,fun l hl=>?_⟩
  generalize hH1:upd H l _=H1
  have c1:Ch [p] H H1:=by rw[<-hH1];exact Ch.new hl
  have g1:H1 l=some (.lst []):=by rw[<-hH1];exact ae
  have o1:=(show H1 p=H p from by rw[<-hH1];exact aE (ay ho hl)).trans ho
  have nlp:l≠p:=(ay ho hl).symm
  refine⟨_,rfl,p,_,dx,_,rfl,o1,T.kPairs,T.fU,(by show 0<1000;decide),?_⟩
  generalize hH2:upd H1 p _=H2
  have c2:Ch [p] H1 H2:=by rw[<-hH2];exact Ch.put o1 trivial (by simp)
  have o2:H2 p=some (.ins A.bE dx ((["halves"]:List Str).zip [.ref l])):=by rw[<-hH2];exact ae
  have g2:H2 l=some (.lst []):=by rw[<-hH2,aE nlp];exact g1
  refine fun d hd hsm=>?_
  have hdp:d≠p:=(ay o2 hd).symm
  have hd0:H d=none:=(c1.trans c2).free hd (by simp[hdp])
  generalize hH3:upd H2 d _=H3
  have c3:Ch [p] H2 H3:=by rw[<-hH3];exact Ch.new hd
  have d3:H3 d=some (DN P w d []):=by rw[<-hH3];exact ae
  have o3:=(show H3 p=H2 p from by rw[<-hH3];exact aE (ay o2 hd)).trans o2
  have g3:=c3.fr _ _ g2 (by simp[nlp])
  refine⟨_,rfl,p,_,dx,_,rfl,o3,T.kPairs,T.fT,(by show 1<1000;decide),?_⟩
  rw[zs (by decide +kernel) rfl]
  generalize hH4:upd H3 p _=H4
  have c4:Ch [p] H3 H4:=by rw[<-hH4];exact Ch.put o3 trivial (by simp)
  have o4:H4 p=some (.ins A.bE dx (QN.zip [.ref l,.ref d])):=by rw[<-hH4];exact ae
  have g4:=c4.fr _ _ g3 (by simp[nlp])
  have d4:=c4.fr _ _ d3 (by simp[hdp])
  refine k H4 ⟨p,dx,l,d⟩ rfl ⟨o4,⟨[],[],g4,.nil,⟨d4,fun x h=>by simp at h,hsm⟩,rfl,fun i e h=>by simp at h⟩,List.nodup_nil⟩ (((c1.trans c2).trans c3).trans c4) hl hd0
inductive uM (P:Program) (w:World) (A:Ad) (K:PySem.W.Frag) (vs:List V) (H:Hp) (Q:VK):Prop|mk (x dx fa:Addr) (us:List V) (prog:List Ha09.Expr):vs=[.ref x,.ref fa]->H x=some (.ins A.aR dx [])->TupAt K H fa us->Paired (NR K H) us prog->(∀e∈prog,b7 e<=20)->(∀(H':Hp) (W:WL) (q:QL),W.w=x->W.dx=dx->W.fn=.ref fa->W.pl=[]->WS P w A K H' [] W q ⟨prog,[],[],0⟩->Ch [x] H H'->(∀b∈fp W q,b=x\/H b=none)->Q .bo H')->uM P w A K vs H Q
def AE (P:Program) (w:World) (A:Ad) (K:PySem.W.Frag):Sp:=fun vs H Q _=>uM P w A K vs H Q
theorem nu (T:Tx w K mg A D):aS P w K mg base eV 3 A.ig D.iB ["self","functions"] (AE P w A K):=by
 refine T.v7.ok yH (fun vs H Q E h=>?_) (fun cdv A' outer s H vs Q E hr h=>?_)
 ·obtain⟨x,dx,fa,us,prog,rfl,_⟩:=h;rfl
 ·obtain⟨x,dx,fa,us,prog,rfl,ho,htp,hnr,hfd,k⟩:=h
  refine⟨_,(ah (aY (pv 0) (pv 1) rfl)
   (ah (aY (pv 0) (bf ag) rfl)
   (ah (aY (pv 0) (bf ag) rfl)
   (ah (aY (pv 0) aq rfl)
   (ak (aY (pv 0) (A3 T.vH (yM T) (hr.mono (by decide)) rfl T.Gr T.vW .nil aJ) rfl)))))),?_⟩
  refine⟨_,rfl,_,rfl,x,_,dx,_,rfl,ho,T.aL,T.dJ,(by show 0<1000;decide),?_⟩
  generalize hH1:upd H x _=H1
  have c1:Ch [x] H H1:=by rw[<-hH1];exact Ch.put ho trivial (by simp)
  have o1:H1 x=some (.ins A.aR dx ((["functions"]:List Str).zip [.ref fa])):=by rw[<-hH1];exact ae
  refine⟨Nat.zero_le _,fun ps hps=>?_⟩
  generalize hH2:upd H1 ps _=H2
  have c2:Ch [x] H1 H2:=by rw[<-hH2];exact Ch.new hps
  have gp2:H2 ps=some (.lst []):=by rw[<-hH2];exact ae
  have o2:=(show H2 x=H1 x from by rw[<-hH2];exact aE (ay o1 hps)).trans o1
  have npx:ps≠x:=(ay o1 hps).symm
  have hps0:H ps=none:=c1.free hps (by simp[npx])
  refine⟨_,rfl,x,_,dx,_,rfl,o2,T.aL,T.bg,(by show 1<1000;decide),?_⟩
  rw[zs (by decide +kernel) rfl]
  generalize hH3:upd H2 x _=H3
  have c3:Ch [x] H2 H3:=by rw[<-hH3];exact Ch.put o2 trivial (by simp)
  have o3:H3 x=some (.ins A.aR dx ((["functions","processes"]:List Str).zip [.ref fa,.ref ps])):=by rw[<-hH3];exact ae
  have gp3:=c3.fr _ _ gp2 (by simp[npx])
  have c13:=(c1.trans c2).trans c3
  refine⟨Nat.zero_le _,fun ls hls=>?_⟩
  generalize hH4:upd H3 ls _=H4
  have c4:Ch [x] H3 H4:=by rw[<-hH4];exact Ch.new hls
  have gl4:H4 ls=some (.lst []):=by rw[<-hH4];exact ae
  have o4:=(show H4 x=H3 x from by rw[<-hH4];exact aE (ay o3 hls)).trans o3
  have gp4:=c4.fr _ _ gp3 (by simp[npx])
  have nlx:ls≠x:=(ay o3 hls).symm
  have nlp:ps≠ls:=ay gp3 hls
  have hls0:H ls=none:=c13.free hls (by simp[nlx])
  refine⟨_,rfl,x,_,dx,_,rfl,o4,T.aL,T.br,(by show 2<1000;decide),?_⟩
  rw[zs (by decide +kernel) rfl]
  generalize hH5:upd H4 x _=H5
  have c5:Ch [x] H4 H5:=by rw[<-hH5];exact Ch.put o4 trivial (by simp)
  have o5:H5 x=some (.ins A.aR dx ((["functions","processes","letters"]:List Str).zip [.ref fa,.ref ps,.ref ls])):=by rw[<-hH5];exact ae
  refine⟨_,rfl,x,_,dx,_,rfl,o5,T.aL,T.dw,(by show 3<1000;decide),?_⟩
  rw[zs (by decide +kernel) rfl]
  generalize hH6:upd H5 x _=H6
  have c6:Ch [x] H5 H6:=by rw[<-hH6];exact Ch.put o5 trivial (by simp)
  have o6:H6 x=some (.ins A.aR dx ((["functions","processes","letters","time"]:List Str).zip [.ref fa,.ref ps,.ref ls,.int 0])):=by rw[<-hH6];exact ae
  have c46:=(c4.trans c5).trans c6
  have c16:=c13.trans c46
  have gp6:=c46.fr _ _ gp3 (by simp[npx])
  have gl6:=(c5.trans c6).fr _ _ gl4 (by simp[nlx])
  refine fun qo qd hqo hqd hne=>?_
  have cq:Ch [] H6 (upd (upd H6 qd (.own qo)) qo (.ins A.bE qd [])):=by
   have h2:(upd H6 qd (.own qo)) qo=none:=(aE hne.symm).trans hqo
   exact(Ch.new hqd).trans (Ch.new h2)
  have gq:(upd (upd H6 qd (.own qo)) qo (.ins A.bE qd [])) qo=some (.ins A.bE qd []):=ae
  generalize upd (upd H6 qd _) qo _=H7 at cq gq ⊢
  refine⟨qo,qd,rfl,gq,fun H8 q hqe pr c8 hql hqd2=>⟨rfl,?_⟩⟩
  subst hqe
  have c68:Ch [] H6 H8:=cq.trans' c8 (by intro c hc;rw[List.mem_singleton.mp hc];exact .inr hqo)
  have o8:=c68.fr _ _ o6 (by simp)
  have gp8:=c68.fr _ _ gp6 (by simp)
  have gl8:=c68.fr _ _ gl6 (by simp)
  refine⟨_,rfl,x,_,dx,_,rfl,o8,T.aL,T.bV,(by show 4<1000;decide),?_⟩
  rw[zs (by decide +kernel) rfl]
  generalize hH9:upd H8 x _=H9
  have c9:Ch [x] H8 H9:=by rw[<-hH9];exact Ch.put o8 trivial (by simp)
  have o9:H9 x=some (.ins A.aR dx (WN.zip [.ref fa,.ref ps,.ref ls,.int 0,.ref q.o])):=by rw[<-hH9];exact ae
  have gp9:=c9.fr _ _ gp8 (by simp[npx])
  have gl9:=c9.fr _ _ gl8 (by simp[nlx])
  have nqx:∀b∈q.addrs,b≠x/\b≠ps/\b≠ls/\H b=none:=by
   have f6:∀b,H6 b=none->b≠x/\b≠ps/\b≠ls/\H b=none:=fun b hb=>by
    have e1:b≠x:=fun e=>by rw[e,o6] at hb;cases hb
    exact⟨e1,fun e=>(by rw[e,gp6] at hb;cases hb),fun e=>(by rw[e,gl6] at hb;cases hb),c16.free hb (by simp[e1])⟩
   intro b hb
   simp[QL.addrs] at hb
   rcases hb with rfl|rfl|rfl
   ·exact f6 _ hqo
   ·exact f6 _ (cq.free hql (by simp))
   ·exact f6 _ (cq.free hqd2 (by simp))
  have cc:Ch [x] H H9:=(c16.trans (c68.mono (by simp))).trans c9
  refine k H9 ⟨x,dx,ps,ls,.ref fa,q.o,[]⟩ q rfl rfl rfl rfl ⟨⟨o9,⟨fa,us,rfl,htp.mono cc,Paired.bL hnr fun _ _ z=>z.mono cc⟩,hfd,gp9,rfl,fun i l p h _=>by simp at h,⟨[],gl9,.nil⟩,?_⟩,pr.mono c9 (fun b hb z=>(nqx b hb).1 (List.mem_singleton.mp z)),rfl,fun b hb z=>?_,⟨by simp[Bp.bz],fun q hq=>by simp at hq,fun q hq=>by simp at hq⟩⟩ cc fun b hb=>?_
  ·simp[WL.addrs,npx.symm,nlx.symm,nlp]
  ·obtain⟨z1,z2,z3,_⟩:=nqx b hb
   simp[WL.addrs] at z
   rcases z with z|z|z
   ·exact z1 z
   ·exact z2 z
   ·exact z3 z
  ·rcases List.mem_append.mp hb with z|z
   ·simp[WL.addrs] at z
    rcases z with z|z|z
    ·exact .inl z
    ·exact .inr (by rw[z];exact hps0)
    ·exact .inr (by rw[z];exact hls0)
   ·exact .inr (nqx b z).2.2.2
inductive BX (A:Ad) (K:PySem.W.Frag) (vs:List V) (H:Hp) (Q:VK):Prop|mk (hv:Tab) (bz:qX) (num:Nat) (l:PL) (p:Proc) (r:PV):vs=[.ref l.p]->ji K H hv bz A.aj num l p r->(∀(H':Hp) (L:PL),ji K H' hv bz A.aj num L p r->Ch [] H H'->(∀b∈L.addrs,H b=none)->L.addrs.Nodup->Q (.ref L.p) H')->BX A K vs H Q
def Hd (A:Ad) (K:PySem.W.Frag):Sp:=fun vs H Q _=>BX A K vs H Q
theorem wF (T:Tx w K mg A D):aS P w K mg base eV 3 A.fB D.fN ["self"] (Hd A K):=by
 refine T.sP.ok pH (fun vs H Q E h=>?_) (fun cdv A' outer s H vs Q E hr h=>?_)
 ·obtain⟨hv,bz,num,l,p,r,rfl,_⟩:=h;rfl
 ·obtain⟨hv,bz,num,l,p,r,rfl,pa,k⟩:=h
  refine⟨_,(ah (aX (i:=1) pH.nd rfl (Or.inl rfl) (rC T.nB (pK T) (hr.mono (by decide)) rfl T.xX T.nI .nil aJ (aa (az (pv 0) rfl) (aa (az (pv 0) rfl) ag))))
   (ah (aY (pv 1) (az (pv 0) rfl) rfl)
   (ah (aY (pv 1) (az (pv 0) rfl) rfl)
   (ah (aY (pv 1) (az (pv 0) rfl) rfl)
   (ah (aY (pv 1) (az (pv 0) rfl) rfl)
   (ah (aY (pv 1) (az (pv 0) rfl) rfl)
   (ah (aY (pv 1) (az (pv 0) rfl) rfl)
   (ah (aY (pv 1) (fk ff rfl T.vC boot_list (aa (az (pv 0) rfl) ag)) rfl)
   (ah (aY (pv 1) (fk ff rfl T.vC boot_list (aa (az (pv 0) rfl) ag)) rfl)
   (ah (aY (pv 1) (fk ff rfl T.vC boot_list (aa (az (pv 0) rfl) ag)) rfl)
   (ah (aY (pv 1) (az (pv 0) rfl) rfl)
   (ah (aY (pv 1) (fk ff rfl T.vC boot_list (aa (az (pv 0) rfl) ag)) rfl)
   (ak (aF (pv 1))))))))))))))),?_⟩
  refine⟨_,rfl,l.p,_,l.dx,_,_,rfl,pa.ob,T.ao,T.bH,zl 0 ck rfl rfl,_,rfl,l.p,_,l.dx,_,_,rfl,pa.ob,T.ao,T.gP,zl 1 ck rfl rfl,fun x dx hx hdx hne=>?_⟩
  have cx:Ch [] H (upd (upd H dx (.own x)) x (.ins A.aj dx [])):=by
   have h2:(upd H dx (.own x)) x=none:=(aE hne.symm).trans hx
   exact(Ch.new hdx).trans (Ch.new h2)
  have gx:(upd (upd H dx (.own x)) x (.ins A.aj dx [])) x=some (.ins A.aj dx []):=ae
  generalize upd (upd H dx _) x _=H1 at cx gx ⊢
  refine⟨x,dx,_,_,rfl,gx,fun H2 L hLp hLd pnw=>⟨rfl,?_⟩⟩
  subst hLp hLd
  obtain⟨vr0,g2⟩:=pnw.ob
  have cB0:Ch [] H H2:=cx.trans' pnw.ch (by intro c hc;rw[List.mem_singleton.mp hc];exact .inr hx)
  have nxl:l.p≠L.p:=ay pa.ob hx
  have ob2:=cB0.fr _ _ pa.ob (by simp)
  have cL2:Ch [L.p] H2 H2:=Ch.refl _ _
  refine⟨_,rfl,l.p,_,l.dx,_,_,rfl,ob2,T.ao,T.aN,zl 2 ck rfl rfl,_,rfl,L.p,_,L.dx,_,rfl,g2,T.ao,T.aN,lp,?_⟩
  rw[zp 2 ck rfl (by show 2<13;decide)]
  generalize hH3:upd H2 L.p _=H3
  have c3:Ch [L.p] H2 H3:=by rw[<-hH3];exact Ch.put g2 trivial (by simp)
  have g3:H3 L.p=some (.ins A.aj L.dx (PN.zip [.int (num:Int),r.nm,r.md,.bo,vr0,.bo,.int 0,.int 0,.ref L.td,.ref L.bx,.ref L.sd,.int 0,.ref L.wt])):=by rw[<-hH3];exact ae
  have ob3:=c3.fr _ _ ob2 (by simp[nxl])
  have cL3:=cL2.trans c3
  refine⟨_,rfl,l.p,_,l.dx,_,_,rfl,ob3,T.ao,T.eh,zl 3 ck rfl rfl,_,rfl,L.p,_,L.dx,_,rfl,g3,T.ao,T.eh,lp,?_⟩
  rw[zp 3 ck rfl (by show 3<13;decide)]
  generalize hH4:upd H3 L.p _=H4
  have c4:Ch [L.p] H3 H4:=by rw[<-hH4];exact Ch.put g3 trivial (by simp)
  have g4:H4 L.p=some (.ins A.aj L.dx (PN.zip [.int (num:Int),r.nm,r.md,r.nd,vr0,.bo,.int 0,.int 0,.ref L.td,.ref L.bx,.ref L.sd,.int 0,.ref L.wt])):=by rw[<-hH4];exact ae
  have ob4:=c4.fr _ _ ob3 (by simp[nxl])
  have cL4:=cL3.trans c4
  refine⟨_,rfl,l.p,_,l.dx,_,_,rfl,ob4,T.ao,T.bh,zl 4 ck rfl rfl,_,rfl,L.p,_,L.dx,_,rfl,g4,T.ao,T.bh,lp,?_⟩
  rw[zp 4 ck rfl (by show 4<13;decide)]
  generalize hH5:upd H4 L.p _=H5
  have c5:Ch [L.p] H4 H5:=by rw[<-hH5];exact Ch.put g4 trivial (by simp)
  have g5:H5 L.p=some (.ins A.aj L.dx (PN.zip [.int (num:Int),r.nm,r.md,r.nd,r.vr,.bo,.int 0,.int 0,.ref L.td,.ref L.bx,.ref L.sd,.int 0,.ref L.wt])):=by rw[<-hH5];exact ae
  have ob5:=c5.fr _ _ ob4 (by simp[nxl])
  have cL5:=cL4.trans c5
  refine⟨_,rfl,l.p,_,l.dx,_,_,rfl,ob5,T.ao,T.aQ,zl 5 ck rfl rfl,_,rfl,L.p,_,L.dx,_,rfl,g5,T.ao,T.aQ,lp,?_⟩
  rw[zp 5 ck rfl (by show 5<13;decide)]
  generalize hH6:upd H5 L.p _=H6
  have c6:Ch [L.p] H5 H6:=by rw[<-hH6];exact Ch.put g5 trivial (by simp)
  have g6:H6 L.p=some (.ins A.aj L.dx (PN.zip [.int (num:Int),r.nm,r.md,r.nd,r.vr,r.vl,.int 0,.int 0,.ref L.td,.ref L.bx,.ref L.sd,.int 0,.ref L.wt])):=by rw[<-hH6];exact ae
  have ob6:=c6.fr _ _ ob5 (by simp[nxl])
  have cL6:=cL5.trans c6
  refine⟨_,rfl,l.p,_,l.dx,_,_,rfl,ob6,T.ao,T.eO,zl 6 ck rfl rfl,_,rfl,L.p,_,L.dx,_,rfl,g6,T.ao,T.eO,lp,?_⟩
  rw[zp 6 ck rfl (by show 6<13;decide)]
  generalize hH7:upd H6 L.p _=H7
  have c7:Ch [L.p] H6 H7:=by rw[<-hH7];exact Ch.put g6 trivial (by simp)
  have g7:H7 L.p=some (.ins A.aj L.dx (PN.zip [.int (num:Int),r.nm,r.md,r.nd,r.vr,r.vl,r.sc,.int 0,.ref L.td,.ref L.bx,.ref L.sd,.int 0,.ref L.wt])):=by rw[<-hH7];exact ae
  have ob7:=c7.fr _ _ ob6 (by simp[nxl])
  have cL7:=cL6.trans c7
  refine⟨_,rfl,l.p,_,l.dx,_,_,rfl,ob7,T.ao,T.dr,zl 7 ck rfl rfl,_,rfl,L.p,_,L.dx,_,rfl,g7,T.ao,T.dr,lp,?_⟩
  rw[zp 7 ck rfl (by show 7<13;decide)]
  generalize hH8:upd H7 L.p _=H8
  have c8:Ch [L.p] H7 H8:=by rw[<-hH8];exact Ch.put g7 trivial (by simp)
  have g8:H8 L.p=some (.ins A.aj L.dx (PN.zip [.int (num:Int),r.nm,r.md,r.nd,r.vr,r.vl,r.sc,r.lk,.ref L.td,.ref L.bx,.ref L.sd,.int 0,.ref L.wt])):=by rw[<-hH8];exact ae
  have ob8:=c8.fr _ _ ob7 (by simp[nxl])
  have cL8:=cL7.trans c8
  have td8:=(cB0.mono (by simp):Ch [L.p] H H2).trans cL8 |>.fr _ _ pa.td (by simp[ay pa.td hx])
  refine⟨_,rfl,l.p,_,l.dx,_,_,rfl,ob8,T.ao,T.bU,zl 8 ck rfl rfl,l.td,_,rfl,.inl (bM.of td8),fun ntd hntd=>?_⟩
  generalize hH9:upd H8 ntd _=H9
  have c9:Ch [L.p] H8 H9:=by rw[<-hH9];exact Ch.new hntd
  have gntd9:H9 ntd=some (.lst r.ws.reverse):=by rw[<-hH9];exact ae
  have g9:=(show H9 L.p=H8 L.p from by rw[<-hH9];exact aE (ay g8 hntd)).trans g8
  have ob9:=c9.fr _ _ ob8 (by simp[nxl])
  have cL9:=cL8.trans c9
  have xntd:ntd≠L.p:=(ay g8 hntd).symm
  have fntd:H ntd=none:=((cB0.mono (by simp):Ch [L.p] H H2).trans cL8).free hntd (by simp[xntd])
  refine⟨_,rfl,L.p,_,L.dx,_,rfl,g9,T.ao,T.bU,lp,?_⟩
  rw[zp 8 ck rfl (by show 8<13;decide)]
  generalize hH10:upd H9 L.p _=H10
  have c10:Ch [L.p] H9 H10:=by rw[<-hH10];exact Ch.put g9 trivial (by simp)
  have g10:H10 L.p=some (.ins A.aj L.dx (PN.zip [.int (num:Int),r.nm,r.md,r.nd,r.vr,r.vl,r.sc,r.lk,.ref ntd,.ref L.bx,.ref L.sd,.int 0,.ref L.wt])):=by rw[<-hH10];exact ae
  have ob10:=c10.fr _ _ ob9 (by simp[nxl])
  have cL10:=cL9.trans c10
  have gntd10:=c10.fr _ _ gntd9 (by simp[xntd])
  have bx10:=(cB0.mono (by simp):Ch [L.p] H H2).trans cL10 |>.fr _ _ pa.bx (by simp[ay pa.bx hx])
  refine⟨_,rfl,l.p,_,l.dx,_,_,rfl,ob10,T.ao,T.bW,zl 9 ck rfl rfl,l.bx,_,rfl,.inl (bM.of bx10),fun nbx hnbx=>?_⟩
  generalize hH11:upd H10 nbx _=H11
  have c11:Ch [L.p] H10 H11:=by rw[<-hH11];exact Ch.new hnbx
  have gnbx11:H11 nbx=some (.lst r.bv):=by rw[<-hH11];exact ae
  have g11:=(show H11 L.p=H10 L.p from by rw[<-hH11];exact aE (ay g10 hnbx)).trans g10
  have ob11:=c11.fr _ _ ob10 (by simp[nxl])
  have cL11:=cL10.trans c11
  have xnbx:nbx≠L.p:=(ay g10 hnbx).symm
  have fnbx:H nbx=none:=((cB0.mono (by simp):Ch [L.p] H H2).trans cL10).free hnbx (by simp[xnbx])
  have gntd11:=c11.fr _ _ gntd10 (by simp[xntd])
  have entdnbx:ntd≠nbx:=ay gntd10 hnbx
  refine⟨_,rfl,L.p,_,L.dx,_,rfl,g11,T.ao,T.bW,lp,?_⟩
  rw[zp 9 ck rfl (by show 9<13;decide)]
  generalize hH12:upd H11 L.p _=H12
  have c12:Ch [L.p] H11 H12:=by rw[<-hH12];exact Ch.put g11 trivial (by simp)
  have g12:H12 L.p=some (.ins A.aj L.dx (PN.zip [.int (num:Int),r.nm,r.md,r.nd,r.vr,r.vl,r.sc,r.lk,.ref ntd,.ref nbx,.ref L.sd,.int 0,.ref L.wt])):=by rw[<-hH12];exact ae
  have ob12:=c12.fr _ _ ob11 (by simp[nxl])
  have cL12:=cL11.trans c12
  have gntd12:=c12.fr _ _ gntd11 (by simp[xntd])
  have gnbx12:=c12.fr _ _ gnbx11 (by simp[xnbx])
  have sd12:=(cB0.mono (by simp):Ch [L.p] H H2).trans cL12 |>.fr _ _ pa.sd (by simp[ay pa.sd hx])
  refine⟨_,rfl,l.p,_,l.dx,_,_,rfl,ob12,T.ao,T.fS,zl 10 ck rfl rfl,l.sd,_,rfl,.inl (bM.of sd12),fun nsd hnsd=>?_⟩
  generalize hH13:upd H12 nsd _=H13
  have c13:Ch [L.p] H12 H13:=by rw[<-hH13];exact Ch.new hnsd
  have gnsd13:H13 nsd=some (.lst r.sv):=by rw[<-hH13];exact ae
  have g13:=(show H13 L.p=H12 L.p from by rw[<-hH13];exact aE (ay g12 hnsd)).trans g12
  have ob13:=c13.fr _ _ ob12 (by simp[nxl])
  have cL13:=cL12.trans c13
  have xnsd:nsd≠L.p:=(ay g12 hnsd).symm
  have fnsd:H nsd=none:=((cB0.mono (by simp):Ch [L.p] H H2).trans cL12).free hnsd (by simp[xnsd])
  have gntd13:=c13.fr _ _ gntd12 (by simp[xntd])
  have entdnsd:ntd≠nsd:=ay gntd12 hnsd
  have gnbx13:=c13.fr _ _ gnbx12 (by simp[xnbx])
  have enbxnsd:nbx≠nsd:=ay gnbx12 hnsd
  refine⟨_,rfl,L.p,_,L.dx,_,rfl,g13,T.ao,T.fS,lp,?_⟩
  rw[zp 10 ck rfl (by show 10<13;decide)]
  generalize hH14:upd H13 L.p _=H14
  have c14:Ch [L.p] H13 H14:=by rw[<-hH14];exact Ch.put g13 trivial (by simp)
  have g14:H14 L.p=some (.ins A.aj L.dx (PN.zip [.int (num:Int),r.nm,r.md,r.nd,r.vr,r.vl,r.sc,r.lk,.ref ntd,.ref nbx,.ref nsd,.int 0,.ref L.wt])):=by rw[<-hH14];exact ae
  have ob14:=c14.fr _ _ ob13 (by simp[nxl])
  have cL14:=cL13.trans c14
  have gntd14:=c14.fr _ _ gntd13 (by simp[xntd])
  have gnbx14:=c14.fr _ _ gnbx13 (by simp[xnbx])
  have gnsd14:=c14.fr _ _ gnsd13 (by simp[xnsd])
  refine⟨_,rfl,l.p,_,l.dx,_,_,rfl,ob14,T.ao,T.cg,zl 11 ck rfl rfl,_,rfl,L.p,_,L.dx,_,rfl,g14,T.ao,T.cg,lp,?_⟩
  rw[zp 11 ck rfl (by show 11<13;decide)]
  generalize hH15:upd H14 L.p _=H15
  have c15:Ch [L.p] H14 H15:=by rw[<-hH15];exact Ch.put g14 trivial (by simp)
  have g15:H15 L.p=some (.ins A.aj L.dx (PN.zip [.int (num:Int),r.nm,r.md,r.nd,r.vr,r.vl,r.sc,r.lk,.ref ntd,.ref nbx,.ref nsd,.int (p.born:Int),.ref L.wt])):=by rw[<-hH15];exact ae
  have ob15:=c15.fr _ _ ob14 (by simp[nxl])
  have cL15:=cL14.trans c15
  have gntd15:=c15.fr _ _ gntd14 (by simp[xntd])
  have gnbx15:=c15.fr _ _ gnbx14 (by simp[xnbx])
  have gnsd15:=c15.fr _ _ gnsd14 (by simp[xnsd])
  have wt15:=(cB0.mono (by simp):Ch [L.p] H H2).trans cL15 |>.fr _ _ pa.wt (by simp[ay pa.wt hx])
  refine⟨_,rfl,l.p,_,l.dx,_,_,rfl,ob15,T.ao,T.bQ,zl 12 ck rfl rfl,l.wt,_,rfl,.inl (bM.of wt15),fun nwt hnwt=>?_⟩
  generalize hH16:upd H15 nwt _=H16
  have c16:Ch [L.p] H15 H16:=by rw[<-hH16];exact Ch.new hnwt
  have gnwt16:H16 nwt=some (.lst r.wv):=by rw[<-hH16];exact ae
  have g16:=(show H16 L.p=H15 L.p from by rw[<-hH16];exact aE (ay g15 hnwt)).trans g15
  have ob16:=c16.fr _ _ ob15 (by simp[nxl])
  have cL16:=cL15.trans c16
  have xnwt:nwt≠L.p:=(ay g15 hnwt).symm
  have fnwt:H nwt=none:=((cB0.mono (by simp):Ch [L.p] H H2).trans cL15).free hnwt (by simp[xnwt])
  have gntd16:=c16.fr _ _ gntd15 (by simp[xntd])
  have entdnwt:ntd≠nwt:=ay gntd15 hnwt
  have gnbx16:=c16.fr _ _ gnbx15 (by simp[xnbx])
  have enbxnwt:nbx≠nwt:=ay gnbx15 hnwt
  have gnsd16:=c16.fr _ _ gnsd15 (by simp[xnsd])
  have ensdnwt:nsd≠nwt:=ay gnsd15 hnwt
  refine⟨_,rfl,L.p,_,L.dx,_,rfl,g16,T.ao,T.bQ,lp,?_⟩
  rw[zp 12 ck rfl (by show 12<13;decide)]
  generalize hH17:upd H16 L.p _=H17
  have c17:Ch [L.p] H16 H17:=by rw[<-hH17];exact Ch.put g16 trivial (by simp)
  have g17:H17 L.p=some (.ins A.aj L.dx (PN.zip [.int (num:Int),r.nm,r.md,r.nd,r.vr,r.vl,r.sc,r.lk,.ref ntd,.ref nbx,.ref nsd,.int (p.born:Int),.ref nwt])):=by rw[<-hH17];exact ae
  have ob17:=c17.fr _ _ ob16 (by simp[nxl])
  have cL17:=cL16.trans c17
  have gntd17:=c17.fr _ _ gntd16 (by simp[xntd])
  have gnbx17:=c17.fr _ _ gnbx16 (by simp[xnbx])
  have gnsd17:=c17.fr _ _ gnsd16 (by simp[xnsd])
  have gnwt17:=c17.fr _ _ gnwt16 (by simp[xnwt])
  have cc:Ch [] H H17:=cB0.trans' cL17 (by intro c hc;rw[List.mem_singleton.mp hc];exact .inr hx)
  have pf:=List.prefix_refl hv
  have pn:=List.prefix_refl bz
  refine⟨_,rfl,k H17 ⟨L.p,L.dx,ntd,nbx,nsd,nwt⟩ ⟨g17,yR.mono cc pa.nm,yB.mono cc pf pn pa.ct,gntd17,Paired.bL pa.yC fun _ _ z=>B5.mono cc pf pn z,gnbx17,Paired.bL pa.Dc fun _ _ z=>VR.mono cc pf pn z,gnsd17,Paired.bL pa.EG fun _ _ z=>VR.mono cc pf pn z,gnwt17,pa.Ek⟩ cc ?_ ?_⟩
  ·intro b hb
   simp[PL.addrs] at hb
   rcases hb with rfl|rfl|rfl|rfl|rfl
   ·exact hx
   ·exact fntd
   ·exact fnbx
   ·exact fnsd
   ·exact fnwt
  ·simp[PL.addrs,xntd.symm,xnbx.symm,xnsd.symm,xnwt.symm,entdnbx,entdnsd,entdnwt,enbxnsd,enbxnwt,ensdnwt]
theorem iN:aD ["self","twin","process"] ["self"] (aA kO):=⟨rfl,rfl,rfl,by decide +kernel,rfl,by decide +kernel,by decide +kernel⟩
inductive BK (P:Program) (w:World) (A:Ad) (K:PySem.W.Frag) (vs:List V) (H:Hp) (Q:VK):Prop|mk (hv:Tab) (W:WL) (q:QL) (s:Ha09.St):vs=[.ref W.w]->WS P w A K H hv W q s->s.procs.length<=20->(∀(H':Hp) (W':WL),WS P w A K H' hv W' q s->Ch [] H H'->(∀b∈W'.addrs,H b=none)->Q (.ref W'.w) H')->BK P w A K vs H Q
def G3 (P:Program) (w:World) (A:Ad) (K:PySem.W.Frag):Sp:=fun vs H Q _=>BK P w A K vs H Q
theorem ji.there {H:Hp} {hv:Tab} {bz:qX} {C:Addr} {num:Nat} {L:PL} {p:Proc} {r:PV} (h:ji K H hv bz C num L p r):∀b∈L.addrs,∃o,H b=some o:=fun b hb=>by
 simp[PL.addrs] at hb
 rcases hb with rfl|rfl|rfl|rfl|rfl
 ·exact⟨_,h.ob⟩
 ·exact⟨_,h.td⟩
 ·exact⟨_,h.bx⟩
 ·exact⟨_,h.sd⟩
 ·exact⟨_,h.wt⟩
theorem r8 (T:Tx w K mg A D):aS P w K mg base eV 6 A.ij D.iC ["self"] (G3 P w A K):=by
 refine T.v8.ok iN (fun vs H Q E h=>?_) (fun cdv A' outer s0 H vs Q E hr h=>?_)
 ·obtain⟨hv,W,q,s,rfl,_⟩:=h;rfl
 ·obtain⟨hv,W,q,s,rfl,ws,hle,k⟩:=h
  refine⟨_,(ah (aX (i:=1) iN.nd rfl (Or.inl rfl) (rC T.mQ (nu T) (hr.mono (by decide)) rfl T.Ao T.m7 .nil aJ (aa (az (pv 0) rfl) ag)))
   (ah (aY (pv 1) (pe_lc rfl iN.nd (rB (az (pv 0) rfl)) (GG (own:=[("process",2)]) rfl) (fun _ _ _ _ _=>gv (i:=2) iN.nd rfl (Or.inl rfl)) (fun _ _ _ _ _=>Hu) (fun _ _ _ _ _=>gf (pv 2) T.ao T.r9 (wF T) (hr.mono (by decide)) T.sJ .nil aJ)) rfl)
   (ah (aY (pv 1) (fk ff rfl T.vC boot_list (aa (az (pv 0) rfl) ag)) rfl)
   (ah (aY (pv 1) (az (pv 0) rfl) rfl)
   (ah (aY (pv 1) (az (pv 0) rfl) rfl)
   (ak (aF (pv 1)))))))),?_⟩
  obtain⟨fa,us,hfn,ftp,fnr⟩:=ws.wa.fn
  refine⟨_,rfl,W.w,_,W.dx,_,_,rfl,ws.wa.ob,T.aL,T.dJ,zl 0 mr rfl rfl,fun x dx hx hdx hne=>?_⟩
  have cx:Ch [] H (upd (upd H dx (.own x)) x (.ins A.aR dx [])):=by
   have h2:(upd H dx (.own x)) x=none:=(aE hne.symm).trans hx
   exact(Ch.new hdx).trans (Ch.new h2)
  have gx:(upd (upd H dx (.own x)) x (.ins A.aR dx [])) x=some (.ins A.aR dx []):=ae
  generalize upd (upd H dx _) x _=H1 at cx gx ⊢
  refine⟨x,dx,fa,us,s.program,by rw[hfn];rfl,gx,ftp.mono cx,Paired.bL fnr fun _ _ z=>z.mono cx,ws.wa.fd,fun H2 W2 q2 e1 e2 e3 e4 ws2 c2 fr2=>⟨rfl,?_⟩⟩
  subst e1 e2
  have c02:Ch [] H H2:=cx.trans' c2 (by intro c hc;rw[List.mem_singleton.mp hc];exact .inr hx)
  have o2:=ws2.wa.ob
  rw[e3] at o2
  have ob2:=c02.fr _ _ ws.wa.ob (by simp)
  have ps2:=c02.fr _ _ ws.wa.ps (by simp)
  have nxw:W.w≠W2.w:=ay ws.wa.ob hx
  refine⟨_,rfl,W.w,_,W.dx,_,_,rfl,ob2,T.aL,T.bg,zl 1 mr rfl rfl,W.ps,rfl,⟨_,bM.of ps2⟩,fun np hnp=>?_⟩
  have hnp0:H np=none:=c02.free hnp (by simp)
  have pf:=List.prefix_refl hv
  have pn:=List.prefix_refl (aB s)
  have frW:∀b∈W.addrs,b≠np:=fun b hb e=>by obtain⟨o,h⟩:=ws.wa.there b hb;rw[e,hnp0] at h;cases h
  refine HK (K:=K) (a:=W.ps) (xs:=W.pl.map fun l=>.ref l.p) (fun i Hi=>∃pls:List PL,pls.length=i/\Hi np=some (.lst (pls.map fun l=>.ref l.p))/\Ch [np] H2 Hi/\(∀(j:Nat) l p,pls[j]?=some l->s.procs[j]?=some p->∃r,ji K Hi hv (aB s) A.aj (j+1) l p r)/\(pls.flatMap PL.addrs).Nodup/\∀b∈pls.flatMap PL.addrs,H2 b=none/\b≠np/\∃o,Hi b=some o)
   ⟨[],rfl,ae,Ch.new hnp,fun j l p h=>by simp at h,by simp,fun b hb=>by simp at hb⟩ (fun i Hi _ ⟨_,_,_,c,_⟩=>bM.of (c.fr _ _ ps2 (by simp[frW W.ps (by simp[WL.addrs])]))) ?_ ?_
  ·rintro i y Hi hy ⟨pls,hln,hL,c,hat,hnd,hfr⟩
   rw[List.getElem?_map] at hy
   obtain⟨l,hl,rfl⟩:=Option.map_eq_some_iff.mp hy
   have hi:=(List.getElem?_eq_some_iff.mp hl).1
   rw[ws.wa.len] at hi
   obtain⟨r,pa⟩:=ws.wa.at_ i l _ hl (List.getElem?_eq_getElem hi)
   have cHi:Ch [np] H Hi:=(c02.mono (by simp)).trans c
   have pai:=ji.mono cHi pf pn (fun b hb z=>frW b (qw hl b hb) (List.mem_singleton.mp z)) pa
   refine⟨rfl,?_⟩
   unfold tYes
   refine Eq.mpr (if_pos rfl) ?_
   refine⟨_,rfl,l.p,l.dx,_,rfl,pai.ob,zn (by decide +kernel),hv,aB s,i+1,l,_,r,rfl,pai,fun H4 L paL c4 frL ndL=>?_⟩
   have hL4:=c4.fr _ _ hL (by simp)
   refine⟨_,hL4,by rw[List.length_map,hln,sizeLine_eq];omega,?_⟩
   generalize hH5:upd H4 np _=H5
   have c5:Ch [np] H4 H5:=by rw[<-hH5];exact Ch.put hL4 trivial (by simp)
   have hL5:H5 np=some (.lst ((pls++[L]).map fun l=>.ref l.p)):=by rw[<-hH5,ae];simp
   have cHi5:Ch [np] Hi H5:=(c4.mono (by simp)).trans c5
   have frN:∀b∈L.addrs,b≠np:=fun b hb e=>by have h:=frL b hb;rw[e,hL] at h;cases h
   refine⟨pls++[L],by simp[hln],hL5,c.trans cHi5,fun j l' p' h1 h2=>?_,?_,fun b hb=>?_⟩
   ·by_cases hj:j<pls.length
    ·rw[List.getElem?_append_left hj] at h1
     obtain⟨r',q'⟩:=hat j l' p' h1 h2
     exact⟨r',ji.mono cHi5 pf pn (fun b hb z=>(hfr b (List.mem_flatMap.mpr ⟨l',List.mem_of_getElem? h1,hb⟩)).2.1 (List.mem_singleton.mp z)) q'⟩
    ·have hj0:j=i:=by
      have:=(List.getElem?_eq_some_iff.mp h1).1
      simp at this;omega
     subst hj0
     rw[<-hln,List.getElem?_append_right (Nat.le_refl _)] at h1
     simp at h1
     subst h1
     rw[List.getElem?_eq_getElem hi] at h2
     cases h2
     exact⟨r,ji.mono c5 pf pn (fun b hb z=>frN b hb (List.mem_singleton.mp z)) paL⟩
   ·rw[List.flatMap_append]
    refine List.nodup_append.mpr ⟨hnd,by simpa using ndL,fun b h1 b' h2 e=>?_⟩
    simp at h2
    obtain⟨_,_,o,ho⟩:=hfr b h1
    rw[e,frL b' h2] at ho;cases ho
   ·rw[List.flatMap_append] at hb
    rcases List.mem_append.mp hb with hb|hb
    ·obtain⟨h1,h2,o,ho⟩:=hfr b hb
     exact⟨h1,h2,o,cHi5.fr _ _ ho (by simp[h2])⟩
    ·simp at hb
     obtain⟨o,ho⟩:=paL.there b hb
     exact⟨c.free (frL b hb) (by simp[frN b hb]),frN b hb,o,c5.fr _ _ ho (by simp[frN b hb])⟩
  ·rintro H3 ⟨pls,hln,hL,c3,hat,hnd,hfr⟩
   rw[List.length_map,ws.wa.len] at hln
   have nwp:W2.w≠np:=ay o2 hnp
   have cA:Ch [np] H H3:=(c02.mono (by simp)).trans c3
   have o3:=c3.fr _ _ o2 (by simp[nwp])
   refine⟨_,rfl,W2.w,_,W2.dx,_,rfl,o3,T.aL,T.bg,(by show 5<1000;decide),?_⟩
   rw[zp 1 mr rfl (by show 1<5;decide)]
   generalize hH4:upd H3 W2.w _=H4
   have c4:Ch [W2.w] H3 H4:=by rw[<-hH4];exact Ch.put o3 trivial (by simp)
   have o4:H4 W2.w=some (.ins A.aR W2.dx (WN.zip [.ref fa,.ref np,.ref W2.ls,.int 0,.ref W2.pr])):=by rw[<-hH4];exact ae
   have hL4:=c4.fr _ _ hL (by simp[nwp.symm])
   obtain⟨lv,hls,hlt⟩:=ws.wa.ls
   have cB:Ch [np,W2.w] H H4:=(cA.mono (by simp)).trans (c4.mono (by simp))
   have oldW:∀b∈W.addrs,b∉[np,W2.w]:=fun b hb z=>by
    obtain⟨o,h⟩:=ws.wa.there b hb
    rcases List.mem_cons.mp z with z|z
    ·rw[z,hnp0] at h;cases h
    ·rw[List.mem_singleton.mp z,hx] at h;cases h
   have ob4:=cB.fr _ _ ws.wa.ob (oldW _ (by simp[WL.addrs]))
   have ls4:=cB.fr _ _ hls (oldW _ (by simp[WL.addrs]))
   refine⟨_,rfl,W.w,_,W.dx,_,_,rfl,ob4,T.aL,T.br,zl 2 mr rfl rfl,W.ls,_,rfl,.inl (bM.of ls4),fun nl hnl=>?_⟩
   generalize hH5:upd H4 nl _=H5
   have c5:Ch [] H4 H5:=by rw[<-hH5];exact Ch.new hnl
   have l5:H5 nl=some (.lst lv):=by rw[<-hH5];exact ae
   have o5:=c5.fr _ _ o4 (by simp)
   have hL5:=c5.fr _ _ hL4 (by simp)
   have nlw:nl≠W2.w:=(ay o4 hnl).symm
   have nlp:nl≠np:=(ay hL4 hnl).symm
   have hnl0:H nl=none:=cB.free hnl (by simp[nlw,nlp])
   refine⟨_,rfl,W2.w,_,W2.dx,_,rfl,o5,T.aL,T.br,(by show 5<1000;decide),?_⟩
   rw[zp 2 mr rfl (by show 2<5;decide)]
   generalize hH6:upd H5 W2.w _=H6
   have c6:Ch [W2.w] H5 H6:=by rw[<-hH6];exact Ch.put o5 trivial (by simp)
   have o6:H6 W2.w=some (.ins A.aR W2.dx (WN.zip [.ref fa,.ref np,.ref nl,.int 0,.ref W2.pr])):=by rw[<-hH6];exact ae
   have cC:Ch [np,W2.w] H H6:=(cB.trans (c5.mono (by simp))).trans (c6.mono (by simp))
   have ob6:=cC.fr _ _ ws.wa.ob (oldW _ (by simp[WL.addrs]))
   refine⟨_,rfl,W.w,_,W.dx,_,_,rfl,ob6,T.aL,T.dw,zl 3 mr rfl rfl,_,rfl,W2.w,_,W2.dx,_,rfl,o6,T.aL,T.dw,(by show 5<1000;decide),?_⟩
   rw[zp 3 mr rfl (by show 3<5;decide)]
   generalize hH7:upd H6 W2.w _=H7
   have c7:Ch [W2.w] H6 H7:=by rw[<-hH7];exact Ch.put o6 trivial (by simp)
   have o7:H7 W2.w=some (.ins A.aR W2.dx (WN.zip [.ref fa,.ref np,.ref nl,.int (s.time:Int),.ref W2.pr])):=by rw[<-hH7];exact ae
   have cD:Ch [np,W2.w] H H7:=cC.trans (c7.mono (by simp))
   have ob7:=cD.fr _ _ ws.wa.ob (oldW _ (by simp[WL.addrs]))
   refine⟨_,rfl,W.w,_,W.dx,_,_,rfl,ob7,T.aL,T.bV,zl 4 mr rfl rfl,_,rfl,W2.w,_,W2.dx,_,rfl,o7,T.aL,T.bV,(by show 5<1000;decide),?_⟩
   rw[zp 4 mr rfl (by show 4<5;decide)]
   generalize hH8:upd H7 W2.w _=H8
   have c8:Ch [W2.w] H7 H8:=by rw[<-hH8];exact Ch.put o7 trivial (by simp)
   have o8:H8 W2.w=some (.ins A.aR W2.dx (WN.zip [.ref fa,.ref np,.ref nl,.int (s.time:Int),.ref W.pr])):=by rw[<-hH8];exact ae
   have c38:Ch [W2.w] H3 H8:=(((c4.trans (c5.mono (by simp))).trans c6).trans c7).trans c8
   have c58:Ch [W2.w] H5 H8:=(c6.trans c7).trans c8
   have cE:Ch [np,W2.w] H H8:=cD.trans (c8.mono (by simp))
   have cH:Ch [] H H8:=⟨fun b o h n=>cE.fr b o h (fun z=>by
    rcases List.mem_cons.mp z with z|z
    ·rw[z,hnp0] at h;cases h
    ·rw[List.mem_singleton.mp z,hx] at h;cases h),cE.tu,fun b o u h=>cE.fz b o u h⟩
   have hfr0:∀b∈pls.flatMap PL.addrs,b≠W2.w/\b≠np/\b≠nl/\H b=none:=fun b hb=>by
    obtain⟨h1,h2,o,ho⟩:=hfr b hb
    have e1:b≠W2.w:=fun e=>by rw[e,o2] at h1;cases h1
    refine⟨e1,h2,fun e=>?_,c02.free h1 (by simp)⟩
    have:=c4.fr _ _ ho (by simp[e1])
    rw[e,hnl] at this;cases this
   refine⟨_,rfl,k H8 ⟨W2.w,W2.dx,np,nl,.ref fa,W.pr,pls⟩ ⟨⟨o8,⟨fa,us,rfl,ftp.mono cH,Paired.bL fnr fun _ _ z=>z.mono cH⟩,ws.wa.fd,c38.fr _ _ hL (by simp[nwp.symm]),hln,fun j l p h1 h2=>?_,⟨lv,c58.fr _ _ l5 (by simp[nlw]),Paired.bL hlt fun _ _ z=>yi.mono cH pf pn z⟩,?_⟩,ws.pr.mono cH (by simp),ws.po,fun b hb z=>?_,ws.gd⟩ cH fun b hb=>?_⟩
   ·obtain⟨r,q'⟩:=hat j l p h1 h2
    exact⟨r,ji.mono c38 pf pn (fun b hb z=>(hfr0 b (List.mem_flatMap.mpr ⟨l,List.mem_of_getElem? h1,hb⟩)).1 (List.mem_singleton.mp z)) q'⟩
   ·show(W2.w::np::nl::pls.flatMap PL.addrs).Nodup
    refine List.nodup_cons.mpr ⟨fun z=>?_,List.nodup_cons.mpr ⟨fun z=>?_,List.nodup_cons.mpr ⟨fun z=>(hfr0 _ z).2.2.1 rfl,hnd⟩⟩⟩
    ·rcases List.mem_cons.mp z with z|z
     ·exact nwp z
     ·rcases List.mem_cons.mp z with z|z
      ·exact nlw z.symm
      ·exact(hfr0 _ z).1 rfl
    ·rcases List.mem_cons.mp z with z|z
     ·exact nlp z.symm
     ·exact(hfr0 _ z).2.1 rfl
   all_goals
    have all:∀b∈(⟨W2.w,W2.dx,np,nl,.ref fa,W.pr,pls⟩:WL).addrs,H b=none:=fun b hb=>by
     have hb':b∈W2.w::np::nl::pls.flatMap PL.addrs:=hb
     rcases List.mem_cons.mp hb' with z|z
     ·rw[z];exact hx
     rcases List.mem_cons.mp z with z|z
     ·rw[z];exact hnp0
     rcases List.mem_cons.mp z with z|z
     ·rw[z];exact hnl0
     ·exact(hfr0 b z).2.2.2
   ·obtain⟨o,ho⟩:=ws.pr.there b hb
    rw[all b z] at ho;cases ho
   ·exact all b hb
theorem passN {X:Cx}:Passes (wg P w) X E0:=fun _ _ _ _ _ _ _ h=>by obtain⟨_,_,_,_,_,_,_,_,h⟩:=h;exact h.elim
structure yj (P:Program) (w:World) (A:Ad) (K:PySem.W.Frag) (H:Hp) (ln dx:Addr) (hv:Tab) (W:WL) (q:QL) (s:Ha09.St):Prop where
 ob:H ln=some (.ins A.cLine dx (LN.zip [.ref W.w]))
 ws:WS P w A K H hv W q s
 nl:ln∉fp W q
 CC:s.procs.length<=20
def jj (P:Program) (w:World) (A:Ad) (K:PySem.W.Frag) (H:Hp) (ln dx:Addr) (hv:Tab) (W:WL) (q:QL) (s s':Ha09.St) (Aw:List Int) (Q:VK):Prop :=
 ∀H' hv' W' q' r,yj P w A K H' ln dx hv' W' q' s'->hv'.length<=hv.length+wt s+12000->wt s'<=wt s+12000->Ch (ln::fp W q) H H'->(∀b∈fp W' q',b∈fp W q\/H b=none)->(r∉ln::fp W q->H r=none)->H' r=some (.lst (tl Aw))->Q (.ref r) H'
theorem yj.news {H H':Hp} {ln dx:Addr} {hv:Tab} {W:WL} {q:QL} {s:Ha09.St} (h:yj P w A K H ln dx hv W q s) (c:Ch [] H H'):yj P w A K H' ln dx hv W q s:=⟨c.fr _ _ h.ob (by simp),h.ws.news c,h.nl,h.CC⟩
theorem jj.same {H:Hp} {ln dx:Addr} {hv:Tab} {W:WL} {q:QL} {s:Ha09.St} {Aw:List Int} {Q:VK} (k:jj P w A K H ln dx hv W q s s Aw Q) (h:yj P w A K H ln dx hv W q s) {H':Hp} {r:Addr} (c:Ch [] H H') (hr:H r=none) (hr':H' r=some (.lst (tl Aw))):Q (.ref r) H' :=
 k H' hv W q r (h.news c) (by omega) (by omega) (c.mono (by simp)) (fun b hb=>.inl hb) (fun _=>hr) hr'
theorem jj.one {H:Hp} {ln dx:Addr} {hv:Tab} {W:WL} {q:QL} {s:Ha09.St} {z:Int} {Q:VK} (k:jj P w A K H ln dx hv W q s s [z] Q) (h:yj P w A K H ln dx hv W q s) {r:Addr} (hr:H r=none):Q (.ref r) (upd H r (.lst [.int z])) :=
 k.same h (Ch.new hr) hr ae
inductive D8 (P:Program) (w:World) (A:Ad) (K:PySem.W.Frag) (vs:List V) (H:Hp) (Q:VK):Prop|mk (ln dx ow ra:Addr) (hv:Tab) (W:WL) (q:QL) (s:Ha09.St):vs=[.ref ln,.ref W.w,.ref ra]->H ln=some (.ins A.cLine dx (LN.zip [.ref ow]))->WS P w A K H hv W q s->(200<s.air.length->∀r,H r=none->Q (.ref r) (upd H r (.lst [.int (-6)])))->(s.air.length<=200->Q (.ref ra) (upd H ln (.ins A.cLine dx (LN.zip [.ref W.w]))))->D8 P w A K vs H Q
def Fv (P:Program) (w:World) (A:Ad) (K:PySem.W.Frag):Sp:=fun vs H Q _=>D8 P w A K vs H Q
theorem ur (T:Tx w K mg A D):aS P w K mg base eV 2 A.jv D.jH ["self","trial","answer"] (Fv P w A K):=by
 refine T.yz.ok zV (fun vs H Q E h=>?_) (fun cdv A' outer s0 H vs Q E hr h=>?_)
 ·obtain⟨ln,dx,ow,ra,hv,W,q,s,rfl,_⟩:=h;rfl
 ·obtain⟨ln,dx,ow,ra,hv,W,q,s,rfl,ho,ws,k1,k2⟩:=h
  refine⟨_,(ah (aW (fW (gf (pv 1) T.aL T.lT (qE T) (hr.mono (by decide)) T.me .nil aJ)) (ak (aF (bf (aa (a8 T.rF) ag)))) aT)
   (ah (aY (pv 0) (pv 1) rfl)
   (ak (aF (pv 2))))),?_⟩
  refine⟨_,rfl,W.w,W.dx,_,rfl,ws.wa.ob,zn (by decide +kernel),hv,W,s,rfl,ws.wa,_,rfl,?_⟩
  refine d2 (fun h=>?_) fun h=>?_
  ·exact⟨by show 1<=sizeLine;decide,fun r hr=>k1 h r hr⟩
  ·refine⟨_,rfl,_,rfl,ln,_,dx,_,rfl,ho,T.bS,T.aU,(by show 1<1000;decide),?_⟩
   rw[zp 0 uS rfl (by show 0<1;decide)]
   exact⟨_,rfl,k2 (by omega)⟩
theorem WS.setT {H H':Hp} {hv:Tab} {W:WL} {q:QL} {s:Ha09.St} {t:Nat} (h:WS P w A K H hv W q s) (c:Ch [W.w] H H') (ho:H' W.w=some (.ins A.aR W.dx (WN.zip [W.fn,.ref W.ps,.ref W.ls,.int (t:Int),.ref W.pr]))):WS P w A K H' hv W q {s with time:=t}:=by
 obtain⟨n1,n2,n3⟩:=h.wa.heads
 have pf:=List.prefix_refl hv
 have pn:=List.prefix_refl (aB s)
 refine⟨⟨ho,?_,h.wa.fd,c.fr _ _ h.wa.ps (by simp[n1.symm]),h.wa.len,fun i l p e1 e2=>?_,?_,h.wa.nd⟩,h.pr.mono c (fun b hb z=>h.dj b hb (by rw[List.mem_singleton.mp z];simp[WL.addrs])),h.po,h.dj,⟨h.gd.nd,h.gd.ch,h.gd.ln⟩⟩
 ·obtain⟨a,vs,e,t,r⟩:=h.wa.fn;exact⟨a,vs,e,t.mono c,Paired.bL r fun _ _ z=>z.mono c⟩
 ·obtain⟨r',q'⟩:=h.wa.at_ i l p e1 e2
  exact⟨r',ji.mono c pf pn (fun b hb=>by simp[(h.wa.own e1 b hb).1]) q'⟩
 ·obtain⟨lv,e,r⟩:=h.wa.ls
  exact⟨lv,c.fr _ _ e (by simp[n2.symm]),Paired.bL r fun _ _ z=>yi.mono c pf pn z⟩
inductive BQ (P:Program) (w:World) (A:Ad) (K:PySem.W.Frag) (vs:List V) (H:Hp) (Q:VK):Prop|mk (ln dx:Addr) (hv:Tab) (W:WL) (q:QL) (s:Ha09.St) (n:Nat):vs=[.ref ln,.int (n:Int)]->yj P w A K H ln dx hv W q s->jj P w A K H ln dx hv W q s (Ha09.step s (.ticks n)).1 (Ha09.step s (.ticks n)).2 Q->BQ P w A K vs H Q
def G7 (P:Program) (w:World) (A:Ad) (K:PySem.W.Frag):Sp:=fun vs H Q _=>BQ P w A K vs H Q
theorem yN (T:Tx w K mg A D):aS P w K mg base eV 1 A.ir D.iG ["self","n"] (G7 P w A K):=by
 refine T.wd.ok rY (fun vs H Q E h=>?_) (fun cdv A' outer s0 H vs Q E hr h=>?_)
 ·obtain⟨ln,dx,hv,W,q,s,n,rfl,_⟩:=h;rfl
 ·obtain⟨ln,dx,hv,W,q,s,n,rfl,l,k⟩:=h
  refine⟨_,(ah (aW (aO (nV (pv 1) (a8 T.vN))) (ak (aF (bf (aa (a8 T.rJ) ag)))) aT)
   (ah (aX (i:=2) rY.nd rfl (Or.inl rfl) (az (pv 0) rfl))
   (ah (u6 (pv 2) (pv 1) CS)
   (ak (aF (bf (aa (az (pv 2) rfl) ag))))))),?_⟩
  refine⟨_,rfl,_,_,rfl,rfl,_,rfl,?_⟩
  refine d2 (fun h=>?_) fun h=>?_
  ·have e:Ha09.step s (.ticks n)=(s,[-1]):=by
    show(if 1000<n then _ else _)=_
    rw[if_pos (by omega)]
   rw[e] at k
   exact⟨by show 1<=sizeLine;decide,fun r hr=>k.one l hr⟩
  ·have e:Ha09.step s (.ticks n)=({s with time:=s.time+n},Ha09.ints [s.time+n]):=by
    show(if 1000<n then _ else _)=_
    rw[if_neg (by omega)]
   rw[e] at k
   refine⟨_,rfl,ln,_,dx,_,_,rfl,l.ob,T.bS,T.aU,zl 0 uS rfl rfl,?_⟩
   have ob:=l.ws.wa.ob
   refine⟨_,rfl,W.w,_,W.dx,_,_,rfl,ob,T.aL,T.dw,zl 3 mr rfl rfl,_,rfl,_,_,rfl,rfl,W.dx,_,ob,(by show 5<1000;decide),?_⟩
   rw[zp 3 mr rfl (by show 3<5;decide)]
   generalize hH1:upd H W.w _=H1
   have c1:Ch [W.w] H H1:=by rw[<-hH1];exact Ch.put ob trivial (by simp)
   have o1:H1 W.w=some (.ins A.aR W.dx (WN.zip [W.fn,.ref W.ps,.ref W.ls,.int ((s.time+n:Nat):Int),.ref W.pr])):=by rw[<-hH1];exact ae
   refine⟨_,rfl,W.w,_,W.dx,_,_,rfl,o1,T.aL,T.dw,zl 3 mr rfl rfl,by show 1<=sizeLine;decide,fun r hr=>?_⟩
   have c2:Ch [] H1 (upd H1 r (.lst [.int ((s.time+n:Nat):Int)])):=Ch.new hr
   have hWw:W.w∈fp W q:=by simp[fp,WL.addrs]
   have c1f:Ch (ln::fp W q) H H1:=c1.mono fun b hb=>by rw[List.mem_singleton.mp hb];exact List.mem_cons_of_mem _ hWw
   have hlw:ln∉[W.w]:=fun z=>l.nl (by rw[List.mem_singleton.mp z];exact hWw)
   have hr0:H r=none:=c1.free hr (fun z=>by rw[List.mem_singleton.mp z,o1] at hr;cases hr)
   exact k _ hv W q r ⟨c2.fr _ _ (c1.fr _ _ l.ob hlw) (by simp),(l.ws.setT c1 o1).news c2,l.nl,l.CC⟩ (by omega) (by show wt s<=_;omega) (c1f.trans (c2.mono (by simp))) (fun b hb=>.inl hb) (fun _=>hr0) ae
inductive B3 (P:Program) (w:World) (A:Ad) (K:PySem.W.Frag) (vs:List V) (H:Hp) (Q:VK):Prop|mk (ln dx:Addr) (hv:Tab) (W:WL) (q:QL) (s:Ha09.St) (f n:Nat):vs=[.ref ln,.int (f:Int),.int (n:Int)]->yj P w A K H ln dx hv W q s->jj P w A K H ln dx hv W q s (Ha09.step s (.begin_ f n)).1 (Ha09.step s (.begin_ f n)).2 Q->B3 P w A K vs H Q
def Hk (P:Program) (w:World) (A:Ad) (K:PySem.W.Frag):Sp:=fun vs H Q _=>B3 P w A K vs H Q
theorem yO (T:Tx w K mg A D):aS P w K mg base eV 4 A.iu D.iH ["self","f","n"] (Hk P w A K):=by
 refine T.we.ok yJ (fun vs H Q E h=>?_) (fun cdv A' outer s0 H vs Q E hr h=>?_)
 ·obtain⟨ln,dx,hv,W,q,s,f,n,rfl,_⟩:=h;rfl
 ·obtain⟨ln,dx,hv,W,q,s,f,n,rfl,l,k⟩:=h
  refine⟨_,(ah (aW (aO (nV (a9 aM rfl T.gc PySem.boot_len (aa (az (az (pv 0) rfl) rfl) ag)) aq)) (ak (aF (bf (aa (a8 T.Gg) ag)))) aT)
   (ah (aW (PW.pt (xr (nq (fW (aG (az (pv 0) rfl) T.aL T.eG (fX T) (hr.mono (by decide)) T.eH .nil aJ (aa (pv 1) ag)))) (sY (aO (nV (pv 2) (kW T.uF rfl T.uB z5)))))) (ak (aF (bf (aa (a8 T.rJ) ag)))) aT)
   (ah (aI (aG (az (pv 0) rfl) T.aL T.oX (qD T) (hr.mono (by decide)) T.pq .nil passN (aa (bR ag) (aa (pv 1) (aa (bR (aa (a8 T.i9) (aa (pv 2) ag))) ag)))))
   (ak (aF (bf (aa aq ag))))))),?_⟩
  have ob:=l.ws.wa.ob
  refine⟨_,rfl,ln,_,dx,_,_,rfl,l.ob,T.bS,T.aU,zl 0 uS rfl rfl,W.w,_,W.dx,_,_,rfl,ob,T.aL,T.bg,zl 1 mr rfl rfl,W.ps,_,rfl,.inl (bM.of l.ws.wa.ps),_,_,rfl,rfl,_,rfl,?_⟩
  rw[List.length_map,l.ws.wa.len]
  refine d2 (fun h=>?_) fun h=>?_
  ·have e:Ha09.step s (.begin_ f n)=(s,[-8]):=by
    show(if s.procs≠[] then _ else _)=_
    rw[if_pos (fun z=>by rw[z] at h;exact absurd h (by decide))]
   rw[e] at k
   exact⟨by show 1<=sizeLine;decide,fun r hr=>k.one l hr⟩
  ·have hp0:s.procs=[]:=by cases hq:s.procs with
    | nil=>rfl
    | cons a b=>rw[hq,List.length_cons] at h;omega
   have pf:=List.prefix_refl hv
   refine⟨_,rfl,ln,_,dx,_,_,rfl,l.ob,T.bS,T.aU,zl 0 uS rfl rfl,W.w,W.dx,_,rfl,ob,zn (by decide +kernel),_,rfl,hv,W,s,f,rfl,l.ws.wa,_,rfl,?_⟩
   cases hpf:s.program[f]? with
   | none =>
    have e:Ha09.step s (.begin_ f n)=(s,[-1]):=by simp[Ha09.step,hp0,hpf]
    rw[e] at k
    refine nT (by have:=List.getElem?_eq_none_iff.mp hpf;omega) ?_
    refine oY ?_
    exact⟨by show 1<=sizeLine;decide,fun r hr=>k.one l hr⟩
   | some b =>
    refine nF (List.getElem?_eq_some_iff.mp hpf).1 ?_
    refine⟨_,rfl,.inr "n",_,rfl,rfl,_,_,rfl,rfl,_,rfl,?_⟩
    refine d2 (fun h1=>?_) fun h1=>?_
    ·have e:Ha09.step s (.begin_ f n)=(s,[-1]):=by
      simp[Ha09.step,hp0,hpf]
      omega
     rw[e] at k
     exact⟨by show 1<=sizeLine;decide,fun r hr=>k.one l hr⟩
    ·have hn:n<=1000000:=by omega
     have e:Ha09.step s (.begin_ f n)=(kr s ⟨[],.eval b [.num n],[],[],0,[],[]⟩,[1]):=by
      simp[Ha09.step,hp0,hpf,kr]
      omega
     rw[e] at k
     dsimp only at k
     refine⟨_,rfl,ln,_,dx,_,_,rfl,l.ob,T.bS,T.aU,zl 0 uS rfl rfl,W.w,W.dx,_,rfl,ob,zn (by decide +kernel),by show 0<=sizeLine;decide,fun t1 ht1=>?_⟩
     generalize hH1:upd H t1 _=H1
     have c1:Ch [] H H1:=by rw[<-hH1];exact Ch.new ht1
     have g1:H1 t1=some (.tup []):=by rw[<-hH1];exact ae
     refine⟨_,rfl,_,rfl,by show 2<=sizeLine;decide,fun t2 ht2=>?_⟩
     generalize hH2:upd H1 t2 _=H2
     have c2:Ch [] H1 H2:=by rw[<-hH2];exact Ch.new ht2
     have g2:H2 t2=some (.tup [.int 0,.int (n:Int)]):=by rw[<-hH2];exact ae
     have g12:=c2.tu _ _ g1
     have c02:=c1.trans c2
     have l2:=l.news c02
     refine⟨hv,W,s,_,_,[],f,b,.num n,rfl,l2.ws.wa,⟨t1,rfl,g12⟩,hpf,VR.num g2 (by unfold AA;omega),by rw[hp0];decide,fun z=>by rw[hp0] at z;exact absurd z (by decide),fun _ H3 pl wa3 c3 fr3=>?_⟩
     refine⟨by show 1<=sizeLine;decide,fun r hr=>?_⟩
     have c4:Ch [] H3 (upd H3 r (.lst [.int 1])):=Ch.new hr
     have g4:(upd H3 r (.lst [.int 1])) r=some (.lst (tl [1])):=ae
     generalize upd H3 r _=H4 at c4 g4 ⊢
     have inps:W.ps∈fp W q:=by simp[fp,WL.addrs]
     have nps:∀b∈q.addrs,b∉[W.ps]:=fun b hb z=>l.ws.dj b hb (by rw[List.mem_singleton.mp z];simp[WL.addrs])
     have sub:∀b∈({W with pl:=W.pl++[pl]}:WL).addrs,b∈W.addrs\/b∈pl.addrs:=fun b hb=>by
      have hb':b∈W.w::W.ps::W.ls::(W.pl++[pl]).flatMap PL.addrs:=hb
      unfold WL.addrs
      simp only[List.mem_cons,List.flatMap_append,List.mem_append] at hb' ⊢
      rcases hb' with z|z|z|z|z
      ·exact .inl (.inl z)
      ·exact .inl (.inr (.inl z))
      ·exact .inl (.inr (.inr (.inl z)))
      ·exact .inl (.inr (.inr (.inr z)))
      ·exact .inr (by simpa using z)
     have fr0:∀b∈pl.addrs,H b=none:=fun b hb=>c02.free (fr3 b hb) (by simp)
     have hln0:ln∉pl.addrs:=fun z=>by have:=fr0 _ z;rw[l.ob] at this;cases this
     have ob3:=c3.fr _ _ l2.ob (fun z=>l.nl (by rw[List.mem_singleton.mp z];exact inps))
     have hrH:H r=none:=c02.free (c3.free hr (fun z=>by rw[List.mem_singleton.mp z,wa3.ps] at hr;cases hr)) (by simp)
     have cAll:Ch (ln::fp W q) H H4:=((c02.mono (by simp)).trans (c3.mono fun b hb=>by rw[List.mem_singleton.mp hb];exact List.mem_cons_of_mem _ inps)).trans (c4.mono (by simp))
     have ws3:WS P w A K H3 hv {W with pl:=W.pl++[pl]} q (kr s ⟨[],.eval b [.num n],[],[],0,[],[]⟩):=by
      refine⟨wa3,l2.ws.pr.mono c3 nps,l.ws.po,fun b hb z=>?_,?_⟩
      ·rcases sub b z with z|z
       ·exact l.ws.dj b hb z
       ·obtain⟨o,ho⟩:=l.ws.pr.there b hb
        rw[fr0 b z] at ho;cases ho
      ·unfold kr
       rw[hp0]
       refine⟨by simp[Bp.bz],fun q hq r i e=>?_,fun q hq=>?_⟩
       ·simp at hq;subst hq;simp at e
       ·simp at hq;subst hq;simp
     refine k H4 hv {W with pl:=W.pl++[pl]} q r ⟨c4.fr _ _ ob3 (by simp),ws3.news c4,fun z=>?_,by unfold kr;rw[hp0];show 1<=20;omega⟩ (by omega) ?_ cAll (fun b hb=>?_) (fun _=>hrH) g4
     ·rcases List.mem_append.mp z with z|z
      ·rcases sub _ z with z|z
       ·exact l.nl (List.mem_append.mpr (.inl z))
       ·exact hln0 z
      ·exact l.nl (List.mem_append.mpr (.inr z))
     ·unfold wt kr;rw[hp0];simp[oA,iK]
     ·rcases List.mem_append.mp hb with z|z
      ·rcases sub _ z with z|z
       ·exact .inl (List.mem_append.mpr (.inl z))
       ·exact .inr (fr0 b z)
      ·exact .inl (List.mem_append.mpr (.inr z))
def Ca (P:Program) (w:World) (A:Ad) (K:PySem.W.Frag) (H:Hp) (ln dx:Addr) (hv:Tab) (W:WL) (q:QL) (s:Ha09.St) (G:Prop):XK:=fun c _ H'=>c=.ref A.bK/\G/\∃hv',yj P w A K H' ln dx hv' W q s/\hv<+:hv'/\hv'.length<=hv.length+wt s+12000/\Ch q.addrs H H'
theorem IG {H H1:Hp} {ln dx:Addr} {hv:Tab} {W W1:WL} {q:QL} {s:Ha09.St} {n:Nat} {G:Prop} (l:yj P w A K H ln dx hv W q s) (c:Ch [] H H1) (fr:∀b∈W1.addrs,H b=none) (hn:n<=12000) (g:G):GX P w A H1 hv W1 q s n (Ca P w A K H ln dx hv W q s G):=by
 intro H' hv' pr pf le c'
 have cc:Ch q.addrs H H':=(c.mono (by simp)).trans' c' (fun b hb=>by
  rcases List.mem_append.mp hb with z|z
  ·exact .inr (fr b z)
  ·exact .inl z)
 refine⟨rfl,g,hv',⟨cc.fr _ _ l.ob (fun z=>l.nl (List.mem_append.mpr (.inr z))),⟨l.ws.wa.mono cc pf (fun b hb z=>l.ws.dj b z hb),pr,l.ws.po,l.ws.dj,l.ws.gd⟩,l.nl,l.CC⟩,pf,by omega,cc⟩
inductive GN (P:Program) (w:World) (A:Ad) (K:PySem.W.Frag) (vs:List V) (H:Hp) (Q:VK):Prop|mk (ln dx:Addr) (hv:Tab) (W:WL) (q:QL) (s:Ha09.St) (i n:Nat):vs=[.ref ln,.int (i:Int),.int (n:Int)]->yj P w A K H ln dx hv W q s->hv.length+wt s+12000<=15000000->jj P w A K H ln dx hv W q s (Ha09.step s (.run i n)).1 (Ha09.step s (.run i n)).2 Q->GN P w A K vs H Q
def spRun (P:Program) (w:World) (A:Ad) (K:PySem.W.Frag):Sp:=fun vs H Q _=>GN P w A K vs H Q
theorem kept {H H1 H2:Hp} {ln dx:Addr} {hv hv2:Tab} {W W1 W2:WL} {q:QL} {s s2:Ha09.St} {Q:VK} {Aw:List Int} {n:Nat} (l:yj P w A K H ln dx hv W q s) (c1:Ch [] H H1) (fr1:∀b∈W1.addrs,H b=none) (ws2:WS P w A K H2 hv2 W2 q s2) (pf:hv<+:hv2) (le:hv2.length+wt s2<=hv.length+wt s+n) (hn:n<=12000)
  (c2:Ch (fp W1 q) H1 H2) (e2:Ext W1 W2 H1) (h20:s2.procs.length<=20) {ra:Addr} (hra:H2 ra=none) {H3:Hp} (hH3:upd H2 ra (.lst (tl Aw))=H3)
  (kN:200<s2.air.length->jj P w A K H ln dx hv W q s s [-6] Q) (kY:s2.air.length<=200->jj P w A K H ln dx hv W q s s2 Aw Q) :
  Fv P w A K [.ref ln,.ref W1.w,.ref ra] H3 Q E0:=by
 have c3:Ch [] H2 H3:=by rw[<-hH3];exact Ch.new hra
 have g3:H3 ra=some (.lst (tl Aw)):=by rw[<-hH3];exact ae
 have hpl:=pf.length_le
 have cq:Ch q.addrs H H2:=(c1.mono (by simp)).trans' c2 (fun b hb=>by
  rcases List.mem_append.mp hb with z|z
  ·exact .inr (fr1 b z)
  ·exact .inl z)
 have fr2:∀b∈W2.addrs,H b=none:=fun b hb=>by
  rcases e2.fr b hb with z|z
  ·exact fr1 b z
  ·exact c1.free z (by simp)
 have cq3:Ch q.addrs H H3:=cq.trans (c3.mono (by simp))
 have ob3:=cq3.fr _ _ l.ob (fun z=>l.nl (List.mem_append.mpr (.inr z)))
 have lW2:ln∉fp W2 q:=fun z=>by
  rcases List.mem_append.mp z with z|z
  ·have:=fr2 _ z;rw[l.ob] at this;cases this
  ·exact l.nl (List.mem_append.mpr (.inr z))
 have subq:∀b∈q.addrs,b∈ln::fp W q:=fun b hb=>List.mem_cons_of_mem _ (List.mem_append.mpr (.inr hb))
 have raH:H ra=none:=cq.free hra (fun z=>by obtain⟨o,ho⟩:=ws2.pr.there ra z;rw[hra] at ho;cases ho)
 refine⟨ln,dx,W.w,ra,hv2,W2,q,s2,by rw[e2.w],ob3,ws2.news c3,fun h r hr=>?_,fun h=>?_⟩
 ·have c4:Ch [] H3 (upd H3 r (.lst [.int (-6)])):=Ch.new hr
  have ls:yj P w A K H3 ln dx hv2 W q s:=⟨ob3,⟨l.ws.wa.mono cq3 pf (fun b hb z=>l.ws.dj b z hb),ws2.pr.mono c3 (by simp),l.ws.po,l.ws.dj,l.ws.gd⟩,l.nl,l.CC⟩
  have rH:H r=none:=cq3.free hr (fun z=>by obtain⟨o,ho⟩:=ls.ws.pr.there r z;rw[hr] at ho;cases ho)
  exact kN h _ hv2 W q r (ls.news c4) (by omega) (by omega) ((cq3.mono subq).trans (c4.mono (by simp))) (fun b hb=>.inl hb) (fun _=>rH) ae
 ·have c4:Ch [ln] H3 (upd H3 ln (.ins A.cLine dx (LN.zip [.ref W2.w]))):=Ch.put ob3 trivial (by simp)
  have g4:(upd H3 ln (.ins A.cLine dx (LN.zip [.ref W2.w]))) ln=some (.ins A.cLine dx (LN.zip [.ref W2.w])):=ae
  generalize upd H3 ln _=H4 at c4 g4 ⊢
  have nra:ra∉[ln]:=fun z=>by rw[List.mem_singleton.mp z,l.ob] at raH;cases raH
  exact kY h H4 hv2 W2 q ra ⟨g4,(ws2.news c3).free c4 (fun b hb=>by rw[List.mem_singleton.mp hb];exact lW2),lW2,h20⟩ (by omega) (by omega) ((cq3.mono subq).trans (c4.mono (by simp))) (fun b hb=>by
   rcases List.mem_append.mp hb with z|z
   ·exact .inr (fr2 b z)
   ·exact .inl (List.mem_append.mpr (.inr z))) (fun _=>raH) (c4.fr _ _ g3 nra)
theorem Ca.kept {H H2:Hp} {ln dx r:Addr} {hv:Tab} {W:WL} {q:QL} {s:Ha09.St} {G:Prop} {c:Value} {Q:VK} (h:Ca P w A K H ln dx hv W q s G c none H2) (k:G->jj P w A K H ln dx hv W q s s [-6] Q) (hr:H2 r=none):Q (.ref r) (upd H2 r (.lst [.int (-6)])):=by
 obtain⟨_,g,hv2,l2,pf2,le2,c2⟩:=h
 have c4:Ch [] H2 (upd H2 r (.lst [.int (-6)])):=Ch.new hr
 have rH:H r=none:=c2.free hr (fun z=>by obtain⟨o,ho⟩:=l2.ws.pr.there r z;rw[hr] at ho;cases ho)
 exact k g _ hv2 W q r (l2.news c4) le2 (by omega) ((c2.mono fun b hb=>List.mem_cons_of_mem _ (List.mem_append.mpr (.inr hb))).trans (c4.mono (by simp))) (fun b hb=>.inl hb) (fun _=>rH) ae
theorem qG (T:Tx w K mg A D) (hB:K.In base):aS P w K mg base eV 9 A.lx D.lI ["self","i","n"] (spRun P w A K):=by
 refine T.zL.ok qt (fun vs H Q E h=>?_) (fun cdv A' outer s0 H vs Q E hr h=>?_)
 ·obtain⟨ln,dx,hv,W,q,s,i,n,rfl,_⟩:=h;rfl
 ·obtain⟨ln,dx,hv,W,q,s,i,n,rfl,l,hb,k⟩:=h
  have EE0:∃EE:XK,EE=Ca P w A K H ln dx hv W q s (Ha09.step s (.run i n)=(s,[-6])):=⟨_,rfl⟩
  obtain⟨EE,hEE⟩:=EE0
  refine⟨_,(ah (aW (aO (nV (pv 2) (a8 T.vO))) (ak (aF (bf (aa (a8 T.rJ) ag)))) aT)
   (ah (aW (nq (fW (aG (az (pv 0) rfl) T.aL T.bZ (b5 T) (hr.mono (by decide)) T.b4 .nil aJ (aa (pv 1) ag)))) (ak (aF (bf (aa (a8 T.hU) ag)))) aT)
   (ah (aX (i:=3) qt.nd rfl (Or.inl rfl) (gf (az (pv 0) rfl) T.aL T.qJ (r8 T) (hr.mono (by decide)) T.qT .nil aJ))
   (ah (Cv (E:=EE) T.fY rfl rfl rfl rfl (T.iL _ hB) (fun pn xe hpx=>(ak (aX (i:=4) qt.nd rfl (Or.inl rfl) (aV (rZ (P:=P) (base:=base) T) (hr.mono (by decide)) rfl T.qN T.ng.kp T.qS .nil hpx (aa (pv 3) (aa (aG (pv 3) T.aL T.b9 (cp (P:=P) (base:=base) T) (hr.mono (by decide)) T.cb .nil aJ (aa (pv 1) ag)) (aa (pv 2) ag))))))) (fun e=>(ak (aF (bf (aa (a8 T.rF) ag))))))
   (ak (aF (aG (pv 0) T.bS T.tE (ur T) (hr.mono (by decide)) T.tN .nil aJ (aa (pv 3) (aa (bf (aa (pv 4) ag)) ag))))))))),?_⟩
  refine⟨_,rfl,_,_,rfl,rfl,_,rfl,?_⟩
  refine d2 (fun h=>?_) fun h=>?_
  ·have e:Ha09.step s (.run i n)=(s,[-1]):=by
    show(if 300<n then _ else _)=_
    rw[if_pos (by omega)]
   rw[e] at k
   exact⟨by show 1<=sizeLine;decide,fun r hr=>k.one l hr⟩
  have hn:n<=300:=by omega
  refine⟨_,rfl,ln,_,dx,_,_,rfl,l.ob,T.bS,T.aU,zl 0 uS rfl rfl,W.w,W.dx,_,rfl,l.ws.wa.ob,zn (by decide +kernel),_,rfl,hv,W,s,i,rfl,l.ws.wa,_,rfl,?_⟩
  refine n2 (fun h1=>?_) fun h1=>?_
  ·have e:Ha09.step s (.run i n)=(s,[-3]):=by
    show(if 300<n then _ else Ha09.withProc s i _)=_
    rw[if_neg (by omega)]
    unfold Ha09.withProc Ha09.nth
    by_cases z:i=0
    ·rw[if_pos z]
    ·rw[if_neg z,List.getElem?_eq_none_iff.mpr (by omega)]
   rw[e] at k
   exact⟨by show 1<=sizeLine;decide,fun r hr=>k.one l hr⟩
  obtain⟨h0,h2⟩:=h1
  obtain⟨j,rfl⟩:∃j,i=j+1:=⟨i-1,by omega⟩
  have hj:j<s.procs.length:=by omega
  obtain⟨p,hp⟩:∃p,s.procs[j]?=some p:=⟨_,List.getElem?_eq_getElem hj⟩
  have e:Ha09.step s (.run (j+1) n)=if Ha09.tooMany (Ha09.runs n s p.name).1=true then (s,[-6]) else ((Ha09.runs n s p.name).1,Ha09.ints [(Ha09.runs n s p.name).2]):=by
   show(if 300<n then _ else Ha09.withProc s (j+1) _)=_
   rw[if_neg (by omega)]
   unfold Ha09.withProc Ha09.nth
   rw[if_neg (by omega),Nat.add_sub_cancel,hp]
  have k0:=k
  rw[e] at k
  refine⟨_,rfl,ln,_,dx,_,_,rfl,l.ob,T.bS,T.aU,zl 0 uS rfl rfl,W.w,W.dx,_,rfl,l.ws.wa.ob,zn (by decide +kernel),hv,W,q,s,rfl,l.ws,l.CC,fun H1 W1 ws1 c1 fr1=>?_⟩
  have hjw:j<W1.pl.length:=by rw[ws1.wa.len];exact hj
  obtain⟨l1,hl1⟩:∃l1,W1.pl[j]?=some l1:=⟨_,List.getElem?_eq_getElem hjw⟩
  refine⟨?_,?_⟩
  ·refine⟨_,rfl,_,rfl,W1.w,W1.dx,_,rfl,ws1.wa.ob,zn (by decide +kernel),_,rfl,hv,W1,s,j,l1,rfl,ws1.wa,hl1,_,rfl,hv,W1,q,s,j,l1,p,n,rfl,ws1,⟨hl1,hp⟩,by omega,l.CC,?_,?_⟩
   ·intro hle H2 hv2 W2 ws2 pf2 le2 c2 e2
    have ob2:H2 ln=some (.ins A.cLine dx (LN.zip [.ref W.w])):=by
     refine c2.fr _ _ (c1.fr _ _ l.ob (by simp)) (fun z=>?_)
     rcases List.mem_append.mp z with z|z
     ·have:=fr1 _ z;rw[l.ob] at this;cases this
     ·exact l.nl (List.mem_append.mpr (.inr z))
    refine⟨_,rfl,ln,dx,_,rfl,ob2,zn (by decide +kernel),_,rfl,_,rfl,by show 1<=sizeLine;decide,fun ra hra=>?_⟩
    generalize hH3:upd H2 ra _=H3
    refine kept l c1 fr1 ws2 pf2 le2 (by omega) c2 e2 hle hra (Aw:=Ha09.ints [(Ha09.runs n s p.name).2]) hH3 (fun h=>?_) (fun h=>?_)
    ·have:Ha09.tooMany (Ha09.runs n s p.name).1=true:=by unfold Ha09.tooMany;simp[h]
     rw[if_pos this] at k;exact k
    ·have:¬Ha09.tooMany (Ha09.runs n s p.name).1=true:=by
      unfold Ha09.tooMany Ha09.PROCS
      simp;omega
     rw[if_neg this] at k;exact k
   ·intro hgt
    rw[hEE]
    refine IG l c1 fr1 (by omega) ?_
    have:Ha09.tooMany (Ha09.runs n s p.name).1=true:=by unfold Ha09.tooMany Ha09.PROCS;simp[hgt]
    rw[e,if_pos this]
  ·intro c H2 σ' hE
   rw[hEE] at hE
   refine⟨hE.1,fun _=>⟨by show 1<=sizeLine;decide,fun r hr=>?_⟩⟩
   exact hE.kept (fun g=>by rw[g] at k0;exact k0) hr
inductive BM (P:Program) (w:World) (A:Ad) (K:PySem.W.Frag) (vs:List V) (H:Hp) (Q:VK):Prop|mk (ln dx:Addr) (hv:Tab) (W:WL) (q:QL) (s:Ha09.St) (n:Nat):vs=[.ref ln,.int (n:Int)]->yj P w A K H ln dx hv W q s->hv.length+wt s+12000<=15000000->jj P w A K H ln dx hv W q s (Ha09.step s (.turns n)).1 (Ha09.step s (.turns n)).2 Q->BM P w A K vs H Q
def G4 (P:Program) (w:World) (A:Ad) (K:PySem.W.Frag):Sp:=fun vs H Q _=>BM P w A K vs H Q
theorem nz (T:Tx w K mg A D) (hB:K.In base):aS P w K mg base eV 11 A.iq D.iF ["self","n"] (G4 P w A K):=by
 refine T.wc.ok rX (fun vs H Q E h=>?_) (fun cdv A' outer s0 H vs Q E hr h=>?_)
 ·obtain⟨ln,dx,hv,W,q,s,n,rfl,_⟩:=h;rfl
 ·obtain⟨ln,dx,hv,W,q,s,n,rfl,l,hb,k⟩:=h
  have EE0:∃EE:XK,EE=Ca P w A K H ln dx hv W q s (Ha09.step s (.turns n)=(s,[-6])):=⟨_,rfl⟩
  obtain⟨EE,hEE⟩:=EE0
  refine⟨_,(ah (aW (aO (nV (pv 1) (a8 T.uz))) (ak (aF (bf (aa (a8 T.rJ) ag)))) aT)
   (ah (aX (i:=2) rX.nd rfl (Or.inl rfl) (gf (az (pv 0) rfl) T.aL T.qJ (r8 T) (hr.mono (by decide)) T.qT .nil aJ))
   (ah (Cv (E:=EE) T.fY rfl rfl rfl rfl (T.iL _ hB) (fun pn xe hpx=>(ak (aI (aV (Ab (P:=P) (base:=base) T) (hr.mono (by decide)) rfl T.xT T.tQ.kp T.yd .nil hpx (aa (pv 2) (aa (pv 1) ag)))))) (fun e=>(ak (aF (bf (aa (a8 T.rF) ag))))))
   (ak (aF (aG (pv 0) T.bS T.tE (ur T) (hr.mono (by decide)) T.tN .nil aJ (aa (pv 2) (aa (bf (aa (a9 aM rfl T.gc PySem.boot_len (aa (az (pv 2) rfl) ag)) (aa (a9 aM rfl T.gc PySem.boot_len (aa (az (pv 2) rfl) ag)) ag))) ag)))))))),?_⟩
  refine⟨_,rfl,_,_,rfl,rfl,_,rfl,?_⟩
  refine d2 (fun h=>?_) fun h=>?_
  ·have e:Ha09.step s (.turns n)=(s,[-1]):=by
    show(if 30<n then _ else _)=_
    rw[if_pos (by omega)]
   rw[e] at k
   exact⟨by show 1<=sizeLine;decide,fun r hr=>k.one l hr⟩
  have hn:n<=30:=by omega
  have e:Ha09.step s (.turns n)=if Ha09.tooMany (Ha09.rounds n s)=true then (s,[-6]) else (Ha09.rounds n s,Ha09.ints [(Ha09.rounds n s).procs.length,(Ha09.rounds n s).air.length]):=by
   show(if 30<n then _ else _)=_
   rw[if_neg (by omega)]
  have k0:=k
  rw[e] at k
  refine⟨_,rfl,ln,_,dx,_,_,rfl,l.ob,T.bS,T.aU,zl 0 uS rfl rfl,W.w,W.dx,_,rfl,l.ws.wa.ob,zn (by decide +kernel),hv,W,q,s,rfl,l.ws,l.CC,fun H1 W1 ws1 c1 fr1=>?_⟩
  refine⟨?_,?_⟩
  ·refine⟨_,rfl,_,rfl,hv,W1,q,s,n,rfl,ws1,hn,by omega,l.CC,?_,?_⟩
   ·intro hle H2 hv2 W2 ws2 pf2 le2 c2 e2
    have ob2:H2 ln=some (.ins A.cLine dx (LN.zip [.ref W.w])):=by
     refine c2.fr _ _ (c1.fr _ _ l.ob (by simp)) (fun z=>?_)
     rcases List.mem_append.mp z with z|z
     ·have:=fr1 _ z;rw[l.ob] at this;cases this
     ·exact l.nl (List.mem_append.mpr (.inr z))
    obtain⟨lv,hls,hlt⟩:=ws2.wa.ls
    have obw:=ws2.wa.ob
    rw[e2.w] at obw
    refine⟨_,rfl,ln,dx,_,rfl,ob2,zn (by decide +kernel),_,rfl,_,rfl,W1.w,_,W2.dx,_,_,rfl,obw,T.aL,T.bg,zl 1 mr rfl rfl,W2.ps,_,rfl,.inl (bM.of ws2.wa.ps),_,rfl,W1.w,_,W2.dx,_,_,rfl,obw,T.aL,T.br,zl 2 mr rfl rfl,W2.ls,_,rfl,.inl (bM.of hls),by show 2<=sizeLine;decide,fun ra hra=>?_⟩
    rw[List.length_map,ws2.wa.len,Paired.length hlt]
    generalize hH3:upd H2 ra _=H3
    refine kept l c1 fr1 ws2 pf2 le2 (by omega) c2 e2 hle hra (Aw:=Ha09.ints [(Ha09.rounds n s).procs.length,(Ha09.rounds n s).air.length]) hH3 (fun h=>?_) (fun h=>?_)
    ·have:Ha09.tooMany (Ha09.rounds n s)=true:=by unfold Ha09.tooMany;simp[h]
     rw[if_pos this] at k;exact k
    ·have:¬Ha09.tooMany (Ha09.rounds n s)=true:=by
      unfold Ha09.tooMany Ha09.PROCS
      simp;omega
     rw[if_neg this] at k;exact k
   ·intro hgt
    rw[hEE]
    refine IG l c1 fr1 (by omega) ?_
    have:Ha09.tooMany (Ha09.rounds n s)=true:=by unfold Ha09.tooMany Ha09.PROCS;simp[hgt]
    rw[e,if_pos this]
  ·intro c H2 σ' hE
   rw[hEE] at hE
   refine⟨hE.1,fun _=>⟨by show 1<=sizeLine;decide,fun r hr=>?_⟩⟩
   exact hE.kept (fun g=>by rw[g] at k0;exact k0) hr
def qb:Option Val->List Int
 | some v=>1::Ha09.told v
 | none=>[0]
theorem fV (l:List Int):(tl l).length=l.length:=by unfold tl;simp
theorem uV (a b:List Int):tl a++tl b=tl (a++b):=by unfold tl;simp
theorem DM {α:Type} {f:α->List Int} {xs:List α} {j:Nat} {x:α} (h:xs[j]?=some x):(xs.take (j+1)).flatMap f=(xs.take j).flatMap f++f x/\((xs.take j).flatMap f).length+(f x).length<=(xs.flatMap f).length:=by
 have e1:xs.take (j+1)=xs.take j++[x]:=by rw[List.take_succ,h];rfl
 have e2:(xs.take (j+1)).flatMap f=(xs.take j).flatMap f++f x:=by rw[e1,List.flatMap_append];simp
 refine⟨e2,?_⟩
 have e3:xs.flatMap f=(xs.take (j+1)).flatMap f++(xs.drop (j+1)).flatMap f:=by rw[<-List.flatMap_append,List.take_append_drop]
 rw[e3,e2]
 simp
inductive BN (P:Program) (w:World) (A:Ad) (K:PySem.W.Frag) (vs:List V) (H:Hp) (Q:VK):Prop|mk (hv:Tab) (W:WL) (q:QL) (s:Ha09.St) (v:V) (x:Option Val):vs=[.ref W.w,v]->WS P w A K H hv W q s->wH H hv (aB s) v x->s.procs.length<=20->(qb x).length<=10000000->(∀H' r,Ch [] H H'->H' r=some (.lst (tl (qb x)))->H r=none->Q (.ref r) H')->BN P w A K vs H Q
def G5 (P:Program) (w:World) (A:Ad) (K:PySem.W.Frag):Sp:=fun vs H Q _=>BN P w A K vs H Q
theorem uj (T:Tx w K mg A D):aS P w K mg base eV 4 A.jn D.jy ["world","word"] (G5 P w A K):=by
 refine T.pz.ok zT (fun vs H Q E h=>?_) (fun cdv A' outer s0 H vs Q E hr h=>?_)
 ·obtain⟨hv,W,q,s,v,x,rfl,_⟩:=h;rfl
 ·obtain⟨hv,W,q,s,v,x,rfl,ws,hx,h20,hl,k⟩:=h
  refine⟨_,(ah (aW (aO (sZ (pv 1))) (ak (aF (bf (aa aq ag)))) aT)
   (ak (aF (eT z9 (bf (aa aq ag)) (aV (wO T) (hr.mono (by decide)) rfl T.Bx T.zK.kp T.BC .nil aJ (aa (pv 0) (aa (pv 1) ag))))))),?_⟩
  refine⟨_,rfl,_,rfl,?_⟩
  cases x with
  | none =>
   cases (show v=.bo from hx)
   refine dT rfl ?_
   exact⟨by show 1<=sizeLine;decide,fun r hr=>k _ r (Ch.new hr) ae hr⟩
  | some y =>
   have hx':VR H hv (aB s) v y:=hx
   refine dF (fun z=>by rw[z] at hx';obtain⟨m,⟨a,e,_⟩,_⟩:=hx';cases e) ?_
   refine⟨by show 1<=sizeLine;decide,fun a1 ha1=>?_⟩
   generalize hH4:upd H a1 _=H4
   have c4:Ch [] H H4:=by rw[<-hH4];exact Ch.new ha1
   have g4:H4 a1=some (.lst [.int 1]):=by rw[<-hH4];exact ae
   have hl':(Ha09.told y).length+1<=10000000:=hl
   refine⟨_,rfl,_,rfl,hv,W,q,s,v,y,rfl,ws.news c4,hx'.mono c4 (List.prefix_refl _) (List.prefix_refl _),h20,by omega,fun H5 r c5 hr5 hr0=>?_⟩
   have g5:=c5.fr _ _ g4 (by simp)
   refine⟨a1,r,_,_,rfl,rfl,g5,hr5,?_,fun a3 ha3=>?_⟩
   ·rw[fV,sizeLine_eq];show 1+_<=_;omega
   ·exact k _ a3 ((c4.trans c5).trans (Ch.new ha3)) ae ((c4.trans c5).free ha3 (by simp))
inductive zF (P:Program) (w:World) (A:Ad) (K:PySem.W.Frag) (vs:List V) (H:Hp) (Q:VK):Prop|mk (hv:Tab) (W:WL) (q:QL) (s:Ha09.St) (ba:Addr) (bv:List V) (xs:List Val):vs=[.ref W.w,.ref ba]->WS P w A K H hv W q s->H ba=some (.lst bv)->Paired (VR H hv (aB s)) bv xs->s.procs.length<=20->(xs.flatMap Ha09.told).length+1<=10000000->(∀H' r,Ch [] H H'->H' r=some (.lst (tl ((xs.length:Int)::xs.flatMap Ha09.told)))->H r=none->Q (.ref r) H')->zF P w A K vs H Q
def Fq (P:Program) (w:World) (A:Ad) (K:PySem.W.Frag):Sp:=fun vs H Q _=>zF P w A K vs H Q
theorem qB (T:Tx w K mg A D):aS P w K mg base eV 4 A.gy D.gI ["world","row"] (Fq P w A K):=by
 refine T.k9.ok lJ (fun vs H Q E h=>?_) (fun cdv A' outer s0 H vs Q E hr h=>?_)
 ·obtain⟨hv,W,q,s,ba,bv,xs,rfl,_⟩:=h;rfl
 ·obtain⟨hv,W,q,s,ba,bv,xs,rfl,ws,hba,hp,h20,hl,k⟩:=h
  refine⟨_,(ah (aX (i:=2) lJ.nd rfl (Or.inl rfl) (bf (aa (a9 aM rfl T.gc PySem.boot_len (aa (pv 1) ag)) ag)))
   (ah (lL PassesOwn.never rfl (rB (pv 1)) (gv (i:=3) lJ.nd rfl (Or.inl rfl)) (ak (aI (dO PySem.F.plainAttrs_list PySem.F.slot_list_extend PySem.F.type_list_extend hR (pv 2) (aa (aV (wO T) (hr.mono (by decide)) rfl T.Bx T.zK.kp T.BC .nil aJ (aa (pv 0) (aa (pv 3) ag))) ag)))))
   (ak (aF (pv 2))))),?_⟩
  refine⟨_,rfl,ba,_,rfl,.inl (bM.of hba),by show 1<=sizeLine;decide,fun nl hnl=>?_⟩
  generalize hH1:upd H nl _=H1
  have c1:Ch [] H H1:=by rw[<-hH1];exact Ch.new hnl
  have g1:H1 nl=some (.lst (tl [(xs.length:Int)])):=by rw[<-hH1,ae,Paired.length hp];rfl
  have hba1:=c1.fr _ _ hba (by simp)
  have nb:ba∉[nl]:=fun z=>by rw[List.mem_singleton.mp z,hnl] at hba;cases hba
  have hx:∀b∈[nl],b∉fp W q:=fun b hb=>by rw[List.mem_singleton.mp hb];exact ws.fresh hnl
  refine⟨_,rfl,ba,rfl,⟨_,bM.of hba1⟩,qO (K:=K) (a:=ba) (xs:=bv) (fun j σ Hj=>∃o,σ=[some (.ref W.w),some (.ref ba),some (.ref nl),o]/\Hj nl=some (.lst (tl ((xs.length:Int)::(xs.take j).flatMap Ha09.told)))/\Ch [nl] H1 Hj)
   ⟨none,rfl,g1,Ch.refl _ _⟩ (fun j σ Hj _ ⟨_,_,_,cj⟩=>bM.of (cj.fr _ _ hba1 nb)) ?_ ?_⟩
  ·rintro j y σ Hj hj ⟨o,rfl,hn,cj⟩
   obtain⟨x,hx1,hyx⟩:=A1 hp hj
   obtain⟨e1,e2⟩:=DM (f:=Ha09.told) hx1
   have c0j:Ch [nl] H Hj:=(c1.mono (by simp)).trans cj
   refine⟨_,rfl,.inl ⟨rfl,_,bM.of hn⟩,_,rfl,_,rfl,hv,W,q,s,y,x,rfl,ws.free c0j hx,hyx.mono c0j (List.prefix_refl _) (List.prefix_refl _),h20,by omega,fun H5 tr c5 htr ht0=>?_⟩
   have n5:=c5.fr _ _ hn (by simp)
   refine⟨nl,tr,_,_,rfl,rfl,n5,htr,?_,?_⟩
   ·rw[fV,fV,sizeLine_eq,List.length_cons];omega
   ·refine⟨_,rfl,?_,(cj.trans (c5.mono (by simp))).trans (Ch.put n5 trivial (by simp))⟩
    rw[ae,uV,e1];rfl
  ·rintro σ H2 ⟨o,rfl,hn,cj⟩
   rw[Paired.length hp,List.take_length] at hn
   refine⟨_,rfl,?_⟩
   exact k H2 nl (c1.trans' cj (fun b hb=>by rw[List.mem_singleton.mp hb];exact .inr hnl)) hn hnl
def i8 (l:Letter):List Int:=Ha09.nameTold l.from_++Ha09.nameTold l.to_++qb l.what
theorem GL (ls:List Letter):(ls.flatMap fun l=>Ha09.nameTold l.from_++Ha09.nameTold l.to_++match l.what with
  | some v=>1::Ha09.told v
  | none=>[0])=ls.flatMap i8:=by
 congr 1
inductive zG (P:Program) (w:World) (A:Ad) (K:PySem.W.Frag) (vs:List V) (H:Hp) (Q:VK):Prop|mk (hv:Tab) (W:WL) (q:QL) (s:Ha09.St):vs=[.ref W.w]->WS P w A K H hv W q s->s.procs.length<=20->(s.air.flatMap i8).length+1<=10000000->(∀H' r,Ch [] H H'->H' r=some (.lst (tl ((s.air.length:Int)::s.air.flatMap i8)))->H r=none->Q (.ref r) H')->zG P w A K vs H Q
def Fs (P:Program) (w:World) (A:Ad) (K:PySem.W.Frag):Sp:=fun vs H Q _=>zG P w A K vs H Q
theorem Iw {s:Ha09.St} {i:Nat} {n:List Nat} (h:(aB s)[i]?=some n):∃p,s.procs[i]?=some p/\p.name=n:=by
 unfold aB at h
 rw[List.getElem?_map] at h
 exact Option.map_eq_some_iff.mp h
theorem wy (T:Tx w K mg A D):aS P w K mg base eV 5 A.ft D.fG ["world"] (Fs P w A K):=by
 refine T.nM.ok kb (fun vs H Q E h=>?_) (fun cdv A' outer s0 H vs Q E hr h=>?_)
 ·obtain⟨hv,W,q,s,rfl,_⟩:=h;rfl
 ·obtain⟨hv,W,q,s,rfl,ws,h20,hl,k⟩:=h
  refine⟨_,(ah (aX (i:=1) kb.nd rfl (Or.inl rfl) (bf (aa (a9 aM rfl T.gc PySem.boot_len (aa (az (pv 0) rfl) ag)) ag)))
   (ah (lL PassesOwn.never rfl (rB (az (pv 0) rfl)) (gv (i:=2) kb.nd rfl (Or.inl rfl)) (ah (aI (dO PySem.F.plainAttrs_list PySem.F.slot_list_extend PySem.F.type_list_extend hR (pv 1) (aa (aV (kX T) (hr.mono (by decide)) rfl T.lX T.jL.kp T.l8 .nil aJ (aa (pv 0) (aa (aK aH (pv 2) aq (fun _ _=>rfl)) ag))) ag)))
   (ah (aI (dO PySem.F.plainAttrs_list PySem.F.slot_list_extend PySem.F.type_list_extend hR (pv 1) (aa (aV (kX T) (hr.mono (by decide)) rfl T.lX T.jL.kp T.l8 .nil aJ (aa (pv 0) (aa (aK aH (pv 2) aq (fun _ _=>rfl)) ag))) ag)))
   (ak (aI (dO PySem.F.plainAttrs_list PySem.F.slot_list_extend PySem.F.type_list_extend hR (pv 1) (aa (aV (uj T) (hr.mono (by decide)) rfl T.tG T.pz.kp T.tK .nil aJ (aa (pv 0) (aa (aK aH (pv 2) aq (fun _ _=>rfl)) ag))) ag)))))))
   (ak (aF (pv 1))))),?_⟩
  obtain⟨lv,hls,hlt⟩:=ws.wa.ls
  refine⟨_,rfl,W.w,_,W.dx,_,_,rfl,ws.wa.ob,T.aL,T.br,zl 2 mr rfl rfl,W.ls,_,rfl,.inl (bM.of hls),by show 1<=sizeLine;decide,fun nl hnl=>?_⟩
  generalize hH1:upd H nl _=H1
  have c1:Ch [] H H1:=by rw[<-hH1];exact Ch.new hnl
  have g1:H1 nl=some (.lst (tl [(s.air.length:Int)])):=by rw[<-hH1,ae,Paired.length hlt];rfl
  have hls1:=c1.fr _ _ hls (by simp)
  have nb:W.ls∉[nl]:=fun z=>by rw[List.mem_singleton.mp z,hnl] at hls;cases hls
  have hx:∀b∈[nl],b∉fp W q:=fun b hb=>by rw[List.mem_singleton.mp hb];exact ws.fresh hnl
  have ws1:=ws.news c1
  have pf:=List.prefix_refl hv
  have pn:=List.prefix_refl (aB s)
  refine⟨_,rfl,W.w,_,W.dx,_,_,rfl,ws1.wa.ob,T.aL,T.br,zl 2 mr rfl rfl,W.ls,rfl,⟨_,bM.of hls1⟩,qO (K:=K) (a:=W.ls) (xs:=lv) (fun j σ Hj=>∃o,σ=[some (.ref W.w),some (.ref nl),o]/\Hj nl=some (.lst (tl ((s.air.length:Int)::(s.air.take j).flatMap i8)))/\Ch [nl] H1 Hj)
   ⟨none,rfl,g1,Ch.refl _ _⟩ (fun j σ Hj _ ⟨_,_,_,cj⟩=>bM.of (cj.fr _ _ hls1 nb)) ?_ ?_⟩
  ·rintro j y σ Hj hj ⟨o,rfl,hn,cj⟩
   obtain⟨l,hl1,hyl⟩:=A1 hlt hj
   obtain⟨e1,e2⟩:=DM (f:=i8) hl1
   have c0j:Ch [nl] H Hj:=(c1.mono (by simp)).trans cj
   obtain⟨a,sv,rv,wv,rfl,ha,⟨si,rfl,hsi⟩,⟨ri,rfl,hri⟩,hwv⟩:=(yi.mono c0j pf pn hyl).ex
   obtain⟨sp,hsp,hsn⟩:=Iw hsi
   obtain⟨rp,hrp,hrn⟩:=Iw hri
   have wsj:=ws.free c0j hx
   have ls:=ws.gd.ln sp (List.mem_of_getElem? hsp)
   have lr:=ws.gd.ln rp (List.mem_of_getElem? hrp)
   have el:(i8 l).length=(Ha09.nameTold l.from_).length+(Ha09.nameTold l.to_).length+(qb l.what).length:=by unfold i8;rw[List.length_append,List.length_append]
   refine⟨_,rfl,.inl ⟨rfl,_,bM.of hn⟩,_,rfl,_,rfl,a,_,_,_,rfl,rfl,dM.of ha,eR,hv,W,s,si,sp,rfl,wsj.wa,hsp,by omega,fun H5 t1 c5 ht1 _=>?_⟩
   rw[hsn] at ht1
   have n5:=c5.fr _ _ hn (by simp)
   refine⟨nl,t1,_,_,rfl,rfl,n5,ht1,?_,?_⟩
   ·rw[fV,fV,sizeLine_eq,List.length_cons];omega
   rw[uV]
   generalize hH6:upd H5 nl _=H6
   have c6:Ch [nl] H5 H6:=by rw[<-hH6];exact Ch.put n5 trivial (by simp)
   have n6:H6 nl=some (.lst (tl (((s.air.length:Int)::(s.air.take j).flatMap i8)++Ha09.nameTold l.from_))):=by rw[<-hH6];exact ae
   have cj6:=(cj.trans (c5.mono (by simp))).trans c6
   have c06:Ch [nl] H H6:=(c1.mono (by simp)).trans cj6
   have cja:Ch [nl] Hj H6:=(c5.mono (by simp)).trans c6
   have ws6:=ws.free c06 hx
   have ha6:=cja.tu _ _ ha
   refine⟨_,rfl,.inl ⟨rfl,_,bM.of n6⟩,_,rfl,_,rfl,a,_,_,_,rfl,rfl,dM.of ha6,tO,hv,W,s,ri,rp,rfl,ws6.wa,hrp,by omega,fun H7 t2 c7 ht2 _=>?_⟩
   rw[hrn] at ht2
   have n7:=c7.fr _ _ n6 (by simp)
   refine⟨nl,t2,_,_,rfl,rfl,n7,ht2,?_,?_⟩
   ·rw[fV,fV,sizeLine_eq,List.length_append,List.length_cons];omega
   rw[uV]
   generalize hH8:upd H7 nl _=H8
   have c8:Ch [nl] H7 H8:=by rw[<-hH8];exact Ch.put n7 trivial (by simp)
   have n8:H8 nl=some (.lst (tl (((s.air.length:Int)::(s.air.take j).flatMap i8)++Ha09.nameTold l.from_++Ha09.nameTold l.to_))):=by rw[<-hH8];exact ae
   have cj8:=(cj6.trans (c7.mono (by simp))).trans c8
   have c08:Ch [nl] H H8:=(c1.mono (by simp)).trans cj8
   have c68:Ch [nl] Hj H8:=(cja.trans (c7.mono (by simp))).trans c8
   have ws8:=ws.free c08 hx
   have ha8:=c68.tu _ _ ha
   refine⟨_,rfl,.inl ⟨rfl,_,bM.of n8⟩,_,rfl,_,rfl,a,_,_,_,rfl,rfl,dM.of ha8,at2,hv,W,q,s,wv,l.what,rfl,ws8,wH.mono c68 pf pn hwv,h20,by omega,fun H9 t3 c9 ht3 _=>?_⟩
   have n9:=c9.fr _ _ n8 (by simp)
   refine⟨nl,t3,_,_,rfl,rfl,n9,ht3,?_,?_⟩
   ·rw[fV,fV,sizeLine_eq,List.length_append,List.length_append,List.length_cons];omega
   ·refine⟨_,rfl,?_,(cj8.trans (c9.mono (by simp))).trans (Ch.put n9 trivial (by simp))⟩
    rw[ae,uV,e1]
    unfold i8
    simp only[List.cons_append,List.append_assoc]
  ·rintro σ H2 ⟨o,rfl,hn,cj⟩
   rw[Paired.length hlt,List.take_length] at hn
   refine⟨_,rfl,?_⟩
   exact k H2 nl (c1.trans' cj (fun b hb=>by rw[List.mem_singleton.mp hb];exact .inr hnl)) hn hnl
theorem yT:∀{ls:List Letter} {k:Nat} {l:Letter},ls[k]?=some l->rP (ls.eraseIdx k)+zP l=rP ls
 | [],k,l,h=>by simp at h
 | a::r,0,l,h=>by
  simp at h;subst h
  simp[rP];omega
 | a::r,k+1,l,h=>by
  have ih:=yT (ls:=r) (k:=k) (l:=l) (by simpa using h)
  simp only[rP,List.eraseIdx_cons_succ,List.map_cons,List.sum_cons] at ih ⊢
  omega
theorem ux {s:Ha09.St} {i:Nat} (h:¬(1<=i/\i<=s.procs.length)):Ha09.nth s i=none:=by
 unfold Ha09.nth
 by_cases z:i=0
 ·rw[if_pos z]
 ·rw[if_neg z,List.getElem?_eq_none_iff.mpr (by omega)]
theorem vg {s:Ha09.St} {i:Nat} (h:1<=i/\i<=s.procs.length):∃(j:Nat) (p:Proc),i=j+1/\s.procs[j]?=some p/\Ha09.nth s i=some p:=by
 obtain⟨j,rfl⟩:∃j,i=j+1:=⟨i-1,by omega⟩
 have hj:j<s.procs.length:=by omega
 refine⟨j,s.procs[j],rfl,List.getElem?_eq_getElem hj,?_⟩
 unfold Ha09.nth
 rw[if_neg (by omega),Nat.add_sub_cancel,List.getElem?_eq_getElem hj]
inductive yo (P:Program) (w:World) (A:Ad) (K:PySem.W.Frag) (vs:List V) (H:Hp) (Q:VK):Prop|mk (ln dx:Addr) (hv:Tab) (W:WL) (q:QL) (s:Ha09.St) (i j:Nat):vs=[.ref ln,.int (i:Int),.int (j:Int)]->yj P w A K H ln dx hv W q s->hv.length+wt s+12000<=15000000->(Ha09.step s (.deliver i j)).2.length<=10000000->jj P w A K H ln dx hv W q s (Ha09.step s (.deliver i j)).1 (Ha09.step s (.deliver i j)).2 Q->yo P w A K vs H Q
def EC (P:Program) (w:World) (A:Ad) (K:PySem.W.Frag):Sp:=fun vs H Q _=>yo P w A K vs H Q
theorem wG (T:Tx w K mg A D):aS P w K mg base eV 5 A.fE D.fQ ["self","i","j"] (EC P w A K):=by
 refine T.sS.ok kg (fun vs H Q E h=>?_) (fun cdv A' outer s0 H vs Q E hr h=>?_)
 ·obtain⟨ln,dx,hv,W,q,s,i,j,rfl,_⟩:=h;rfl
 ·obtain⟨ln,dx,hv,W,q,s,i,j,rfl,l,hb,hl,k⟩:=h
  refine⟨_,(ah (aW (PW.pt (xr (nq (fW (aG (az (pv 0) rfl) T.aL T.bZ (b5 T) (hr.mono (by decide)) T.b4 .nil aJ (aa (pv 1) ag)))) (sY (nq (fW (aG (az (pv 0) rfl) T.aL T.bZ (b5 T) (hr.mono (by decide)) T.b4 .nil aJ (aa (pv 2) ag))))))) (ak (aF (bf (aa (a8 T.hU) ag)))) aT)
   (ah (aX (i:=3) kg.nd rfl (Or.inl rfl) (aV (wC T) (hr.mono (by decide)) rfl T.sA T.nQ.kp T.sH .nil aJ (aa (az (az (pv 0) rfl) rfl) (aa (pv 1) (aa (pv 2) ag)))))
   (ah (aW (aO (sZ (pv 3))) (ak (aF (bf (aa (a8 T.xP) ag)))) aT)
   (ah (aX (i:=4) kg.nd rfl (Or.inl rfl) (dO PySem.F.plainAttrs_list PySem.F.slot_list_pop PySem.F.type_list_pop Bj (az (az (pv 0) rfl) rfl) (aa (pv 3) ag)))
   (ah (aI (aG (az (pv 0) rfl) T.aL T.nA (pJ T) (hr.mono (by decide)) T.nH .nil aJ (aa (pv 4) ag)))
   (ak (aF (aV (uj T) (hr.mono (by decide)) rfl T.tG T.pz.kp T.tK .nil aJ (aa (az (pv 0) rfl) (aa (aK aH (pv 4) aq (fun _ _=>rfl)) ag)))))))))),?_⟩
  have ob:=l.ws.wa.ob
  have e:Ha09.step s (.deliver i j)=Ha09.withProc s i fun p=>Ha09.withProc s j fun q=>(match Ha09.firstOf s p.name q.name with
   | none=>(s,[-5])
   | some k=>(Ha09.deliverAt s k,match s.air[k]? with
    | some l=>(match l.what with
     | some v=>1::Ha09.told v
     | none=>[0])
    | none=>[])):=rfl
  unfold Ha09.withProc at e
  refine⟨_,rfl,ln,_,dx,_,_,rfl,l.ob,T.bS,T.aU,zl 0 uS rfl rfl,W.w,W.dx,_,rfl,ob,zn (by decide +kernel),_,rfl,hv,W,s,i,rfl,l.ws.wa,_,rfl,?_⟩
  by_cases hi:1<=i/\i<=s.procs.length
  case neg =>
   rw[ux hi] at e
   rw[e] at k
   refine nT hi (oY ?_)
   exact⟨by show 1<=sizeLine;decide,fun r hr=>k.one l hr⟩
  refine nF hi ?_
  refine⟨_,rfl,ln,_,dx,_,_,rfl,l.ob,T.bS,T.aU,zl 0 uS rfl rfl,W.w,W.dx,_,rfl,ob,zn (by decide +kernel),_,rfl,hv,W,s,j,rfl,l.ws.wa,_,rfl,?_⟩
  by_cases hj:1<=j/\j<=s.procs.length
  case neg =>
   obtain⟨_,pi,_,_,ei⟩:=vg hi
   rw[ei] at e
   dsimp only at e
   rw[ux hj] at e
   rw[e] at k
   refine nT hj ?_
   exact⟨by show 1<=sizeLine;decide,fun r hr=>k.one l hr⟩
  refine nF hj ?_
  obtain⟨i',pi,rfl,hpi,ei⟩:=vg hi
  obtain⟨j',pj,rfl,hpj,ej⟩:=vg hj
  rw[ei] at e
  dsimp only at e
  rw[ej] at e
  dsimp only at e
  obtain⟨lv,hls,hlt⟩:=l.ws.wa.ls
  have nmi:(aB s)[i']?=some pi.name:=by unfold aB;rw[List.getElem?_map,hpi];rfl
  have nmj:(aB s)[j']?=some pj.name:=by unfold aB;rw[List.getElem?_map,hpj];rfl
  refine⟨_,rfl,ln,_,dx,_,_,rfl,l.ob,T.bS,T.aU,zl 0 uS rfl rfl,W.w,_,W.dx,_,_,rfl,ob,T.aL,T.br,zl 2 mr rfl rfl,_,rfl,_,rfl,hv,aB s,W.ls,lv,s.air,i',j',pi.name,pj.name,rfl,l.ws.gd.nd,hls,hlt,nmi,nmj,fun H1 c1=>?_⟩
  have ef:Ha09.firstOf s pi.name pj.name=s.air.findIdx? (fun l=>l.from_==pi.name&&l.to_==pj.name):=rfl
  rw[<-ef]
  cases hf:Ha09.firstOf s pi.name pj.name with
  | none =>
   rw[hf] at e
   dsimp only at e
   rw[e] at k
   refine⟨_,rfl,_,rfl,?_⟩
   refine dT rfl ?_
   refine⟨by show 1<=sizeLine;decide,fun r hr=>?_⟩
   exact k.same l (c1.trans (Ch.new hr)) (c1.free hr (by simp)) ae
  | some n =>
   rw[hf] at e
   dsimp only at e
   refine⟨_,rfl,_,rfl,?_⟩
   refine dF (by simp) ?_
   obtain⟨L,hL⟩:∃L,s.air[n]?=some L:=by
    rw[ef] at hf
    have:=List.findIdx?_eq_some_iff_getElem.mp hf
    obtain⟨h1,_⟩:=this
    exact⟨_,List.getElem?_eq_getElem h1⟩
   rw[hL] at e
   dsimp only at e
   have hn:=(List.getElem?_eq_some_iff.mp hL).1
   have l1:=l.news c1
   have ob1:=l1.ws.wa.ob
   have hls1:=c1.fr _ _ hls (by simp)
   have hll:=Paired.length hlt
   obtain⟨u,hu,huL⟩:=ug hlt hL
   have hwl:=Bp.Di s.air
   refine⟨_,rfl,ln,_,dx,_,_,rfl,l1.ob,T.bS,T.aU,zl 0 uS rfl rfl,W.w,_,W.dx,_,_,rfl,ob1,T.aL,T.br,zl 2 mr rfl rfl,.inl ⟨rfl,_,bM.of hls1⟩,_,rfl,W.ls,_,_,n,_,rfl,rfl,hls1,by omega,by unfold wt at hb;omega,Iz (by rw[hll];exact hn),hu,?_⟩
   generalize hH2:upd H1 W.ls _=H2
   have c2:Ch [W.ls] H1 H2:=by rw[<-hH2];exact Ch.put hls1 trivial (by simp)
   have g2:H2 W.ls=some (.lst (lv.eraseIdx n)):=by rw[<-hH2];exact ae
   have pf:=List.prefix_refl hv
   have pn:=List.prefix_refl (aB s)
   have c12:Ch [W.ls] H H2:=(c1.mono (by simp)).trans c2
   have ws2:=l1.ws.air c2 g2 (Cw n (Paired.bL hlt fun _ _ z=>yi.mono c12 pf pn z))
   have inls:W.ls∈fp W q:=by simp[fp,WL.addrs]
   have ob2:=c2.fr _ _ l1.ob (fun z=>l.nl (by rw[List.mem_singleton.mp z];exact inls))
   have hL2:=yi.mono c12 pf pn huL
   have ewt:=yT hL
   have ewt2:wt (b6 s (s.air.eraseIdx n))+zP L=wt s:=by unfold wt b6;dsimp only;omega
   have ed:Ha09.deliverAt s n=Ha09.arrives (b6 s (s.air.eraseIdx n)) L:=by unfold Ha09.deliverAt;rw[hL];rfl
   refine⟨_,rfl,ln,_,dx,_,_,rfl,ob2,T.bS,T.aU,zl 0 uS rfl rfl,W.w,W.dx,_,rfl,ws2.wa.ob,zn (by decide +kernel),_,rfl,hv,W,q,_,u,L,rfl,ws2,hL2,by omega,?_⟩
   intro H3 hv3 W3 ws3 pf3 le3 c3 e3
   rw[<-ed] at ws3 le3
   have pl3:=pf3.length_le
   have n3:aB (Ha09.deliverAt s n)=aB s:=by rw[ed,qW];rfl
   have hL3:yi H3 hv3 (aB (Ha09.deliverAt s n)) u L:=by rw[n3];exact yi.mono c3 pf3 pn hL2
   have ob3:=c3.fr _ _ ob2 l.nl
   have l3:yj P w A K H3 ln dx hv3 W3 q (Ha09.deliverAt s n):=by
    refine⟨by rw[e3.w];exact ob3,ws3,fun z=>?_,by rw[rE,n3,<-rE];exact l.CC⟩
    rcases List.mem_append.mp z with z|z
    ·rcases e3.fr _ z with z|z
     ·exact l.nl (List.mem_append.mpr (.inl z))
     ·rw[ob2] at z;cases z
    ·exact l.nl (List.mem_append.mpr (.inr z))
   have free2:∀b,H2 b=none->H b=none:=fun b hb=>c12.free hb (fun z=>by rw[List.mem_singleton.mp z,g2] at hb;cases hb)
   have c03:Ch (ln::fp W q) H H3:=(c12.mono fun b hb=>by rw[List.mem_singleton.mp hb];exact List.mem_cons_of_mem _ inls).trans (c3.mono fun b hb=>List.mem_cons_of_mem _ hb)
   have fr3:∀b∈fp W3 q,b∈fp W q\/H b=none:=fun b hb=>by
    rcases List.mem_append.mp hb with z|z
    ·rcases e3.fr _ z with z|z
     ·exact .inl (List.mem_append.mpr (.inl z))
     ·exact .inr (free2 b z)
    ·exact .inl (List.mem_append.mpr (.inr z))
   obtain⟨ua,sv,rv,wv,rfl,hua,hsv,hrv,hwv⟩:=hL3
   have ew:(match L.what with
    | some v=>1::Ha09.told v
    | none=>[0])=qb L.what:=by cases L.what<;>rfl
   rw[ew] at e
   rw[e] at k hl
   dsimp only at k hl
   refine⟨_,rfl,ln,_,dx,_,_,rfl,ob3,T.bS,T.aU,zl 0 uS rfl rfl,_,rfl,ua,_,_,_,rfl,rfl,dM.of hua,at2,hv3,W3,q,_,wv,L.what,by rw[e3.w];rfl,l3.ws,hwv,l3.CC,hl,fun H5 r c5 hr5 hr0=>?_⟩
   exact k _ hv3 W3 q r (l3.news c5) (by omega) (by omega) (c03.trans (c5.mono (by simp))) fr3 (fun z=>c03.free hr0 z) hr5
theorem JL {H:Hp} {hv:Tab} {bz:qX} {r:PV} {p:Proc} (h:yB K H hv bz r p.box p.ctrl):∃m:Int,r.md=.int m /\
  ((m=3/\Ha09.howTold p=[1])\/(m=4/\∃v,VR H hv bz r.vl v/\Ha09.howTold p=2::Ha09.told v)\/(m=5/\∃v,VR H hv bz r.vl v/\Ha09.howTold p=3::Ha09.told v)\/(m≠3/\m≠4/\m≠5/\Ha09.howTold p=[0])):=by
 unfold Ha09.howTold
 cases hc:p.ctrl with
 | eval a e=>rw[hc] at h;exact⟨0,h.1,.inr (.inr (.inr ⟨by decide,by decide,by decide,rfl⟩))⟩
 | back v=>rw[hc] at h;exact⟨1,h.1,.inr (.inr (.inr ⟨by decide,by decide,by decide,rfl⟩))⟩
 | up v=>rw[hc] at h;exact⟨2,h.1,.inr (.inr (.inr ⟨by decide,by decide,by decide,rfl⟩))⟩
 | awaits q b p d e=>rw[hc] at h;exact⟨3,h.1,.inl ⟨rfl,rfl⟩⟩
 | awaitsTill t q b d e=>rw[hc] at h;exact⟨3,h.1,.inl ⟨rfl,rfl⟩⟩
 | done v=>rw[hc] at h;exact⟨4,h.1,.inr (.inl ⟨rfl,v,h.2,rfl⟩)⟩
 | failed v=>rw[hc] at h;exact⟨5,h.1,.inr (.inr (.inl ⟨rfl,v,h.2,rfl⟩))⟩
inductive BO (P:Program) (w:World) (A:Ad) (K:PySem.W.Frag) (f:Proc->List Int) (vs:List V) (H:Hp) (Q:VK):Prop|mk (hv:Tab) (W:WL) (q:QL) (s:Ha09.St) (i:Nat) (l:PL) (p:Proc):vs=[.ref W.w,.ref l.p]->WS P w A K H hv W q s->W.pl[i]?=some l->s.procs[i]?=some p->s.procs.length<=20->(f p).length<=10000000->(∀H' r,Ch [] H H'->H' r=some (.lst (tl (f p)))->H r=none->Q (.ref r) H')->BO P w A K f vs H Q
def Dm (P:Program) (w:World) (A:Ad) (K:PySem.W.Frag) (f:Proc->List Int):Sp:=fun vs H Q _=>BO P w A K f vs H Q
theorem yL (T:Tx w K mg A D):aS P w K mg base eV 4 A.hW D.iw ["world","process"] (Dm P w A K Ha09.howTold):=by
 refine T.qY.ok yE (fun vs H Q E h=>?_) (fun cdv A' outer s0 H vs Q E hr h=>?_)
 ·obtain⟨hv,W,q,s,i,l,p,rfl,_⟩:=h;rfl
 ·obtain⟨hv,W,q,s,i,l,p,rfl,ws,hll,hp,h20,hl,k⟩:=h
  refine⟨_,(ah (aW (aO (bc (az (pv 1) rfl) (a8 T.wR))) (ak (aF (bf (aa (a8 T.Gd) ag)))) aT)
   (ah (aW (aO (bc (az (pv 1) rfl) (a8 T.uA))) (ak (aF (eT z9 (bf (aa (a8 T.xR) ag)) (aV (wO T) (hr.mono (by decide)) rfl T.Bx T.zK.kp T.BC .nil aJ (aa (pv 0) (aa (az (pv 1) rfl) ag)))))) aT)
   (ah (aW (aO (bc (az (pv 1) rfl) (a8 T.rG))) (ak (aF (eT z9 (bf (aa (a8 T.vP) ag)) (aV (wO T) (hr.mono (by decide)) rfl T.Bx T.zK.kp T.BC .nil aJ (aa (pv 0) (aa (az (pv 1) rfl) ag)))))) aT)
   (ak (aF (bf (aa (a8 T.Br) ag))))))),?_⟩
  obtain⟨r,pa⟩:=ws.wa.at_ i l p hll hp
  obtain⟨m,hm,hc⟩:=JL pa.ct
  have hm':(r.fs (i+1) p.born l)[2]?=some (.int m):=by show some r.md=_;rw[hm]
  have ob:=pa.ob
  have tell:∀(z:Int) (v:Val),VR H hv (aB s) r.vl v->Ha09.howTold p=z::Ha09.told v->∀a1,H a1=none->∀H1,Ch [] H H1->H1 a1=some (.lst [.int z])->∀H5 t,Ch [] H1 H5->H5 t=some (.lst (tl (Ha09.told v)))->(Ha09.told v).length+1<=10000000->∀a3,H5 a3=none->Q (.ref a3) (upd H5 a3 (.lst ([.int z]++tl (Ha09.told v)))):=by
   intro z v hv' e a1 ha1 H1 c1 g1 H5 t c5 ht hle a3 ha3
   exact k _ a3 ((c1.trans c5).trans (Ch.new ha3)) (by rw[ae,e];rfl) ((c1.trans c5).free ha3 (by simp))
  refine⟨_,rfl,l.p,_,l.dx,_,_,rfl,ob,T.ao,T.aN,zl 2 ck rfl hm',_,_,rfl,rfl,_,rfl,?_⟩
  rcases hc with⟨rfl,e⟩|⟨rfl,v,hv',e⟩|⟨rfl,v,hv',e⟩|⟨n3,n4,n5,e⟩
  ·refine dT rfl ?_
   exact⟨by show 1<=sizeLine;decide,fun r hr=>k _ r (Ch.new hr) (by rw[ae,e];rfl) hr⟩
  ·refine dF (by decide) ?_
   refine⟨_,rfl,l.p,_,l.dx,_,_,rfl,ob,T.ao,T.aN,zl 2 ck rfl hm',_,_,rfl,rfl,_,rfl,?_⟩
   refine dT rfl ?_
   rw[e,List.length_cons] at hl
   refine⟨by show 1<=sizeLine;decide,fun a1 ha1=>?_⟩
   generalize hH1:upd H a1 _=H1
   have c1:Ch [] H H1:=by rw[<-hH1];exact Ch.new ha1
   have g1:H1 a1=some (.lst [.int 2]):=by rw[<-hH1];exact ae
   refine⟨_,rfl,_,rfl,l.p,_,l.dx,_,_,rfl,c1.fr _ _ ob (by simp),T.ao,T.aQ,zl 5 ck rfl rfl,hv,W,q,s,r.vl,v,rfl,ws.news c1,hv'.mono c1 (List.prefix_refl _) (List.prefix_refl _),h20,by omega,fun H5 t c5 ht ht0=>?_⟩
   refine⟨a1,t,_,_,rfl,rfl,c5.fr _ _ g1 (by simp),ht,?_,fun a3 ha3=>tell 2 v hv' e a1 ha1 H1 c1 g1 H5 t c5 ht hl a3 ha3⟩
   rw[fV,sizeLine_eq];show 1+_<=_;omega
  ·refine dF (by decide) ?_
   refine⟨_,rfl,l.p,_,l.dx,_,_,rfl,ob,T.ao,T.aN,zl 2 ck rfl hm',_,_,rfl,rfl,_,rfl,?_⟩
   refine dF (by decide) ?_
   refine⟨_,rfl,l.p,_,l.dx,_,_,rfl,ob,T.ao,T.aN,zl 2 ck rfl hm',_,_,rfl,rfl,_,rfl,?_⟩
   refine dT rfl ?_
   rw[e,List.length_cons] at hl
   refine⟨by show 1<=sizeLine;decide,fun a1 ha1=>?_⟩
   generalize hH1:upd H a1 _=H1
   have c1:Ch [] H H1:=by rw[<-hH1];exact Ch.new ha1
   have g1:H1 a1=some (.lst [.int 3]):=by rw[<-hH1];exact ae
   refine⟨_,rfl,_,rfl,l.p,_,l.dx,_,_,rfl,c1.fr _ _ ob (by simp),T.ao,T.aQ,zl 5 ck rfl rfl,hv,W,q,s,r.vl,v,rfl,ws.news c1,hv'.mono c1 (List.prefix_refl _) (List.prefix_refl _),h20,by omega,fun H5 t c5 ht ht0=>?_⟩
   refine⟨a1,t,_,_,rfl,rfl,c5.fr _ _ g1 (by simp),ht,?_,fun a3 ha3=>tell 3 v hv' e a1 ha1 H1 c1 g1 H5 t c5 ht hl a3 ha3⟩
   rw[fV,sizeLine_eq];show 1+_<=_;omega
  ·refine dF n3 ?_
   refine⟨_,rfl,l.p,_,l.dx,_,_,rfl,ob,T.ao,T.aN,zl 2 ck rfl hm',_,_,rfl,rfl,_,rfl,?_⟩
   refine dF n4 ?_
   refine⟨_,rfl,l.p,_,l.dx,_,_,rfl,ob,T.ao,T.aN,zl 2 ck rfl hm',_,_,rfl,rfl,_,rfl,?_⟩
   refine dF n5 ?_
   exact⟨by show 1<=sizeLine;decide,fun r hr=>k _ r (Ch.new hr) (by rw[ae,e];rfl) hr⟩
def qv (p:Proc):List Int:=Ha09.nameTold p.name++Ha09.ints [p.frames.length,p.box.length,p.born,p.watchers.length]++Ha09.howTold p
theorem wu (T:Tx w K mg A D):aS P w K mg base eV 5 A.fm D.fF ["world","process"] (Dm P w A K qv):=by
 refine T.nL.ok pD (fun vs H Q E h=>?_) (fun cdv A' outer s0 H vs Q E hr h=>?_)
 ·obtain⟨hv,W,q,s,i,l,p,rfl,_⟩:=h;rfl
 ·obtain⟨hv,W,q,s,i,l,p,rfl,ws,hll,hp,h20,hl,k⟩:=h
  refine⟨_,(ah (aX (i:=2) pD.nd rfl (Or.inl rfl) (aV (kX T) (hr.mono (by decide)) rfl T.lX T.jL.kp T.l8 .nil aJ (aa (pv 0) (aa (az (pv 1) rfl) ag))))
   (ah (aI (dO PySem.F.plainAttrs_list PySem.F.slot_list_extend PySem.F.type_list_extend hR (pv 2) (aa (bf (aa (a9 aM rfl T.gc PySem.boot_len (aa (az (pv 1) rfl) ag)) (aa (a9 aM rfl T.gc PySem.boot_len (aa (az (pv 1) rfl) ag)) (aa (az (pv 1) rfl) (aa (a9 aM rfl T.gc PySem.boot_len (aa (az (pv 1) rfl) ag)) ag))))) ag)))
   (ah (aI (dO PySem.F.plainAttrs_list PySem.F.slot_list_extend PySem.F.type_list_extend hR (pv 2) (aa (aV (yL T) (hr.mono (by decide)) rfl T.vR T.qY.kp T.vU .nil aJ (aa (pv 0) (aa (pv 1) ag))) ag)))
   (ak (aF (pv 2)))))),?_⟩
  obtain⟨r,pa⟩:=ws.wa.at_ i l p hll hp
  have lnm:=ws.gd.ln p (List.mem_of_getElem? hp)
  have el:(qv p).length=(Ha09.nameTold p.name).length+4+(Ha09.howTold p).length:=by unfold qv;rw[List.length_append,List.length_append];rfl
  refine⟨_,rfl,_,rfl,l.p,_,l.dx,_,_,rfl,pa.ob,T.ao,T.bH,zl 0 ck rfl rfl,hv,W,s,i,p,rfl,ws.wa,hp,by omega,fun H1 nl c1 n1 hnl=>?_⟩
  obtain⟨r1,pa1⟩:=(ws.news c1).wa.at_ i l p hll hp
  have l1:=Paired.length pa1.yC
  have l2:=Paired.length pa1.Dc
  have l3:=Paired.length pa1.Ek
  refine⟨_,rfl,.inl ⟨rfl,_,bM.of n1⟩,_,rfl,l.p,_,l.dx,_,_,rfl,pa1.ob,T.ao,T.bU,zl 8 ck rfl rfl,l.td,_,rfl,.inl (bM.of pa1.td),
   _,rfl,l.p,_,l.dx,_,_,rfl,pa1.ob,T.ao,T.bW,zl 9 ck rfl rfl,l.bx,_,rfl,.inl (bM.of pa1.bx),
   _,rfl,l.p,_,l.dx,_,_,rfl,pa1.ob,T.ao,T.cg,zl 11 ck rfl rfl,
   _,rfl,l.p,_,l.dx,_,_,rfl,pa1.ob,T.ao,T.bQ,zl 12 ck rfl rfl,l.wt,_,rfl,.inl (bM.of pa1.wt),by show 4<=sizeLine;decide,fun a2 ha2=>?_⟩
  rw[List.length_reverse,l1,l2,l3]
  generalize hH2:upd H1 a2 _=H2
  have c2:Ch [] H1 H2:=by rw[<-hH2];exact Ch.new ha2
  have g2:H2 a2=some (.lst (tl (Ha09.ints [p.frames.length,p.box.length,p.born,p.watchers.length]))):=by rw[<-hH2];exact ae
  have n2:=c2.fr _ _ n1 (by simp)
  refine⟨nl,a2,_,_,rfl,rfl,n2,g2,?_,?_⟩
  ·rw[fV,fV,sizeLine_eq];show _+4<=_;omega
  rw[uV]
  generalize hH3:upd H2 nl _=H3
  have c3:Ch [nl] H2 H3:=by rw[<-hH3];exact Ch.put n2 trivial (by simp)
  have n3:H3 nl=some (.lst (tl (Ha09.nameTold p.name++Ha09.ints [p.frames.length,p.box.length,p.born,p.watchers.length]))):=by rw[<-hH3];exact ae
  have hx:∀b∈[nl],b∉fp W q:=fun b hb=>by rw[List.mem_singleton.mp hb];exact ws.fresh hnl
  have c03:Ch [nl] H H3:=((c1.trans c2).mono (by simp)).trans c3
  refine⟨_,rfl,.inl ⟨rfl,_,bM.of n3⟩,_,rfl,_,rfl,hv,W,q,s,i,l,p,rfl,ws.free c03 hx,hll,hp,h20,by omega,fun H4 t c4 ht ht0=>?_⟩
  have n4:=c4.fr _ _ n3 (by simp)
  refine⟨nl,t,_,_,rfl,rfl,n4,ht,?_,?_⟩
  ·rw[fV,fV,sizeLine_eq,List.length_append];show _+4+_<=_;omega
  rw[uV]
  refine⟨_,rfl,?_⟩
  have c5:Ch [nl] H4 (upd H4 nl (.lst (tl (qv p)))):=Ch.put n4 trivial (by simp)
  exact k _ nl ((Ch.refl [] H).trans' ((c03.trans (c4.mono (by simp))).trans c5) (fun b hb=>by rw[List.mem_singleton.mp hb];exact .inr hnl)) ae hnl
inductive GR (P:Program) (w:World) (A:Ad) (K:PySem.W.Frag) (c:Nat->Ha09.Call) (vs:List V) (H:Hp) (Q:VK):Prop|mk (ln dx:Addr) (hv:Tab) (W:WL) (q:QL) (s:Ha09.St) (i:Nat):vs=[.ref ln,.int (i:Int)]->yj P w A K H ln dx hv W q s->(Ha09.step s (c i)).2.length<=10000000->jj P w A K H ln dx hv W q s (Ha09.step s (c i)).1 (Ha09.step s (c i)).2 Q->GR P w A K c vs H Q
def FA (P:Program) (w:World) (A:Ad) (K:PySem.W.Frag) (c:Nat->Ha09.Call):Sp:=fun vs H Q _=>GR P w A K c vs H Q
inductive Eg (P:Program) (w:World) (A:Ad) (K:PySem.W.Frag) (c:Ha09.Call) (vs:List V) (H:Hp) (Q:VK):Prop|mk (ln dx:Addr) (hv:Tab) (W:WL) (q:QL) (s:Ha09.St):vs=[.ref ln]->yj P w A K H ln dx hv W q s->(Ha09.step s c).2.length<=10000000->jj P w A K H ln dx hv W q s (Ha09.step s c).1 (Ha09.step s c).2 Q->Eg P w A K c vs H Q
def Fz (P:Program) (w:World) (A:Ad) (K:PySem.W.Frag) (c:Ha09.Call):Sp:=fun vs H Q _=>Eg P w A K c vs H Q
theorem FQ {H:Hp} {hv:Tab} {W:WL} {q:QL} {s:Ha09.St} (ws:WS P w A K H hv W q s) {j:Nat} {p:Proc} (hp:s.procs[j]?=some p):∃l,W.pl[j]?=some l:=by
 have hlt:=(List.getElem?_eq_some_iff.mp hp).1
 rw[<-ws.wa.len] at hlt
 exact⟨_,List.getElem?_eq_getElem hlt⟩
theorem qF (T:Tx w K mg A D):aS P w K mg base eV 6 A.cR D.cY ["self","i"] (FA P w A K .process):=by
 refine T.mq.ok qr (fun vs H Q E h=>?_) (fun cdv A' outer s0 H vs Q E hr h=>?_)
 ·obtain⟨ln,dx,hv,W,q,s,i,rfl,_⟩:=h;rfl
 ·obtain⟨ln,dx,hv,W,q,s,i,rfl,l,hl,k⟩:=h
  refine⟨_,(ah (aW (nq (fW (aG (az (pv 0) rfl) T.aL T.bZ (b5 T) (hr.mono (by decide)) T.b4 .nil aJ (aa (pv 1) ag)))) (ak (aF (bf (aa (a8 T.hU) ag)))) aT)
   (ak (aF (aV (wu T) (hr.mono (by decide)) rfl T.so T.nL.kp T.sC .nil aJ (aa (az (pv 0) rfl) (aa (aG (az (pv 0) rfl) T.aL T.b9 (cp T) (hr.mono (by decide)) T.cb .nil aJ (aa (pv 1) ag)) ag)))))),?_⟩
  have ob:=l.ws.wa.ob
  have e:Ha09.step s (.process i)=Ha09.withProc s i fun p=>(s,qv p):=rfl
  unfold Ha09.withProc at e
  refine⟨_,rfl,ln,_,dx,_,_,rfl,l.ob,T.bS,T.aU,zl 0 uS rfl rfl,W.w,W.dx,_,rfl,ob,zn (by decide +kernel),_,rfl,hv,W,s,i,rfl,l.ws.wa,_,rfl,?_⟩
  by_cases hi:1<=i/\i<=s.procs.length
  case neg =>
   rw[ux hi] at e
   rw[e] at k
   refine nT hi ?_
   exact⟨by show 1<=sizeLine;decide,fun r hr=>k.one l hr⟩
  refine nF hi ?_
  obtain⟨j,p,rfl,hp,ei⟩:=vg hi
  rw[ei] at e
  dsimp only at e
  rw[e] at k hl
  dsimp only at k hl
  obtain⟨pl,hpl⟩:=FQ l.ws hp
  refine⟨_,rfl,ln,_,dx,_,_,rfl,l.ob,T.bS,T.aU,zl 0 uS rfl rfl,_,rfl,ln,_,dx,_,_,rfl,l.ob,T.bS,T.aU,zl 0 uS rfl rfl,W.w,W.dx,_,rfl,ob,zn (by decide +kernel),_,rfl,hv,W,s,j,pl,rfl,l.ws.wa,hpl,hv,W,q,s,j,pl,p,rfl,l.ws,hpl,hp,l.CC,hl,fun H' r c hr hr0=>k.same l c hr0 hr⟩
theorem ve (T:Tx w K mg A D):aS P w K mg base eV 6 A.eJ D.eM ["self","i"] (FA P w A K .box):=by
 refine T.qZ.ok uX (fun vs H Q E h=>?_) (fun cdv A' outer s0 H vs Q E hr h=>?_)
 ·obtain⟨ln,dx,hv,W,q,s,i,rfl,_⟩:=h;rfl
 ·obtain⟨ln,dx,hv,W,q,s,i,rfl,l,hl,k⟩:=h
  refine⟨_,(ah (aW (nq (fW (aG (az (pv 0) rfl) T.aL T.bZ (b5 T) (hr.mono (by decide)) T.b4 .nil aJ (aa (pv 1) ag)))) (ak (aF (bf (aa (a8 T.hU) ag)))) aT)
   (ak (aF (aV (qB T) (hr.mono (by decide)) rfl T.pb T.k9.kp T.pk .nil aJ (aa (az (pv 0) rfl) (aa (az (aG (az (pv 0) rfl) T.aL T.b9 (cp T) (hr.mono (by decide)) T.cb .nil aJ (aa (pv 1) ag)) rfl) ag)))))),?_⟩
  have ob:=l.ws.wa.ob
  have e:Ha09.step s (.box i)=Ha09.withProc s i fun p=>(s,(p.box.length:Int)::p.box.flatMap Ha09.told):=rfl
  unfold Ha09.withProc at e
  refine⟨_,rfl,ln,_,dx,_,_,rfl,l.ob,T.bS,T.aU,zl 0 uS rfl rfl,W.w,W.dx,_,rfl,ob,zn (by decide +kernel),_,rfl,hv,W,s,i,rfl,l.ws.wa,_,rfl,?_⟩
  by_cases hi:1<=i/\i<=s.procs.length
  case neg =>
   rw[ux hi] at e
   rw[e] at k
   refine nT hi ?_
   exact⟨by show 1<=sizeLine;decide,fun r hr=>k.one l hr⟩
  refine nF hi ?_
  obtain⟨j,p,rfl,hp,ei⟩:=vg hi
  rw[ei] at e
  dsimp only at e
  rw[e] at k hl
  dsimp only at k hl
  rw[List.length_cons] at hl
  obtain⟨pl,hpl⟩:=FQ l.ws hp
  obtain⟨r,pa⟩:=l.ws.wa.at_ j pl p hpl hp
  refine⟨_,rfl,ln,_,dx,_,_,rfl,l.ob,T.bS,T.aU,zl 0 uS rfl rfl,_,rfl,ln,_,dx,_,_,rfl,l.ob,T.bS,T.aU,zl 0 uS rfl rfl,W.w,W.dx,_,rfl,ob,zn (by decide +kernel),_,rfl,hv,W,s,j,pl,rfl,l.ws.wa,hpl,pl.p,_,pl.dx,_,_,rfl,pa.ob,T.ao,T.bW,zl 9 ck rfl rfl,hv,W,q,s,pl.bx,r.bv,p.box,rfl,l.ws,pa.bx,pa.Dc,l.CC,hl,fun H' r c hr hr0=>k.same l c hr0 hr⟩
theorem uq (T:Tx w K mg A D):aS P w K mg base eV 6 A.dX D.d5 ["self","i"] (FA P w A K .said):=by
 refine T.pU.ok t9 (fun vs H Q E h=>?_) (fun cdv A' outer s0 H vs Q E hr h=>?_)
 ·obtain⟨ln,dx,hv,W,q,s,i,rfl,_⟩:=h;rfl
 ·obtain⟨ln,dx,hv,W,q,s,i,rfl,l,hl,k⟩:=h
  refine⟨_,(ah (aW (nq (fW (aG (az (pv 0) rfl) T.aL T.bZ (b5 T) (hr.mono (by decide)) T.b4 .nil aJ (aa (pv 1) ag)))) (ak (aF (bf (aa (a8 T.hU) ag)))) aT)
   (ak (aF (aV (qB T) (hr.mono (by decide)) rfl T.pb T.k9.kp T.pk .nil aJ (aa (az (pv 0) rfl) (aa (az (aG (az (pv 0) rfl) T.aL T.b9 (cp T) (hr.mono (by decide)) T.cb .nil aJ (aa (pv 1) ag)) rfl) ag)))))),?_⟩
  have ob:=l.ws.wa.ob
  have e:Ha09.step s (.said i)=Ha09.withProc s i fun p=>(s,(p.said.length:Int)::p.said.flatMap Ha09.told):=rfl
  unfold Ha09.withProc at e
  refine⟨_,rfl,ln,_,dx,_,_,rfl,l.ob,T.bS,T.aU,zl 0 uS rfl rfl,W.w,W.dx,_,rfl,ob,zn (by decide +kernel),_,rfl,hv,W,s,i,rfl,l.ws.wa,_,rfl,?_⟩
  by_cases hi:1<=i/\i<=s.procs.length
  case neg =>
   rw[ux hi] at e
   rw[e] at k
   refine nT hi ?_
   exact⟨by show 1<=sizeLine;decide,fun r hr=>k.one l hr⟩
  refine nF hi ?_
  obtain⟨j,p,rfl,hp,ei⟩:=vg hi
  rw[ei] at e
  dsimp only at e
  rw[e] at k hl
  dsimp only at k hl
  rw[List.length_cons] at hl
  obtain⟨pl,hpl⟩:=FQ l.ws hp
  obtain⟨r,pa⟩:=l.ws.wa.at_ j pl p hpl hp
  refine⟨_,rfl,ln,_,dx,_,_,rfl,l.ob,T.bS,T.aU,zl 0 uS rfl rfl,_,rfl,ln,_,dx,_,_,rfl,l.ob,T.bS,T.aU,zl 0 uS rfl rfl,W.w,W.dx,_,rfl,ob,zn (by decide +kernel),_,rfl,hv,W,s,j,pl,rfl,l.ws.wa,hpl,pl.p,_,pl.dx,_,_,rfl,pa.ob,T.ao,T.fS,zl 10 ck rfl rfl,hv,W,q,s,pl.sd,r.sv,p.said,rfl,l.ws,pa.sd,pa.EG,l.CC,hl,fun H' r c hr hr0=>k.same l c hr0 hr⟩
theorem vf (T:Tx w K mg A D):aS P w K mg base eV 6 A.eK D.eN ["self"] (Fz P w A K .air):=by
 refine T.rg.ok uY (fun vs H Q E h=>?_) (fun cdv A' outer s0 H vs Q E hr h=>?_)
 ·obtain⟨ln,dx,hv,W,q,s,rfl,_⟩:=h;rfl
 ·obtain⟨ln,dx,hv,W,q,s,rfl,l,hl,k⟩:=h
  refine⟨_,(ak (aF (aV (wy T) (hr.mono (by decide)) rfl T.sr T.nM.kp T.sD .nil aJ (aa (az (pv 0) rfl) ag)))),?_⟩
  have e:Ha09.step s .air=(s,(s.air.length:Int)::s.air.flatMap i8):=by
   rw[<-GL];rfl
  rw[e] at k hl
  dsimp only at k hl
  rw[List.length_cons] at hl
  exact⟨_,rfl,ln,_,dx,_,_,rfl,l.ob,T.bS,T.aU,zl 0 uS rfl rfl,hv,W,q,s,rfl,l.ws,l.CC,hl,fun H' r c hr hr0=>k.same l c hr0 hr⟩
theorem rT (T:Tx w K mg A D):aS P w K mg base eV 1 A.dh D.dq ["self"] (Fz P w A K .counts):=by
 refine T.ni.ok rR (fun vs H Q E h=>?_) (fun cdv A' outer s0 H vs Q E hr h=>?_)
 ·obtain⟨ln,dx,hv,W,q,s,rfl,_⟩:=h;rfl
 ·obtain⟨ln,dx,hv,W,q,s,rfl,l,hl,k⟩:=h
  refine⟨_,(ak (aF (bf (aa (az (az (pv 0) rfl) rfl) (aa (a9 aM rfl T.gc PySem.boot_len (aa (az (az (pv 0) rfl) rfl) ag)) (aa (a9 aM rfl T.gc PySem.boot_len (aa (az (az (pv 0) rfl) rfl) ag)) ag)))))),?_⟩
  have ob:=l.ws.wa.ob
  obtain⟨lv,hls,hlt⟩:=l.ws.wa.ls
  have k':jj P w A K H ln dx hv W q s s (Ha09.ints [s.time,s.procs.length,s.air.length]) Q:=k
  refine⟨_,rfl,ln,_,dx,_,_,rfl,l.ob,T.bS,T.aU,zl 0 uS rfl rfl,W.w,_,W.dx,_,_,rfl,ob,T.aL,T.dw,zl 3 mr rfl rfl,
   _,rfl,ln,_,dx,_,_,rfl,l.ob,T.bS,T.aU,zl 0 uS rfl rfl,W.w,_,W.dx,_,_,rfl,ob,T.aL,T.bg,zl 1 mr rfl rfl,W.ps,_,rfl,.inl (bM.of l.ws.wa.ps),
   _,rfl,ln,_,dx,_,_,rfl,l.ob,T.bS,T.aU,zl 0 uS rfl rfl,W.w,_,W.dx,_,_,rfl,ob,T.aL,T.br,zl 2 mr rfl rfl,W.ls,_,rfl,.inl (bM.of hls),by show 3<=sizeLine;decide,fun r hr=>?_⟩
  rw[List.length_map,l.ws.wa.len,Paired.length hlt]
  exact k'.same l (Ch.new hr) hr ae
end Bt
namespace Bt
open PySem PySem.Spec PyProof.Rows L2
open Ha09 (Val Pat Ctrl Proc Letter)
variable {P:Program} {w:World} {K:PySem.W.Frag} {mg:Str->Option Value} {base:Heap} {A:Ad} {D:Fg}
inductive Pt where
 | w
 | p
 | n (m:Nat)
 deriving DecidableEq
abbrev Rd:=List Nat->Option (T×List Nat)
def bj (gw gp:Rd):List Pt->List Nat->Option (List T×List Nat)
 | [],r=>some ([],r)
 | .w::ps,r=>(gw r).bind fun x=>(bj gw gp ps x.2).map fun y=>(x.1::y.1,y.2)
 | .p::ps,r=>(gp r).bind fun x=>(bj gw gp ps x.2).map fun y=>(x.1::y.1,y.2)
 | .n m::ps,r=>match r with
  | a::q=>if a<=m then (bj gw gp ps q).map fun y=>(.leaf (a:Int)::y.1,y.2) else none
  | []=>none
def xC:Nat->Option (List Pt)
 | 0=>some []
 | 1=>some []
 | 2=>some [.n 1000000]
 | 3=>some [.n 20]
 | 4=>some [.p,.p]
 | _=>none
def xD:Nat->Option (List Pt)
 | 0=>some [.n 1000000]
 | 1=>some [.n 20]
 | 2=>some [.w,.w]
 | 3=>some [.n 6,.w,.w]
 | 4=>some [.w,.w]
 | 5=>some [.w,.p,.w,.w]
 | 6=>some [.n 9,.w]
 | 7=>some [.p,.w,.p,.w]
 | 8=>some [.n 1000,.p,.w,.w]
 | 9=>some [.w,.w]
 | 10=>some [.n 9,.w]
 | 11=>some []
 | 12=>some [.w]
 | 13=>some [.w]
 | 14=>some [.w,.w]
 | 15=>some [.w]
 | _=>none
def jU:Nat->Rd
 | 0,_=>none
 | _+1,[]=>none
 | f+1,c::r=>(xC c).bind fun ps=>(bj (jU f) (jU f) ps r).map fun x=>(.node (.leaf (c:Int)::x.1),x.2)
def p8:Nat->Rd
 | 0,_=>none
 | _+1,[]=>none
 | f+1,c::r=>(xD c).bind fun ps=>(bj (p8 f) (jU 5) ps r).map fun x=>(.node (.leaf (c:Int)::x.1),x.2)
def eP (x:Pat×List Nat):T×List Nat:=(oh x.1,x.2)
def eE (x:Ha09.Expr×List Nat):T×List Nat:=(eL x.1,x.2)
theorem FH:∀(f:Nat) (l:List Nat),jU f l=(Ha09.readPat f l).map eP
 | 0,l=>rfl
 | f+1,[]=>rfl
 | f+1,c::r=>by
  have ih:=FH f
  match c with
  | 0=>rfl
  | 1=>rfl
  | 2 =>
   cases r with
   | nil=>rfl
   | cons n q =>
    show(if n<=1000000 then _ else none).map _=(if n<=1000000 then _ else none).map _
    split<;>rfl
  | 3 =>
   cases r with
   | nil=>rfl
   | cons n q =>
    show(if n<=20 then _ else none).map _=(if n<=20 then _ else none).map _
    split<;>rfl
  | 4 =>
   show(((jU f r).bind fun x=>((jU f x.2).bind fun y=>some ([y.1],y.2)).map fun y=>(x.1::y.1,y.2)).map _)=(((Ha09.readPat f r).bind fun x=>(Ha09.readPat f x.2).map fun y=>(Pat.pair x.1 y.1,y.2)).map eP)
   rw[ih r]
   cases h1:Ha09.readPat f r with
   | none=>rfl
   | some x =>
    show(((jU f x.2).bind fun y=>some ([y.1],y.2)).map _).map _=_
    rw[ih x.2]
    show _=((Ha09.readPat f x.2).map fun y=>(Pat.pair x.1 y.1,y.2)).map eP
    cases Ha09.readPat f x.2<;>rfl
  | n+5=>rfl
theorem rd1 {gw gp:Rd} {c:Nat} {r:List Nat} (k:Ha09.Expr->Ha09.Expr) (g:List Nat->Option (Ha09.Expr×List Nat)) (hg:∀l,gw l=(g l).map eE) (ts:List T) (hk:∀a,eL (k a)=.node (.leaf (c:Int)::(ts++[eL a]))) :
  ((bj gw gp [.w] r).map fun x=>(T.node (.leaf (c:Int)::(ts++x.1)),x.2))=((g r).map fun x=>(k x.1,x.2)).map eE:=by
 show(((gw r).bind fun x=>some ([x.1],x.2)).map _)=_
 rw[hg r]
 cases g r with
 | none=>rfl
 | some x=>show some (_,_)=some (eL (k x.1),_);rw[hk];rfl
theorem Jv {gw gp:Rd} {c:Nat} {r:List Nat} (k:Ha09.Expr->Ha09.Expr->Ha09.Expr) (g:List Nat->Option (Ha09.Expr×List Nat)) (hg:∀l,gw l=(g l).map eE) (ts:List T) (hk:∀a b,eL (k a b)=.node (.leaf (c:Int)::(ts++[eL a,eL b]))) :
  ((bj gw gp [.w,.w] r).map fun x=>(T.node (.leaf (c:Int)::(ts++x.1)),x.2))=((g r).bind fun x=>(g x.2).map fun y=>(k x.1 y.1,y.2)).map eE:=by
 show(((gw r).bind fun x=>((gw x.2).bind fun y=>some ([y.1],y.2)).map fun y=>(x.1::y.1,y.2)).map _)=_
 rw[hg r]
 cases g r with
 | none=>rfl
 | some x =>
  show((((gw x.2).bind fun y=>some ([y.1],y.2)).map fun y=>((eE x).1::y.1,y.2)).map _)=((g x.2).map fun y=>(k x.1 y.1,y.2)).map eE
  rw[hg x.2]
  cases g x.2 with
  | none=>rfl
  | some y=>show some (_,_)=some (eL (k x.1 y.1),_);rw[hk];rfl
theorem map_cons {gw gp:Rd} {ps:List Pt} {r:List Nat} {t:T} {ts:List T} {c:Int}:(((bj gw gp ps r).map fun y=>(t::y.1,y.2)).map fun x=>(T.node (.leaf c::(ts++x.1)),x.2))=((bj gw gp ps r).map fun x=>(T.node (.leaf c::((ts++[t])++x.1)),x.2)):=by
 cases bj gw gp ps r with
 | none=>rfl
 | some x=>simp
theorem Cs:∀(f:Nat) (l:List Nat),p8 f l=(Ha09.readExpr f l).map eE
 | 0,l=>rfl
 | f+1,[]=>rfl
 | f+1,c::r=>by
  have ih:=Cs f
  have ip:=FH 5
  match c with
  | 0 =>
   cases r with
   | nil=>rfl
   | cons n q =>
    show(if n<=1000000 then _ else none).map _=(if n<=1000000 then _ else none).map _
    split<;>rfl
  | 1 =>
   cases r with
   | nil=>rfl
   | cons n q =>
    show(if n<=20 then _ else none).map _=(if n<=20 then _ else none).map _
    split<;>rfl
  | 2=>exact Jv .pair (Ha09.readExpr f) ih [] (fun _ _=>rfl)
  | 4=>exact Jv .let_ (Ha09.readExpr f) ih [] (fun _ _=>rfl)
  | 9=>exact Jv .send (Ha09.readExpr f) ih [] (fun _ _=>rfl)
  | 14=>exact Jv .try_ (Ha09.readExpr f) ih [] (fun _ _=>rfl)
  | 11=>rfl
  | 12=>exact rd1 .watch (Ha09.readExpr f) ih [] (fun _=>rfl)
  | 13=>exact rd1 .raise (Ha09.readExpr f) ih [] (fun _=>rfl)
  | 15=>exact rd1 .say (Ha09.readExpr f) ih [] (fun _=>rfl)
  | 3 =>
   cases r with
   | nil=>rfl
   | cons n q =>
    show(if n<=6 then ((bj (p8 f) (jU 5) [.w,.w] q).map fun y=>(T.leaf (n:Int)::y.1,y.2)) else none).map _=(if n<=6 then _ else none).map _
    split
    ·exact(map_cons (ts:=[])).trans (Jv (.op n) (Ha09.readExpr f) ih [.leaf (n:Int)] (fun _ _=>rfl))
    ·rfl
  | 6 =>
   cases r with
   | nil=>rfl
   | cons n q =>
    show(if n<=9 then ((bj (p8 f) (jU 5) [.w] q).map fun y=>(T.leaf (n:Int)::y.1,y.2)) else none).map _=(if n<=9 then _ else none).map _
    split
    ·exact(map_cons (ts:=[])).trans (rd1 (.call n) (Ha09.readExpr f) ih [.leaf (n:Int)] (fun _=>rfl))
    ·rfl
  | 10 =>
   cases r with
   | nil=>rfl
   | cons n q =>
    show(if n<=9 then ((bj (p8 f) (jU 5) [.w] q).map fun y=>(T.leaf (n:Int)::y.1,y.2)) else none).map _=(if n<=9 then _ else none).map _
    split
    ·exact(map_cons (ts:=[])).trans (rd1 (.spawn n) (Ha09.readExpr f) ih [.leaf (n:Int)] (fun _=>rfl))
    ·rfl
  | 5 =>
   show(((p8 f r).bind fun x=>(((jU 5 x.2).bind fun p=>(bj (p8 f) (jU 5) [.w,.w] p.2).map fun y=>(p.1::y.1,y.2)).map fun y=>(x.1::y.1,y.2))).map _)=(((Ha09.readExpr f r).bind fun x=>(Ha09.readPat 5 x.2).bind fun p=>(Ha09.readExpr f p.2).bind fun a=>(Ha09.readExpr f a.2).map fun b=>(Ha09.Expr.case x.1 p.1 a.1 b.1,b.2)).map eE)
   rw[ih r]
   cases Ha09.readExpr f r with
   | none=>rfl
   | some x =>
    show((((jU 5 x.2).bind fun p=>(bj (p8 f) (jU 5) [.w,.w] p.2).map fun y=>(p.1::y.1,y.2)).map fun y=>(eL x.1::y.1,y.2)).map _)=(((Ha09.readPat 5 x.2).bind fun p=>(Ha09.readExpr f p.2).bind fun a=>(Ha09.readExpr f a.2).map fun b=>(Ha09.Expr.case x.1 p.1 a.1 b.1,b.2)).map eE)
    rw[ip x.2]
    cases Ha09.readPat 5 x.2 with
    | none=>rfl
    | some p =>
     have h:=Jv (gp:=jU 5) (c:=5) (r:=p.2) (fun a b=>.case x.1 p.1 a b) (Ha09.readExpr f) ih [eL x.1,oh p.1] (fun _ _=>rfl)
     refine Eq.trans ?_ h
     show((((bj (p8 f) (jU 5) [.w,.w] p.2).map fun y=>(oh p.1::y.1,y.2)).map fun y=>(eL x.1::y.1,y.2)).map _)=_
     cases bj (p8 f) (jU 5) [.w,.w] p.2<;>rfl
  | 8 =>
   cases r with
   | nil=>rfl
   | cons n q =>
    show(if n<=1000 then (((jU 5 q).bind fun p=>(bj (p8 f) (jU 5) [.w,.w] p.2).map fun y=>(p.1::y.1,y.2)).map fun y=>(T.leaf (n:Int)::y.1,y.2)) else none).map _=(if n<=1000 then ((Ha09.readPat 5 q).bind fun p=>(Ha09.readExpr f p.2).bind fun a=>(Ha09.readExpr f a.2).map fun b=>(Ha09.Expr.wait n p.1 a.1 b.1,b.2)) else none).map eE
    split
    ·rw[ip q]
     cases Ha09.readPat 5 q with
     | none=>rfl
     | some p =>
      have h:=Jv (gp:=jU 5) (c:=8) (r:=p.2) (fun a b=>.wait n p.1 a b) (Ha09.readExpr f) ih [.leaf (n:Int),oh p.1] (fun _ _=>rfl)
      refine Eq.trans ?_ h
      show((((bj (p8 f) (jU 5) [.w,.w] p.2).map fun y=>(oh p.1::y.1,y.2)).map fun y=>(T.leaf (n:Int)::y.1,y.2)).map _)=_
      cases bj (p8 f) (jU 5) [.w,.w] p.2<;>rfl
    ·rfl
  | 7 =>
   show(((jU 5 r).bind fun p=>(((p8 f p.2).bind fun x=>(((jU 5 x.2).bind fun q=>(bj (p8 f) (jU 5) [.w] q.2).map fun y=>(q.1::y.1,y.2)).map fun y=>(x.1::y.1,y.2))).map fun y=>(p.1::y.1,y.2))).map _)=(((Ha09.readPat 5 r).bind fun p=>(Ha09.readExpr f p.2).bind fun x=>(Ha09.readPat 5 x.2).bind fun q=>(Ha09.readExpr f q.2).map fun b=>(Ha09.Expr.recv p.1 x.1 q.1 b.1,b.2)).map eE)
   rw[ip r]
   cases Ha09.readPat 5 r with
   | none=>rfl
   | some p =>
    show((((p8 f p.2).bind fun x=>(((jU 5 x.2).bind fun q=>(bj (p8 f) (jU 5) [.w] q.2).map fun y=>(q.1::y.1,y.2)).map fun y=>(x.1::y.1,y.2))).map fun y=>(oh p.1::y.1,y.2)).map _)=(((Ha09.readExpr f p.2).bind fun x=>(Ha09.readPat 5 x.2).bind fun q=>(Ha09.readExpr f q.2).map fun b=>(Ha09.Expr.recv p.1 x.1 q.1 b.1,b.2)).map eE)
    rw[ih p.2]
    cases Ha09.readExpr f p.2 with
    | none=>rfl
    | some x =>
     show(((((jU 5 x.2).bind fun q=>(bj (p8 f) (jU 5) [.w] q.2).map fun y=>(q.1::y.1,y.2)).map fun y=>(eL x.1::y.1,y.2)).map fun y=>(oh p.1::y.1,y.2)).map _)=(((Ha09.readPat 5 x.2).bind fun q=>(Ha09.readExpr f q.2).map fun b=>(Ha09.Expr.recv p.1 x.1 q.1 b.1,b.2)).map eE)
     rw[ip x.2]
     cases Ha09.readPat 5 x.2 with
     | none=>rfl
     | some q =>
      have h:=rd1 (gp:=jU 5) (c:=7) (r:=q.2) (fun b=>.recv p.1 x.1 q.1 b) (Ha09.readExpr f) ih [oh p.1,eL x.1,oh q.1] (fun _=>rfl)
      refine Eq.trans ?_ h
      show(((((bj (p8 f) (jU 5) [.w] q.2).map fun y=>(oh q.1::y.1,y.2)).map fun y=>(eL x.1::y.1,y.2)).map fun y=>(oh p.1::y.1,y.2)).map _)=_
      cases bj (p8 f) (jU 5) [.w] q.2<;>rfl
  | n+16=>rfl
end Bt
namespace Bt
open PySem PySem.Spec PyProof.Rows L2
open Ha09 (Val Pat Ctrl Proc Letter)
theorem nU {gw gp:Rd} (hw:∀l t r,gw l=some (t,r)->r.length<=l.length) (hp:∀l t r,gp l=some (t,r)->r.length<=l.length):∀(ps:List Pt) (l:List Nat) (ts:List T) (r:List Nat),bj gw gp ps l=some (ts,r)->r.length<=l.length
 | [],l,ts,r,h=>by cases h;exact Nat.le_refl _
 | .w::ps,l,ts,r,h=>by
  obtain⟨x,h1,h2⟩:=Option.bind_eq_some_iff.mp h
  obtain⟨y,h3,h4⟩:=Option.map_eq_some_iff.mp h2
  cases h4
  exact Nat.le_trans (nU hw hp ps _ _ _ h3) (hw _ _ _ h1)
 | .p::ps,l,ts,r,h=>by
  obtain⟨x,h1,h2⟩:=Option.bind_eq_some_iff.mp h
  obtain⟨y,h3,h4⟩:=Option.map_eq_some_iff.mp h2
  cases h4
  exact Nat.le_trans (nU hw hp ps _ _ _ h3) (hp _ _ _ h1)
 | .n m::ps,l,ts,r,h=>by
  cases l with
  | nil=>cases h
  | cons a q =>
   have h:(if a<=m then (bj gw gp ps q).map fun y=>(T.leaf (a:Int)::y.1,y.2) else none)=some (ts,r):=h
   split at h
   ·obtain⟨y,h3,h4⟩:=Option.map_eq_some_iff.mp h
    cases h4
    have:=nU hw hp ps _ _ _ h3
    rw[List.length_cons];omega
   ·cases h
theorem Cu:∀(f:Nat) (l:List Nat) (t:T) (r:List Nat),jU f l=some (t,r)->r.length<l.length
 | 0,l,t,r,h=>by cases h
 | f+1,[],t,r,h=>by cases h
 | f+1,c::l,t,r,h=>by
  obtain⟨ps,_,h2⟩:=Option.bind_eq_some_iff.mp h
  obtain⟨y,h3,h4⟩:=Option.map_eq_some_iff.mp h2
  cases h4
  have:=nU (fun l t r h=>Nat.le_of_lt (Cu f l t r h)) (fun l t r h=>Nat.le_of_lt (Cu f l t r h)) ps _ _ _ h3
  rw[List.length_cons];omega
theorem FG:∀(f:Nat) (l:List Nat) (t:T) (r:List Nat),p8 f l=some (t,r)->r.length<l.length
 | 0,l,t,r,h=>by cases h
 | f+1,[],t,r,h=>by cases h
 | f+1,c::l,t,r,h=>by
  obtain⟨ps,_,h2⟩:=Option.bind_eq_some_iff.mp h
  obtain⟨y,h3,h4⟩:=Option.map_eq_some_iff.mp h2
  cases h4
  have:=nU (fun l t r h=>Nat.le_of_lt (FG f l t r h)) (fun l t r h=>Nat.le_of_lt (Cu 5 l t r h)) ps _ _ _ h3
  rw[List.length_cons];omega
theorem CB:∀(f:Nat) (l:List Nat) (p:Pat) (r:List Nat),Ha09.readPat f l=some (p,r)->vG p+1<=2 ^ f
 | 0,l,p,r,h=>by cases h
 | f+1,[],p,r,h=>by cases h
 | f+1,c::l,p,r,h=>by
  have two:2<=2 ^ (f+1):=by rw[Nat.pow_succ];have:=Nat.one_le_two_pow (n:=f);omega
  match c with
  | 0=>cases h;exact two
  | 1=>cases h;exact two
  | 2 =>
   cases l with
   | nil=>cases h
   | cons n q =>
    have h:(if n<=1000000 then some (Pat.num n,q) else none)=some (p,r):=h
    split at h
    ·cases h;exact two
    ·cases h
  | 3 =>
   cases l with
   | nil=>cases h
   | cons n q =>
    have h:(if n<=20 then some (Pat.same n,q) else none)=some (p,r):=h
    split at h
    ·cases h;exact two
    ·cases h
  | 4 =>
   obtain⟨x,h1,h2⟩:=Option.bind_eq_some_iff.mp (show(Ha09.readPat f l).bind _=_ from h)
   obtain⟨y,h3,h4⟩:=Option.map_eq_some_iff.mp h2
   cases h4
   have i1:=CB f _ _ _ h1
   have i2:=CB f _ _ _ h3
   show vG x.1+vG y.1+1+1<=_
   rw[Nat.pow_succ];omega
  | n+5=>cases h
theorem Dy {l:List Nat} {x:Pat×List Nat} (h:Ha09.readPat 5 l=some x):vG x.1<=31:=by have:=CB 5 l x.1 x.2 h;omega
theorem lO {α β:Type} {o:Option (Ha09.Expr×α)} {k:Ha09.Expr->β} {e:β} {r:α} (h:(o.map fun x=>(k x.1,x.2))=some (e,r)):∃a,o=some (a,r)/\e=k a:=by
 obtain⟨x,h1,h2⟩:=Option.map_eq_some_iff.mp h
 cases h2
 exact⟨x.1,h1,rfl⟩
theorem DO:∀(f:Nat) (l:List Nat) (e:Ha09.Expr) (r:List Nat),Ha09.readExpr f l=some (e,r)->vB e/\b7 e<=f
 | 0,l,e,r,h=>by cases h
 | f+1,[],e,r,h=>by cases h
 | f+1,c::l,e,r,h=>by
  have ih:=DO f
  have two:∀{k:Ha09.Expr->Ha09.Expr->Ha09.Expr} {l:List Nat} {e:Ha09.Expr} {r:List Nat},((Ha09.readExpr f l).bind fun x=>(Ha09.readExpr f x.2).map fun y=>(k x.1 y.1,y.2))=some (e,r)->∃a b,e=k a b/\(vB a/\b7 a<=f)/\(vB b/\b7 b<=f):=fun {k l e r} h=>by
   obtain⟨x,h1,h2⟩:=Option.bind_eq_some_iff.mp h
   obtain⟨b,h3,rfl⟩:=lO h2
   exact⟨x.1,b,rfl,ih _ _ _ h1,ih _ _ _ h3⟩
  match c with
  | 0 =>
   cases l with
   | nil=>cases h
   | cons n q =>
    have h:(if n<=1000000 then some (Ha09.Expr.num n,q) else none)=some (e,r):=h
    split at h
    ·cases h;exact⟨⟨by omega,by omega⟩,by show 1<=f+1;omega⟩
    ·cases h
  | 1 =>
   cases l with
   | nil=>cases h
   | cons n q =>
    have h:(if n<=20 then some (Ha09.Expr.var n,q) else none)=some (e,r):=h
    split at h
    ·cases h;exact⟨trivial,by show 1<=f+1;omega⟩
    ·cases h
  | 2=>obtain⟨a,b,rfl,⟨a1,a2⟩,⟨b1,b2⟩⟩:=two (k:=.pair) h;exact⟨⟨a1,b1⟩,by show max _ _+1<=_;omega⟩
  | 4=>obtain⟨a,b,rfl,⟨a1,a2⟩,⟨b1,b2⟩⟩:=two (k:=.let_) h;exact⟨⟨a1,b1⟩,by show max _ _+1<=_;omega⟩
  | 9=>obtain⟨a,b,rfl,⟨a1,a2⟩,⟨b1,b2⟩⟩:=two (k:=.send) h;exact⟨⟨a1,b1⟩,by show max _ _+1<=_;omega⟩
  | 14=>obtain⟨a,b,rfl,⟨a1,a2⟩,⟨b1,b2⟩⟩:=two (k:=.try_) h;exact⟨⟨a1,b1⟩,by show max _ _+1<=_;omega⟩
  | 11=>cases h;exact⟨trivial,by show 1<=f+1;omega⟩
  | 12=>obtain⟨a,h1,rfl⟩:=lO (k:=Ha09.Expr.watch) h;obtain⟨a1,a2⟩:=ih _ _ _ h1;exact⟨a1,by show b7 a+1<=_;omega⟩
  | 13=>obtain⟨a,h1,rfl⟩:=lO (k:=Ha09.Expr.raise) h;obtain⟨a1,a2⟩:=ih _ _ _ h1;exact⟨a1,by show b7 a+1<=_;omega⟩
  | 15=>obtain⟨a,h1,rfl⟩:=lO (k:=Ha09.Expr.say) h;obtain⟨a1,a2⟩:=ih _ _ _ h1;exact⟨a1,by show b7 a+1<=_;omega⟩
  | 3 =>
   cases l with
   | nil=>cases h
   | cons n q =>
    have h:(if n<=6 then ((Ha09.readExpr f q).bind fun x=>(Ha09.readExpr f x.2).map fun y=>(Ha09.Expr.op n x.1 y.1,y.2)) else none)=some (e,r):=h
    split at h
    ·next hn=>obtain⟨a,b,rfl,⟨a1,a2⟩,⟨b1,b2⟩⟩:=two (k:=.op n) h;exact⟨⟨hn,a1,b1⟩,by show max _ _+1<=_;omega⟩
    ·cases h
  | 6 =>
   cases l with
   | nil=>cases h
   | cons n q =>
    have h:(if n<=9 then ((Ha09.readExpr f q).map fun x=>(Ha09.Expr.call n x.1,x.2)) else none)=some (e,r):=h
    split at h
    ·obtain⟨a,h1,rfl⟩:=lO (k:=Ha09.Expr.call n) h;obtain⟨a1,a2⟩:=ih _ _ _ h1;exact⟨a1,by show b7 a+1<=_;omega⟩
    ·cases h
  | 10 =>
   cases l with
   | nil=>cases h
   | cons n q =>
    have h:(if n<=9 then ((Ha09.readExpr f q).map fun x=>(Ha09.Expr.spawn n x.1,x.2)) else none)=some (e,r):=h
    split at h
    ·obtain⟨a,h1,rfl⟩:=lO (k:=Ha09.Expr.spawn n) h;obtain⟨a1,a2⟩:=ih _ _ _ h1;exact⟨a1,by show b7 a+1<=_;omega⟩
    ·cases h
  | 5 =>
   obtain⟨x,h1,h2⟩:=Option.bind_eq_some_iff.mp (show(Ha09.readExpr f l).bind _=_ from h)
   obtain⟨p,h3,h4⟩:=Option.bind_eq_some_iff.mp h2
   obtain⟨x1,x2⟩:=ih _ _ _ h1
   obtain⟨a,b,rfl,⟨a1,a2⟩,⟨b1,b2⟩⟩:=two (k:=.case x.1 p.1) h4
   exact⟨⟨x1,Dy h3,a1,b1⟩,by show max _ (max _ _)+1<=_;omega⟩
  | 8 =>
   cases l with
   | nil=>cases h
   | cons n q =>
    have h:(if n<=1000 then ((Ha09.readPat 5 q).bind fun p=>(Ha09.readExpr f p.2).bind fun x=>(Ha09.readExpr f x.2).map fun y=>(Ha09.Expr.wait n p.1 x.1 y.1,y.2)) else none)=some (e,r):=h
    split at h
    ·obtain⟨p,h3,h4⟩:=Option.bind_eq_some_iff.mp h
     obtain⟨a,b,rfl,⟨a1,a2⟩,⟨b1,b2⟩⟩:=two (k:=.wait n p.1) h4
     exact⟨⟨Dy h3,a1,b1⟩,by show max _ _+1<=_;omega⟩
    ·cases h
  | 7 =>
   obtain⟨p,h1,h2⟩:=Option.bind_eq_some_iff.mp (show(Ha09.readPat 5 l).bind _=_ from h)
   obtain⟨x,h3,h4⟩:=Option.bind_eq_some_iff.mp h2
   obtain⟨q,h5,h6⟩:=Option.bind_eq_some_iff.mp h4
   obtain⟨b,h7,rfl⟩:=lO (k:=fun b=>Ha09.Expr.recv p.1 x.1 q.1 b) h6
   obtain⟨x1,x2⟩:=ih _ _ _ h3
   obtain⟨b1,b2⟩:=ih _ _ _ h7
   exact⟨⟨Dy h1,x1,Dy h5,b1⟩,by show max _ _+1<=_;omega⟩
  | n+16=>cases h
end Bt
namespace Bt
open PySem PySem.Spec PyProof.Rows L2
open Ha09 (Val Pat Ctrl Proc Letter)
variable {P:Program} {w:World} {K:PySem.W.Frag} {mg:Str->Option Value} {base:Heap} {A:Ad} {D:Fg}
def nv (l:List Nat):List V:=l.map fun(n:Nat)=>V.int (n:Int)
structure RS (A:Ad) (H:Hp) (ro dx la:Addr) (nums:List Nat) (pl:Nat):Prop where
 ob:H ro=some (.ins A.bN dx (RN.zip [.ref la,.int (pl:Int)]))
 ls:H la=some (.lst (nv nums))
 le:pl<=nums.length
 sz:nums.length<=100000
theorem RS.ne {H:Hp} {ro dx la:Addr} {nums:List Nat} {pl:Nat} (h:RS A H ro dx la nums pl):la≠ro:=fun e=>by
 have h1:=h.ls;rw[e,h.ob] at h1;cases h1
theorem RS.mono {H H':Hp} {ro dx la:Addr} {nums:List Nat} {pl:Nat} {ex:List Addr} (h:RS A H ro dx la nums pl) (c:Ch ex H H') (h1:ro∉ex) (h2:la∉ex):RS A H' ro dx la nums pl:=⟨c.fr _ _ h.ob h1,c.fr _ _ h.ls h2,h.le,h.sz⟩
inductive Ee (A:Ad) (vs:List V) (H:Hp) (Q:VK):Prop|mk (ro dx la:Addr) (nums:List Nat) (pl:Nat):vs=[.ref ro]->RS A H ro dx la nums pl->Q (.bl (decide (nums.drop pl=[]))) H->Ee A vs H Q
def Jr (A:Ad):Sp:=fun vs H Q _=>Ee A vs H Q
theorem mO (T:Tx w K mg A D):aS P w K mg base eV 1 A.dW D.dZ ["self"] (Jr A):=by
 refine T.pT.ok t8 (fun vs H Q E h=>?_) (fun cdv A' outer s0 H vs Q E hr h=>?_)
 ·obtain⟨ro,dx,la,nums,pl,rfl,_⟩:=h;rfl
 ·obtain⟨ro,dx,la,nums,pl,rfl,r,k⟩:=h
  refine⟨_,(ak (aF (qz (bc (az (pv 0) rfl) (a9 aM rfl T.gc PySem.boot_len (aa (az (pv 0) rfl) ag)))))),?_⟩
  refine⟨_,rfl,ro,_,dx,_,_,rfl,r.ob,T.de,T.fR,zl 1 II rfl rfl,_,rfl,ro,_,dx,_,_,rfl,r.ob,T.de,T.fj,zl 0 II rfl rfl,la,_,rfl,.inl (bM.of r.ls),_,_,rfl,rfl,?_⟩
  have hl:(nv nums).length=nums.length:=by unfold nv;simp
  rw[hl]
  have e:decide ((pl:Int)=(nums.length:Int))=decide (nums.drop pl=[]):=decide_eq_decide.mpr (by rw[List.drop_eq_nil_iff];have:=r.le;omega)
  rw[<-e] at k;exact k
inductive BR (A:Ad) (vs:List V) (H:Hp) (Q:VK) (E:XK):Prop|mk (ro dx la:Addr) (nums:List Nat) (pl m:Nat):vs=[.ref ro,.int (m:Int)]->RS A H ro dx la nums pl->(∀n q,nums.drop pl=n::q->n<=m->∀H',RS A H' ro dx la nums (pl+1)->nums.drop (pl+1)=q->Ch [ro] H H'->Q (.int (n:Int)) H')->((∀n q,nums.drop pl=n::q->m<n)->E (.ref A.fg) none H)->BR A vs H Q E
def G8 (A:Ad):Sp:=fun vs H Q E=>BR A vs H Q E
theorem i5 (T:Tx w K mg A D):aS P w K mg base (wg P w) 2 A.gF D.gL ["self","most"] (G8 A):=by
 refine T.uP.ES xl (fun vs H Q E h=>?_) (fun cdv A' outer s0 H vs Q E hr hp h=>?_)
 ·obtain⟨ro,dx,la,nums,pl,m,rfl,_⟩:=h;rfl
 ·obtain⟨ro,dx,la,nums,pl,m,rfl,r,kS,kE⟩:=h
  refine⟨_,(ah (aW (PW.pt (xr (fW (gf (pv 0) T.de T.kn (mO T) (hr.mono (by decide)) T.ko .nil aJ)) (sY (aO (nV (aK bI (az (pv 0) rfl) (az (pv 0) rfl) (fun _ _=>rfl)) (pv 1)))))) (ak (u5 T.gT hr)) aT)
   (ah (u6 (pv 0) aq CS)
   (ak (aF (aK bI (az (pv 0) rfl) (eT tj (az (pv 0) rfl) aq) (fun _ _=>rfl)))))),?_⟩
  refine⟨_,rfl,ro,dx,_,rfl,r.ob,zn (by decide +kernel),ro,dx,la,nums,pl,rfl,r,_,rfl,?_⟩
  refine d2 (fun h=>?_) fun h=>?_
  ·refine oY ?_
   exact kE fun n q e=>by rw[e] at h;cases h
  ·obtain⟨n,q,e⟩:∃n q,nums.drop pl=n::q:=by
    cases hd:nums.drop pl with
    | nil=>exact absurd hd h
    | cons n q=>exact⟨n,q,rfl⟩
   have hlt:pl<nums.length:=by
    have:=congrArg List.length e
    simp at this;omega
   have hn:nums[pl]?=some n:=by
    have:=congrArg (fun l=>l[0]?) e
    simpa using this
   have hq:nums.drop (pl+1)=q:=by rw[List.drop_eq_getElem_cons hlt] at e;exact(List.cons.inj e).2
   have hv:(nv nums)[pl]?=some (.int (n:Int)):=by unfold nv;rw[List.getElem?_map,hn];rfl
   have sz:=r.sz
   refine⟨_,rfl,ro,_,dx,_,_,rfl,r.ob,T.de,T.fj,zl 0 II rfl rfl,_,rfl,ro,_,dx,_,_,rfl,r.ob,T.de,T.fR,zl 1 II rfl rfl,la,_,_,_,rfl,rfl,bM.of r.ls,at_of (j:=pl) rfl hv,_,rfl,_,_,rfl,rfl,_,rfl,?_⟩
   refine d2 (fun h1=>?_) fun h1=>?_
   ·exact kE fun n' q' e'=>by rw[e] at e';cases e';omega
   ·refine⟨_,rfl,ro,_,dx,_,_,rfl,r.ob,T.de,T.fR,zl 1 II rfl rfl,_,_,rfl,rfl,dx,_,r.ob,(by show 2<1000;decide),?_⟩
    rw[zp 1 II rfl (by show 1<2;decide)]
    generalize hH1:upd H ro _=H1
    have c1:Ch [ro] H H1:=by rw[<-hH1];exact Ch.put r.ob trivial (by simp)
    have o1:H1 ro=some (.ins A.bN dx (RN.zip [.ref la,.int ((pl+1:Nat):Int)])):=by rw[<-hH1];exact ae
    have l1:=c1.fr _ _ r.ls (by simp[r.ne])
    refine⟨_,rfl,ro,_,dx,_,_,rfl,o1,T.de,T.fj,zl 0 II rfl rfl,_,rfl,ro,_,dx,_,_,rfl,o1,T.de,T.fR,zl 1 II rfl rfl,_,_,rfl,rfl,la,_,_,_,rfl,rfl,bM.of l1,at_of (j:=pl) (by show((pl+1:Nat):Int)-1=_;omega) hv,?_⟩
    exact kS n q e (by omega) H1 ⟨o1,l1,by omega,sz⟩ hq c1
inductive BW (A:Ad) (vs:List V) (H:Hp) (Q:VK):Prop|mk (ro dx la:Addr) (nums:List Nat):vs=[.ref ro,.ref la]->H ro=some (.ins A.bN dx [])->H la=some (.lst (nv nums))->nums.length<=100000->(∀H',RS A H' ro dx la nums 0->Ch [ro] H H'->Q .bo H')->BW A vs H Q
def Hc (A:Ad):Sp:=fun vs H Q _=>BW A vs H Q
theorem xF (T:Tx w K mg A D):aS P w K mg base eV 1 A.gG D.gM ["self","numbers"] (Hc A):=by
 refine T.uQ.ok xm (fun vs H Q E h=>?_) (fun cdv A' outer s0 H vs Q E hr h=>?_)
 ·obtain⟨ro,dx,la,nums,rfl,_⟩:=h;rfl
 ·obtain⟨ro,dx,la,nums,rfl,ho,hl,hz,k⟩:=h
  refine⟨_,(ah (aY (pv 0) (pv 1) rfl)
   (ak (aY (pv 0) aq rfl))),?_⟩
  refine⟨_,rfl,_,rfl,ro,_,dx,_,rfl,ho,T.de,T.fj,(by show 0<1000;decide),?_⟩
  generalize hH1:upd H ro _=H1
  have c1:Ch [ro] H H1:=by rw[<-hH1];exact Ch.put ho trivial (by simp)
  have o1:H1 ro=some (.ins A.bN dx ((["numbers"]:List Str).zip [.ref la])):=by rw[<-hH1];exact ae
  refine⟨_,rfl,ro,_,dx,_,rfl,o1,T.de,T.fR,(by show 1<1000;decide),?_⟩
  rw[zs (by decide +kernel) rfl]
  generalize hH2:upd H1 ro _=H2
  have c2:Ch [ro] H1 H2:=by rw[<-hH2];exact Ch.put o1 trivial (by simp)
  have o2:H2 ro=some (.ins A.bN dx (RN.zip [.ref la,.int ((0:Nat):Int)])):=by rw[<-hH2];exact ae
  have ne:la≠ro:=fun e=>by rw[e,ho] at hl;cases hl
  exact k H2 ⟨o2,(c1.trans c2).fr _ _ hl (by simp[ne]),by omega,hz⟩ (c1.trans c2)
theorem z6 {X:Cx} {x:Str} {a:Addr} {pos:Pos} (h:X.mg x=some (.ref a)) (hg:Gl X x:=by rfl) (hd:(x==("__debug__" : Str))=false:=by decide):PE X (.Name x pos) (tC (.ref a)):=Dx (v:=V.ref a) hg h rfl hd
theorem DK {x:Str} {g:TG} {tb:TS} {D:Ends} {σ:L2.St} {H:Hp} (Pv:Nat->L2.St->Hp->Prop) (h0:Pv 0 σ H)
  (hs:∀i c σ H,x.cps[i]?=some c->Pv i σ H->g (.str ⟨#[c]⟩) σ H fun σ2 H2=>tb {D with nx:=Pv (i+1),ct:=Pv (i+1),bk:=D.nx} σ2 H2) (hd:∀σ H,Pv x.cps.size σ H->D.nx σ H) :
  ∃W:Nat->Nat->L2.St->Hp->Prop,(∃m,W 0 m σ H)/\∀i m σ H,W i m σ H ->
   ((Its x).stop i H/\D.nx σ H)\/((Its x).go i H/\∃N:L2.St->Hp->Prop,(∀σ' H',N σ' H'->∃m',m'<m/\W (i+1) m' σ' H')/\∀y H',(Its x).GY i H y H'->g y σ H' fun σ2 H2=>tb {D with nx:=N,ct:=N,bk:=D.nx} σ2 H2):=by
 refine⟨fun i m σ H=>m=x.cps.size-i/\i<=x.cps.size/\Pv i σ H,⟨x.cps.size,by simp,Nat.zero_le _,h0⟩,?_⟩
 rintro i m σ H ⟨rfl,hi,p⟩
 by_cases hlt:i<x.cps.size
 ·refine .inr ⟨hlt,Pv (i+1),fun σ' H' p'=>⟨x.cps.size-(i+1),by omega,rfl,hlt,p'⟩,fun y H' hy=>?_⟩
  obtain⟨rfl,c,hc,rfl⟩:=hy
  exact hs i c σ _ hc p
 ·have e:i=x.cps.size:=by omega
  subst e
  exact .inl ⟨Nat.le_refl _,hd σ H p⟩
def AU (s:Str):Option Pt:=if s = "w" then some .w else if s = "p" then some .p else if s = "n" then some (.n 1000000) else if s = "i" then some (.n 20) else if s = "f" then some (.n 9) else if s = "k" then some (.n 6) else if s = "t" then some (.n 1000) else none
theorem Jx {s:Str} (h:AU s=some .w):s = "w" := by
 unfold AU at h
 split at h
 ·assumption
 ·repeat (split at h<;>try cases h)
theorem FJ {s:Str} (h:AU s=some .p):s = "p" := by
 unfold AU at h
 split at h
 ·cases h
 ·split at h
  ·assumption
  ·repeat (split at h<;>try cases h)
theorem FK {s:Str} {m:Nat} (A:Ad) (h:AU s=some (.n m)):s ≠ "w" /\ s ≠ "p" /\ qe (y8 A) (.inr s)=some (.int (m:Int)):=by
 unfold AU at h
 split at h
 ·cases h
 ·next h1 =>
  split at h
  ·cases h
  ·next h2 =>
   refine⟨h1,h2,?_⟩
   split at h
   ·next h3=>cases h;subst h3;rfl
   ·split at h
    ·next h3=>cases h;subst h3;rfl
    ·split at h
     ·next h3=>cases h;subst h3;rfl
     ·split at h
      ·next h3=>cases h;subst h3;rfl
      ·split at h
       ·next h3=>cases h;subst h3;rfl
       ·cases h
def eQ (x:Str) (ps:List Pt):Prop:=x.cps.toList.map (fun c=>AU ⟨#[c]⟩)=ps.map some
theorem eQ.at_ {x:Str} {ps:List Pt} (h:eQ x ps) {i c:Nat} (hc:x.cps[i]?=some c):∃t,ps[i]?=some t/\AU ⟨#[c]⟩=some t:=by
 have h1:=congrArg (fun l=>l[i]?) h
 rw[List.getElem?_map,List.getElem?_map,Array.getElem?_toList,hc] at h1
 cases hp:ps[i]? with
 | none=>rw[hp] at h1;cases h1
 | some t=>rw[hp] at h1;exact⟨t,rfl,Option.some.inj h1⟩
theorem eQ.len {x:Str} {ps:List Pt} (h:eQ x ps):x.cps.size=ps.length:=by
 have:=congrArg List.length h
 simpa using this
theorem G0 (A:Ad):∀c:Nat,c<=4->∃x ps,qe (pM A) (.inl (c:Int))=some (.str x)/\xC c=some ps/\eQ x ps/\ps.length<=4/\Pt.w∉ps
 | 0,_=>⟨"",_,rfl,rfl,by unfold eQ;decide +kernel,by decide,by decide⟩
 | 1,_=>⟨"",_,rfl,rfl,by unfold eQ;decide +kernel,by decide,by decide⟩
 | 2,_=>⟨"n",_,rfl,rfl,by unfold eQ;decide +kernel,by decide,by decide⟩
 | 3,_=>⟨"i",_,rfl,rfl,by unfold eQ;decide +kernel,by decide,by decide⟩
 | 4,_=>⟨"pp",_,rfl,rfl,by unfold eQ;decide +kernel,by decide,by decide⟩
 | n+5,h=>by omega
theorem G1 (A:Ad):∀c:Nat,c<=15->∃x ps,qe (DE A) (.inl (c:Int))=some (.str x)/\xD c=some ps/\eQ x ps/\ps.length<=4
 | 0,_=>⟨"n",_,rfl,rfl,by unfold eQ;decide +kernel,by decide⟩
 | 1,_=>⟨"i",_,rfl,rfl,by unfold eQ;decide +kernel,by decide⟩
 | 2,_=>⟨"ww",_,rfl,rfl,by unfold eQ;decide +kernel,by decide⟩
 | 3,_=>⟨"kww",_,rfl,rfl,by unfold eQ;decide +kernel,by decide⟩
 | 4,_=>⟨"ww",_,rfl,rfl,by unfold eQ;decide +kernel,by decide⟩
 | 5,_=>⟨"wpww",_,rfl,rfl,by unfold eQ;decide +kernel,by decide⟩
 | 6,_=>⟨"fw",_,rfl,rfl,by unfold eQ;decide +kernel,by decide⟩
 | 7,_=>⟨"pwpw",_,rfl,rfl,by unfold eQ;decide +kernel,by decide⟩
 | 8,_=>⟨"tpww",_,rfl,rfl,by unfold eQ;decide +kernel,by decide⟩
 | 9,_=>⟨"ww",_,rfl,rfl,by unfold eQ;decide +kernel,by decide⟩
 | 10,_=>⟨"fw",_,rfl,rfl,by unfold eQ;decide +kernel,by decide⟩
 | 11,_=>⟨"",_,rfl,rfl,by unfold eQ;decide +kernel,by decide⟩
 | 12,_=>⟨"w",_,rfl,rfl,by unfold eQ;decide +kernel,by decide⟩
 | 13,_=>⟨"w",_,rfl,rfl,by unfold eQ;decide +kernel,by decide⟩
 | 14,_=>⟨"ww",_,rfl,rfl,by unfold eQ;decide +kernel,by decide⟩
 | 15,_=>⟨"w",_,rfl,rfl,by unfold eQ;decide +kernel,by decide⟩
 | n+16,h=>by omega
theorem A4:∀c:Nat,4<c->xC c=none
 | 0,h=>by omega
 | 1,h=>by omega
 | 2,h=>by omega
 | 3,h=>by omega
 | 4,h=>by omega
 | n+5,_=>rfl
theorem A5 {c:Nat} (h:15<c):xD c=none:=by
 obtain⟨n,rfl⟩:∃n,c=n+16:=⟨c-16,by omega⟩
 rfl
def Left (gw gp:Rd) (ps:List Pt) (r0:List Nat) (i:Nat) (ts:List T) (r:List Nat):Prop:=bj gw gp ps r0=(bj gw gp (ps.drop i) r).map fun y=>(ts++y.1,y.2)
theorem Left.zero {gw gp:Rd} {ps:List Pt} {r0:List Nat}:Left gw gp ps r0 0 [] r0:=by
 unfold Left
 rw[List.drop_zero]
 cases bj gw gp ps r0<;>rfl
theorem DQ {α:Type} {l:List α} {i:Nat} {a:α} (h:l[i]?=some a):l.drop i=a::l.drop (i+1):=by
 obtain⟨hi,e⟩:=List.getElem?_eq_some_iff.mp h
 rw[List.drop_eq_getElem_cons hi,e]
theorem Left.sub {gw gp:Rd} {ps:List Pt} {r0 r r':List Nat} {i:Nat} {ts:List T} {t:T} {o:Option (T×List Nat)} (h:Left gw gp ps r0 i ts r) (hs:bj gw gp (ps.drop i) r=(o.bind fun x=>(bj gw gp (ps.drop (i+1)) x.2).map fun y=>(x.1::y.1,y.2))) (ho:o=some (t,r')):Left gw gp ps r0 (i+1) (ts++[t]) r':=by
 unfold Left at h ⊢
 rw[h,hs,ho]
 show((bj gw gp (ps.drop (i+1)) r').map _).map _=_
 cases bj gw gp (ps.drop (i+1)) r'<;>simp
theorem Left.bad {gw gp:Rd} {ps:List Pt} {r0 r:List Nat} {i:Nat} {ts:List T} (h:Left gw gp ps r0 i ts r) (hn:bj gw gp (ps.drop i) r=none):bj gw gp ps r0=none:=by
 unfold Left at h
 rw[h,hn];rfl
theorem Left.done {gw gp:Rd} {ps:List Pt} {r0 r:List Nat} {ts:List T} (h:Left gw gp ps r0 ps.length ts r):bj gw gp ps r0=some (ts,r):=by
 unfold Left at h
 rw[h,List.drop_length]
 show some (ts++[],r)=_
 simp
inductive IM (A:Ad) (K:PySem.W.Frag) (f d0:Nat) (rd:Rd) (vs:List V) (H:Hp) (Q:VK) (E:XK):Prop|mk (ro dx la:Addr) (nums:List Nat) (pl d:Nat):vs=[.ref ro,.int (d:Int)]->RS A H ro dx la nums pl->d+f=d0->(∀t r,rd (nums.drop pl)=some (t,r)->∀H' v pl',RS A H' ro dx la nums pl'->nums.drop pl'=r->Ch [ro] H H'->TR K H' v t->Q v H')->(rd (nums.drop pl)=none->∀H',Ch [ro] H H'->E (.ref A.fg) none H')->IM A K f d0 rd vs H Q E
def Co (A:Ad) (K:PySem.W.Frag) (f d0:Nat) (rd:Rd):Sp:=fun vs H Q E=>IM A K f d0 rd vs H Q E
structure Rdg (A:Ad) (K:PySem.W.Frag) (H Hi:Hp) (ro dx la wl:Addr) (nums:List Nat) (c pl':Nat) (vs:List V) (ts:List T):Prop where
 wl:Hi wl=some (.lst (.int (c:Int)::vs))
 tr:vm K Hi vs ts
 rs:RS A Hi ro dx la nums pl'
 ch:Ch [ro] H Hi
theorem vm.len {K:PySem.W.Frag} {H:Hp}:∀{vs:List V} {ts:List T},vm K H vs ts->vs.length=ts.length
 | _,_,.nil=>rfl
 | _,_,.cons _ r=>by rw[List.length_cons,List.length_cons,vm.len r]
theorem Rdg.next {H Hi H2 H3:Hp} {ro dx la wl:Addr} {nums:List Nat} {c pl' pl2:Nat} {vs:List V} {ts:List T} {v:V} {t:T} (g:Rdg A K H Hi ro dx la wl nums c pl' vs ts) (hw:H wl=none) (hwro:wl≠ro) (hwla:wl≠la) (rs2:RS A H2 ro dx la nums pl2) (c2:Ch [ro] Hi H2) (tv:TR K H2 v t)
  (hH3:upd H2 wl (.lst ((.int (c:Int)::vs)++[v]))=H3):Rdg A K H H3 ro dx la wl nums c pl2 (vs++[v]) (ts++[t]):=by
 have w2:=c2.fr _ _ g.wl (by simp[hwro])
 have c3:Ch [wl] H2 H3:=by rw[<-hH3];exact Ch.put w2 trivial (by simp)
 refine⟨by rw[<-hH3,ae];rfl,(vm.snoc tv (g.tr.mono c2)).mono c3,rs2.mono c3 (by simp[hwro.symm]) (by simp[hwla.symm]),(g.ch.trans c2).trans' c3 (fun b hb=>.inr (by rw[List.mem_singleton.mp hb];exact hw))⟩
theorem F2 (T:Tx w K mg A D) (f k':Nat) (sp':Sp) (ih:aS P w K mg base (wg P w) k' A.bF D.bG ["self","depth"] sp') (hk:k'<=f+2) (hsp:∀g,f=g+1->sp'=Co A K g 6 (jU g)) (hf:f<=5) :
  aS P w K mg base (wg P w) (f+3) A.bF D.bG ["self","depth"] (Co A K f 6 (jU f)):=by
 refine T.ka.ES du (fun vs H Q E h=>?_) (fun cdv A' outer s0 H vs Q E hr hp h=>?_)
 ·obtain⟨ro,dx,la,nums,pl,d,rfl,_⟩:=h;rfl
 ·obtain⟨ro,dx,la,nums,pl,d,rfl,r,hd,kS,kE⟩:=h
  refine⟨_,(ah (aW (aO (nV (pv 1) (a8 T.nY))) (ak (u5 T.gT hr)) aT)
   (ah (aX (i:=2) du.nd rfl (Or.inl rfl) (aG (pv 0) T.de T.i7 (i5 T) (hr.mono (by omega)) T.je .nil lN (aa (eT tj (a9 (zk T.l0) rfl T.gc PySem.boot_len (aa (z6 T.lV) ag)) aq) ag)))
   (ah (aX (i:=3) du.nd rfl (Or.inl rfl) (bf (aa (pv 2) ag)))
   (ah (lL hp rfl (FR (kW T.l0 rfl T.lV (pv 2))) (gv (i:=4) du.nd rfl (Or.inl rfl)) (ak (aW (ue FZ (pv 4) z5 (vh _)) (ak (aI (dO PySem.F.plainAttrs_list PySem.F.slot_list_append PySem.F.type_list_append bJ (pv 3) (aa (aG (pv 0) T.de T.gi ih (hr.mono hk) T.gm .nil lN (aa (eT oV (pv 1) aq) ag)) ag)))) (ak (aI (dO PySem.F.plainAttrs_list PySem.F.slot_list_append PySem.F.type_list_append bJ (pv 3) (aa (aG (pv 0) T.de T.i7 (i5 T) (hr.mono (by omega)) T.je .nil lN (aa (kW T.uF rfl T.uB (pv 4)) ag)) ag)))))))
   (ak (aF (fk nG rfl T.zO boot_tuple (aa (pv 3) ag)))))))),?_⟩
  refine⟨_,rfl,_,_,rfl,rfl,_,rfl,?_⟩
  refine d2 (fun h=>?_) fun h=>?_
  ·have:f=0:=by omega
   subst this
   exact kE rfl H (Ch.refl _ _)
  obtain⟨g,rfl⟩:∃g,f=g+1:=⟨f-1,by omega⟩
  cases hsp g rfl
  have bad:(∀n q,nums.drop pl=n::q->4<n)->jU (g+1) (nums.drop pl)=none:=fun h=>by
   cases hd:nums.drop pl with
   | nil=>rfl
   | cons n q=>show(xC n).bind _=none;rw[A4 n (h n q hd)];rfl
  refine⟨_,rfl,ro,dx,_,rfl,r.ob,zn (by decide +kernel),rfl,_,_,rfl,rfl,ro,dx,la,nums,pl,4,rfl,r,fun c q hc hc4 H1 r1 hq c1=>?_,fun h=>kE (bad h) H (Ch.refl _ _)⟩
  obtain⟨x,ps,hx,hps,sp,hl4,hnw⟩:=G0 A c hc4
  refine⟨_,rfl,by show 1<=sizeLine;decide,fun wl hwl=>?_⟩
  generalize hH2:upd H1 wl _=H2
  have c2:Ch [] H1 H2:=by rw[<-hH2];exact Ch.new hwl
  have w2:H2 wl=some (.lst [.int (c:Int)]):=by rw[<-hH2];exact ae
  have hwro:wl≠ro:=(ay r1.ob hwl).symm
  have hwla:wl≠la:=(ay r1.ls hwl).symm
  have hwl0:H wl=none:=c1.free hwl (by simp[hwro])
  have erd:jU (g+1) (nums.drop pl)=(bj (jU g) (jU g) ps q).map fun x=>(.node (.leaf (c:Int)::x.1),x.2):=by
   rw[hc];show(xC c).bind _=_;rw[hps];rfl
  refine⟨_,rfl,.inl (c:Int),_,rfl,hx,x,rfl,DK (fun i σ Hi=>∃vs ts pl' o,σ=[some (.ref ro),some (.int (d:Int)),some (.int (c:Int)),some (.ref wl),o]/\Rdg A K H Hi ro dx la wl nums c pl' vs ts/\ts.length=i/\Left (jU g) (jU g) ps q i ts (nums.drop pl'))
   ⟨[],[],pl+1,none,rfl,⟨w2,.nil,r1.mono c2 (by simp) (by simp),c1.trans (c2.mono (by simp))⟩,rfl,by rw[hq];exact Left.zero⟩ ?_ ?_⟩
  ·rintro i ch σ Hi hch ⟨vs,ts,pl',o,rfl,G,hti,L⟩
   obtain⟨t,ht,hpt⟩:=sp.at_ hch
   have hil:=(List.getElem?_eq_some_iff.mp ht).1
   have hvl:=G.tr.len
   have hda:=DQ ht
   have hsz:(V.int (c:Int)::vs).length<sizeLine:=by rw[List.length_cons,sizeLine_eq];omega
   refine⟨_,rfl,rfl,_,rfl,?_⟩
   cases t with
   | w=>exact absurd (List.mem_of_getElem? ht) hnw
   | p =>
    have hs:=FJ hpt
    refine dT (by rw[hs]) ?_
    have es:bj (jU g) (jU g) (ps.drop i) (nums.drop pl')=((jU g (nums.drop pl')).bind fun x=>(bj (jU g) (jU g) (ps.drop (i+1)) x.2).map fun y=>(x.1::y.1,y.2)):=by rw[hda];rfl
    refine⟨_,rfl,.inl ⟨rfl,_,bM.of G.wl⟩,_,rfl,ro,dx,_,rfl,G.rs.ob,zn (by decide +kernel),_,rfl,_,_,rfl,rfl,ro,dx,la,nums,pl',d+1,rfl,G.rs,by omega,fun t r' htr H3 v pl2 rs3 hr3 c3 tv=>?_,fun hno H3 c3=>?_⟩
    ·refine⟨wl,_,_,rfl,rfl,c3.fr _ _ G.wl (by simp[hwro]),hsz,?_⟩
     generalize hH4:upd H3 wl _=H4
     refine⟨vs++[v],ts++[t],pl2,_,rfl,G.next hwl0 hwro hwla rs3 c3 tv hH4,by simp[hti],?_⟩
     rw[hr3]
     exact L.sub es htr
    ·refine kE ?_ H3 (G.ch.trans c3)
     rw[erd,L.bad (by rw[es,hno];rfl)];rfl
   | n m =>
    obtain⟨h1,h2,h3⟩:=FK A hpt
    refine dF (fun z=>h2 (V.str.inj z)) ?_
    refine⟨_,rfl,.inl ⟨rfl,_,bM.of G.wl⟩,_,rfl,ro,dx,_,rfl,G.rs.ob,zn (by decide +kernel),_,rfl,.inr ⟨#[ch]⟩,_,rfl,h3,ro,dx,la,nums,pl',m,rfl,G.rs,fun a q2 ha hle H3 rs3 hr3 c3=>?_,fun hno=>?_⟩
    ·refine⟨wl,_,_,rfl,rfl,c3.fr _ _ G.wl (by simp[hwro]),hsz,?_⟩
     generalize hH4:upd H3 wl _=H4
     refine⟨vs++[.int (a:Int)],ts++[.leaf (a:Int)],pl'+1,_,rfl,G.next hwl0 hwro hwla rs3 c3 .leaf hH4,by simp[hti],?_⟩
     rw[hr3]
     refine L.sub (o:=some (.leaf (a:Int),q2)) ?_ rfl
     rw[hda,ha]
     show(if a<=m then _ else none)=_
     rw[if_pos hle];rfl
    ·refine kE ?_ Hi G.ch
     rw[erd,L.bad ?_];rfl
     rw[hda]
     cases hd:nums.drop pl' with
     | nil=>rfl
     | cons a q2 =>
      show(if a<=m then _ else none)=_
      rw[if_neg (by have:=hno a q2 hd;omega)]
  ·rintro σ Hi ⟨vs,ts,pl',o,rfl,G,hti,L⟩
   rw[sp.len] at L
   refine⟨_,rfl,wl,_,rfl,.inl ⟨bM.of G.wl,fun tp htp=>?_⟩⟩
   have c4:Ch [] Hi (upd Hi tp (.tup (.int (c:Int)::vs))):=Ch.new htp
   have g4:(upd Hi tp (.tup (.int (c:Int)::vs))) tp=some (.tup (.int (c:Int)::vs)):=ae
   refine kS _ _ (by rw[erd,L.done];rfl) _ _ pl' (G.rs.mono c4 (by simp) (by simp)) rfl (G.ch.trans (c4.mono (by simp))) (.node (.inl g4) (.cons .leaf (G.tr.mono c4)))
theorem By {k:Nat} {f:Addr} {fd:FuncData} {ps:List Str}:aS P w K mg base (wg P w) k f fd ps (fun _ _ _ _=>False):=⟨fun _ _ _ _ h=>h.elim,fun _ _ _ _ _ _ _ _ _ _ _ _ _ h=>h.elim⟩
theorem Dz (T:Tx w K mg A D):∀f:Nat,f<=5->aS P w K mg base (wg P w) (f+3) A.bF D.bG ["self","depth"] (Co A K f 6 (jU f))
 | 0,h=>F2 T 0 0 _ By (by omega) (fun g e=>by omega) h
 | f+1,h=>F2 T (f+1) (f+3) _ (Dz T f (by omega)) (by omega) (fun g e=>by cases e;rfl) h
theorem Iu (T:Tx w K mg A D) (f k':Nat) (sp':Sp) (ih:aS P w K mg base (wg P w) k' A.bp D.bq ["self","depth"] sp') (hk:k'<=f+8) (hsp:∀g,f=g+1->sp'=Co A K g 21 (p8 g)) (hf:f<=20) :
  aS P w K mg base (wg P w) (f+9) A.bp D.bq ["self","depth"] (Co A K f 21 (p8 f)):=by
 refine T.j9.ES dt (fun vs H Q E h=>?_) (fun cdv A' outer s0 H vs Q E hr hp h=>?_)
 ·obtain⟨ro,dx,la,nums,pl,d,rfl,_⟩:=h;rfl
 ·obtain⟨ro,dx,la,nums,pl,d,rfl,r,hd,kS,kE⟩:=h
  refine⟨_,(ah (aW (aO (nV (pv 1) (a8 T.nX))) (ak (u5 T.gT hr)) aT)
   (ah (aX (i:=2) dt.nd rfl (Or.inl rfl) (aG (pv 0) T.de T.i7 (i5 T) (hr.mono (by omega)) T.je .nil lN (aa (eT tj (a9 (zk T.CZ) rfl T.gc PySem.boot_len (aa (z6 T.CT) ag)) aq) ag)))
   (ah (aX (i:=3) dt.nd rfl (Or.inl rfl) (bf (aa (pv 2) ag)))
   (ah (lL hp rfl (FR (kW T.CZ rfl T.CT (pv 2))) (gv (i:=4) dt.nd rfl (Or.inl rfl)) (ak (aW (ue FZ (pv 4) z5 (vh _)) (ak (aI (dO PySem.F.plainAttrs_list PySem.F.slot_list_append PySem.F.type_list_append bJ (pv 3) (aa (aG (pv 0) T.de T.gh ih (hr.mono hk) T.gk .nil lN (aa (eT oV (pv 1) aq) ag)) ag)))) (ak (aW (ue FZ (pv 4) z5 (vh _)) (ak (aI (dO PySem.F.plainAttrs_list PySem.F.slot_list_append PySem.F.type_list_append bJ (pv 3) (aa (aG (pv 0) T.de T.gi (Dz T 5 (by omega)) (hr.mono (by omega)) T.gm .nil lN (aa aq ag)) ag)))) (ak (aI (dO PySem.F.plainAttrs_list PySem.F.slot_list_append PySem.F.type_list_append bJ (pv 3) (aa (aG (pv 0) T.de T.i7 (i5 T) (hr.mono (by omega)) T.je .nil lN (aa (kW T.uF rfl T.uB (pv 4)) ag)) ag)))))))))
   (ak (aF (fk nG rfl T.zO boot_tuple (aa (pv 3) ag)))))))),?_⟩
  refine⟨_,rfl,_,_,rfl,rfl,_,rfl,?_⟩
  refine d2 (fun h=>?_) fun h=>?_
  ·have:f=0:=by omega
   subst this
   exact kE rfl H (Ch.refl _ _)
  obtain⟨g,rfl⟩:∃g,f=g+1:=⟨f-1,by omega⟩
  cases hsp g rfl
  have bad:(∀n q,nums.drop pl=n::q->15<n)->p8 (g+1) (nums.drop pl)=none:=fun h=>by
   cases hd:nums.drop pl with
   | nil=>rfl
   | cons n q=>show(xD n).bind _=none;rw[A5 (h n q hd)];rfl
  refine⟨_,rfl,ro,dx,_,rfl,r.ob,zn (by decide +kernel),rfl,_,_,rfl,rfl,ro,dx,la,nums,pl,15,rfl,r,fun c q hc hc4 H1 r1 hq c1=>?_,fun h=>kE (bad h) H (Ch.refl _ _)⟩
  obtain⟨x,ps,hx,hps,sp,hl4⟩:=G1 A c hc4
  refine⟨_,rfl,by show 1<=sizeLine;decide,fun wl hwl=>?_⟩
  generalize hH2:upd H1 wl _=H2
  have c2:Ch [] H1 H2:=by rw[<-hH2];exact Ch.new hwl
  have w2:H2 wl=some (.lst [.int (c:Int)]):=by rw[<-hH2];exact ae
  have hwro:wl≠ro:=(ay r1.ob hwl).symm
  have hwla:wl≠la:=(ay r1.ls hwl).symm
  have hwl0:H wl=none:=c1.free hwl (by simp[hwro])
  have erd:p8 (g+1) (nums.drop pl)=(bj (p8 g) (jU 5) ps q).map fun x=>(.node (.leaf (c:Int)::x.1),x.2):=by
   rw[hc];show(xD c).bind _=_;rw[hps];rfl
  refine⟨_,rfl,.inl (c:Int),_,rfl,hx,x,rfl,DK (fun i σ Hi=>∃vs ts pl' o,σ=[some (.ref ro),some (.int (d:Int)),some (.int (c:Int)),some (.ref wl),o]/\Rdg A K H Hi ro dx la wl nums c pl' vs ts/\ts.length=i/\Left (p8 g) (jU 5) ps q i ts (nums.drop pl'))
   ⟨[],[],pl+1,none,rfl,⟨w2,.nil,r1.mono c2 (by simp) (by simp),c1.trans (c2.mono (by simp))⟩,rfl,by rw[hq];exact Left.zero⟩ ?_ ?_⟩
  ·rintro i ch σ Hi hch ⟨vs,ts,pl',o,rfl,G,hti,L⟩
   obtain⟨t,ht,hpt⟩:=sp.at_ hch
   have hil:=(List.getElem?_eq_some_iff.mp ht).1
   have hvl:=G.tr.len
   have hda:=DQ ht
   have hsz:(V.int (c:Int)::vs).length<sizeLine:=by rw[List.length_cons,sizeLine_eq];omega
   refine⟨_,rfl,rfl,_,rfl,?_⟩
   cases t with
   | w =>
    have hs:=Jx hpt
    refine dT (by rw[hs]) ?_
    have es:bj (p8 g) (jU 5) (ps.drop i) (nums.drop pl')=((p8 g (nums.drop pl')).bind fun x=>(bj (p8 g) (jU 5) (ps.drop (i+1)) x.2).map fun y=>(x.1::y.1,y.2)):=by rw[hda];rfl
    refine⟨_,rfl,.inl ⟨rfl,_,bM.of G.wl⟩,_,rfl,ro,dx,_,rfl,G.rs.ob,zn (by decide +kernel),_,rfl,_,_,rfl,rfl,ro,dx,la,nums,pl',d+1,rfl,G.rs,by omega,fun t r' htr H3 v pl2 rs3 hr3 c3 tv=>?_,fun hno H3 c3=>?_⟩
    ·refine⟨wl,_,_,rfl,rfl,c3.fr _ _ G.wl (by simp[hwro]),hsz,?_⟩
     generalize hH4:upd H3 wl _=H4
     refine⟨vs++[v],ts++[t],pl2,_,rfl,G.next hwl0 hwro hwla rs3 c3 tv hH4,by simp[hti],?_⟩
     rw[hr3]
     exact L.sub es htr
    ·refine kE ?_ H3 (G.ch.trans c3)
     rw[erd,L.bad (by rw[es,hno];rfl)];rfl
   | p =>
    have hs:=FJ hpt
    refine dF (by rw[hs];decide +kernel) ?_
    refine⟨_,rfl,rfl,_,rfl,?_⟩
    refine dT (by rw[hs]) ?_
    have es:bj (p8 g) (jU 5) (ps.drop i) (nums.drop pl')=((jU 5 (nums.drop pl')).bind fun x=>(bj (p8 g) (jU 5) (ps.drop (i+1)) x.2).map fun y=>(x.1::y.1,y.2)):=by rw[hda];rfl
    refine⟨_,rfl,.inl ⟨rfl,_,bM.of G.wl⟩,_,rfl,ro,dx,_,rfl,G.rs.ob,zn (by decide +kernel),ro,dx,la,nums,pl',1,rfl,G.rs,by omega,fun t r' htr H3 v pl2 rs3 hr3 c3 tv=>?_,fun hno H3 c3=>?_⟩
    ·refine⟨wl,_,_,rfl,rfl,c3.fr _ _ G.wl (by simp[hwro]),hsz,?_⟩
     generalize hH4:upd H3 wl _=H4
     refine⟨vs++[v],ts++[t],pl2,_,rfl,G.next hwl0 hwro hwla rs3 c3 tv hH4,by simp[hti],?_⟩
     rw[hr3]
     exact L.sub es htr
    ·refine kE ?_ H3 (G.ch.trans c3)
     rw[erd,L.bad (by rw[es,hno];rfl)];rfl
   | n m =>
    obtain⟨h1,h2,h3⟩:=FK A hpt
    refine dF (fun z=>h1 (V.str.inj z)) ?_
    refine⟨_,rfl,rfl,_,rfl,?_⟩
    refine dF (fun z=>h2 (V.str.inj z)) ?_
    refine⟨_,rfl,.inl ⟨rfl,_,bM.of G.wl⟩,_,rfl,ro,dx,_,rfl,G.rs.ob,zn (by decide +kernel),_,rfl,.inr ⟨#[ch]⟩,_,rfl,h3,ro,dx,la,nums,pl',m,rfl,G.rs,fun a q2 ha hle H3 rs3 hr3 c3=>?_,fun hno=>?_⟩
    ·refine⟨wl,_,_,rfl,rfl,c3.fr _ _ G.wl (by simp[hwro]),hsz,?_⟩
     generalize hH4:upd H3 wl _=H4
     refine⟨vs++[.int (a:Int)],ts++[.leaf (a:Int)],pl'+1,_,rfl,G.next hwl0 hwro hwla rs3 c3 .leaf hH4,by simp[hti],?_⟩
     rw[hr3]
     refine L.sub (o:=some (.leaf (a:Int),q2)) ?_ rfl
     rw[hda,ha]
     show(if a<=m then _ else none)=_
     rw[if_pos hle];rfl
    ·refine kE ?_ Hi G.ch
     rw[erd,L.bad ?_];rfl
     rw[hda]
     cases hd:nums.drop pl' with
     | nil=>rfl
     | cons a q2 =>
      show(if a<=m then _ else none)=_
      rw[if_neg (by have:=hno a q2 hd;omega)]
  ·rintro σ Hi ⟨vs,ts,pl',o,rfl,G,hti,L⟩
   rw[sp.len] at L
   refine⟨_,rfl,wl,_,rfl,.inl ⟨bM.of G.wl,fun tp htp=>?_⟩⟩
   have c4:Ch [] Hi (upd Hi tp (.tup (.int (c:Int)::vs))):=Ch.new htp
   have g4:(upd Hi tp (.tup (.int (c:Int)::vs))) tp=some (.tup (.int (c:Int)::vs)):=ae
   refine kS _ _ (by rw[erd,L.done];rfl) _ _ pl' (G.rs.mono c4 (by simp) (by simp)) rfl (G.ch.trans (c4.mono (by simp))) (.node (.inl g4) (.cons .leaf (G.tr.mono c4)))
theorem F0 (T:Tx w K mg A D):∀f:Nat,f<=20->aS P w K mg base (wg P w) (f+9) A.bp D.bq ["self","depth"] (Co A K f 21 (p8 f))
 | 0,h=>Iu T 0 0 _ By (by omega) (fun g e=>by omega) h
 | f+1,h=>Iu T (f+1) (f+9) _ (F0 T f (by omega)) (by omega) (fun g e=>by cases e;rfl) h
theorem oW (T:Tx w K mg A D):aS P w K mg base (wg P w) 29 A.bp D.bq ["self","depth"] (Co A K 20 21 (p8 20)):=F0 T 20 (by omega)
end Bt
namespace Bt
open PySem PySem.Spec PyProof.Rows L2
open Ha09 (Val Pat Ctrl Proc Letter)
open Bp (wt iK oA rP zP bw aP Good Child bT dN)
variable {P:Program} {w:World} {K:PySem.W.Frag} {mg:Str->Option Value} {base:Heap} {A:Ad} {D:Fg}
theorem AR {m:Nat} (h:0<m):Ha09.readAll m []=some []:=by
 cases m with
 | zero=>omega
 | succ m=>rfl
theorem z0 {m:Nat} {l:List Nat} (h:l≠[]):Ha09.readAll (m+1) l=(Ha09.readExpr 20 l).bind fun x=>(Ha09.readAll m x.2).map fun y=>x.1::y:=by
 cases l with
 | nil=>exact absurd rfl h
 | cons a q=>rfl
theorem rdW20 {l:List Nat} {t:T} {r:List Nat} (h:p8 20 l=some (t,r)):∃e,Ha09.readExpr 20 l=some (e,r)/\t=eL e/\vB e/\b7 e<=20/\r.length<l.length:=by
 have hl:=FG 20 l t r h
 rw[Cs] at h
 obtain⟨x,h1,h2⟩:=Option.map_eq_some_iff.mp h
 obtain⟨e,r'⟩:=x
 cases h2
 obtain⟨a,b⟩:=DO 20 l e _ h1
 exact⟨e,h1,rfl,a,b,hl⟩
theorem Ct {l:List Nat} (h:p8 20 l=none):Ha09.readExpr 20 l=none:=by
 rw[Cs] at h
 cases hh:Ha09.readExpr 20 l with
 | none=>rfl
 | some x=>rw[hh] at h;cases h
inductive D3 (A:Ad) (K:PySem.W.Frag) (vs:List V) (H:Hp) (Q:VK) (E:XK):Prop|mk (la:Addr) (nums:List Nat):vs=[.ref la]->H la=some (.lst (nv nums))->nums.length<=100000->(∀prog,Ha09.program? nums=some prog->∀H' fa us,Ch [] H H'->TupAt K H' fa us->Paired (NR K H') us prog->(∀e∈prog,b7 e<=20)->Q (.ref fa) H')->(Ha09.program? nums=none->∀H',Ch [] H H'->E (.ref A.fg) none H')->D3 A K vs H Q E
def Ji (A:Ad) (K:PySem.W.Frag):Sp:=fun vs H Q E=>D3 A K vs H Q E
theorem wz (T:Tx w K mg A D):aS P w K mg base (wg P w) 30 A.fu D.fH ["numbers"] (Ji A K):=by
 refine T.nO.ES ke (fun vs H Q E h=>?_) (fun cdv A' outer s0 H vs Q E hr hp h=>?_)
 ·obtain⟨la,nums,rfl,_⟩:=h;rfl
 ·obtain⟨la,nums,rfl,hla,hz,kS,kE⟩:=h
  refine⟨_,(ah (aW (aO (nV (a9 aM rfl T.gc PySem.boot_len (aa (pv 0) ag)) (a8 T.sh))) (ak (u5 T.gT hr)) aT)
   (ah (aX (i:=1) ke.nd rfl (Or.inl rfl) (rC T.uw (xF T) (hr.mono (by decide)) rfl T.DJ T.uJ .nil aJ (aa (pv 0) ag)))
   (ah (aX (i:=2) ke.nd rfl (Or.inl rfl) (bf ag))
   (ah (qu hp (nq (fW (gf (pv 1) T.de T.kn (mO T) (hr.mono (by decide)) T.ko .nil aJ))) (ak (aI (dO PySem.F.plainAttrs_list PySem.F.slot_list_append PySem.F.type_list_append bJ (pv 2) (aa (aG (pv 1) T.de T.gh (oW T) (hr.mono (by decide)) T.gk .nil lN (aa aq ag)) ag)))))
   (ah (aW (PW.pt (xr (aO (bc (a9 aM rfl T.gc PySem.boot_len (aa (pv 2) ag)) aq)) (sY (aO (nV (a9 aM rfl T.gc PySem.boot_len (aa (pv 2) ag)) (a8 T.pP)))))) (ak (u5 T.gT hr)) aT)
   (ak (aF (fk nG rfl T.zO boot_tuple (aa (pv 2) ag))))))))),?_⟩
  have hnl:(nv nums).length=nums.length:=by unfold nv;simp
  refine⟨_,rfl,la,_,rfl,.inl (bM.of hla),_,_,rfl,rfl,_,rfl,?_⟩
  rw[hnl]
  refine d2 (fun h=>?_) fun h=>?_
  ·refine kE ?_ H (Ch.refl _ _)
   unfold Ha09.program?
   rw[if_pos (by omega)]
  have epr:Ha09.program? nums=(Ha09.readAll (nums.length+1) nums).bind fun p=>if p=[]\/10<p.length then none else some p:=by
   unfold Ha09.program?
   rw[if_neg (by omega)]
  refine⟨_,rfl,fun ro dx hx hdx hne=>?_⟩
  have cx:Ch [] H (upd (upd H dx (.own ro)) ro (.ins A.bN dx [])):=by
   have h2:(upd H dx (.own ro)) ro=none:=(aE hne.symm).trans hx
   exact(Ch.new hdx).trans (Ch.new h2)
  have gx:(upd (upd H dx (.own ro)) ro (.ins A.bN dx [])) ro=some (.ins A.bN dx []):=ae
  generalize upd (upd H dx _) ro _=H1 at cx gx ⊢
  refine⟨ro,dx,la,nums,rfl,gx,cx.fr _ _ hla (by simp),hz,fun H2 r2 c2=>⟨rfl,?_⟩⟩
  have toH:∀{Hi H':Hp} {b:Addr},Ch [] H Hi->H b=none->Ch [b] Hi H'->Ch [] H H':=fun {Hi H' b} c hb c'=>c.trans' c' fun x hx'=>.inr (by rw[List.mem_singleton.mp hx'];exact hb)
  have c02:=toH cx hx c2
  refine⟨Nat.zero_le _,fun fl hfl=>?_⟩
  generalize hH3:upd H2 fl _=H3
  have c3:Ch [] H2 H3:=by rw[<-hH3];exact Ch.new hfl
  have f3:H3 fl=some (.lst []):=by rw[<-hH3];exact ae
  have hfl0:H fl=none:=c02.free hfl (by simp)
  have nfr:fl≠ro:=(ay r2.ob hfl).symm
  have nfl:fl≠la:=(ay r2.ls hfl).symm
  refine⟨fun n σ Hi=>∃(pl m:Nat) (vs:List V) (es:List Ha09.Expr),n=(nums.drop pl).length/\σ=[some (.ref la),some (.ref ro),some (.ref fl)]/\RS A Hi ro dx la nums pl/\Hi fl=some (.lst vs)/\Paired (NR K Hi) vs es/\(∀e∈es,b7 e<=20)/\Ch [] H Hi/\es.length+(nums.drop pl).length<=nums.length/\(nums.drop pl).length<m/\Ha09.readAll (nums.length+1) nums=(Ha09.readAll m (nums.drop pl)).map fun y=>es++y,
   ⟨_,0,nums.length+1,[],[],rfl,rfl,r2.mono c3 (by simp) (by simp),f3,.nil,by simp,c02.trans c3,by simp,by simp,by rw[List.drop_zero];cases Ha09.readAll (nums.length+1) nums<;>rfl⟩,?_⟩
  rintro n σ Hi ⟨pl,m,vs,es,rfl,rfl,ri,fi,pr,hdp,ci,hel,hm,hra⟩
  refine⟨_,rfl,ro,dx,_,rfl,ri.ob,zn (by decide +kernel),ro,dx,la,nums,pl,rfl,ri,_,rfl,?_⟩
  have hvl:=Paired.length pr
  refine n2 (fun hd=>?_) fun hd=>?_
  ·obtain⟨m,rfl⟩:∃m',m=m'+1:=⟨m-1,by omega⟩
   rw[z0 hd] at hra
   refine⟨fun σ' H'=>∃n'<(nums.drop pl).length,∃(pl m:Nat) (vs:List V) (es:List Ha09.Expr),n'=(nums.drop pl).length/\σ'=[some (.ref la),some (.ref ro),some (.ref fl)]/\RS A H' ro dx la nums pl/\H' fl=some (.lst vs)/\Paired (NR K H') vs es/\(∀e∈es,b7 e<=20)/\Ch [] H H'/\es.length+(nums.drop pl).length<=nums.length/\(nums.drop pl).length<m/\Ha09.readAll (nums.length+1) nums=(Ha09.readAll m (nums.drop pl)).map fun y=>es++y,fun σ' H' h=>h,?_⟩
   refine⟨_,rfl,.inl ⟨rfl,_,bM.of fi⟩,_,rfl,ro,dx,_,rfl,ri.ob,zn (by decide +kernel),ro,dx,la,nums,pl,1,rfl,ri,by omega,fun t r htr H4 v pl2 r4 hr4 c4 tv=>?_,fun hno H4 c4=>?_⟩
   ·obtain⟨e,he,rfl,eok,edp,hrl⟩:=rdW20 htr
    have f4:=c4.fr _ _ fi (by simp[nfr])
    refine⟨fl,_,_,rfl,rfl,f4,by rw[hvl,sizeLine_eq];omega,?_⟩
    generalize hH5:upd H4 fl _=H5
    have c5:Ch [fl] H4 H5:=by rw[<-hH5];exact Ch.put f4 trivial (by simp)
    have f5:H5 fl=some (.lst (vs++[v])):=by rw[<-hH5];exact ae
    refine⟨r.length,hrl,pl2,m,vs++[v],es++[e],by rw[hr4],rfl,r4.mono c5 (by simp[nfr.symm]) (by simp[nfl.symm]),f5,papp (Paired.bL pr fun _ _ z=>(z.mono c4).mono c5) (.cons ⟨tv.mono c5,eok⟩ .nil),?_,toH (toH ci hx c4) hfl0 c5,?_,?_,?_⟩
    ·intro a ha
     rcases List.mem_append.mp ha with z|z
     ·exact hdp a z
     ·simp at z;rw[z];exact edp
    ·rw[hr4,List.length_append,List.length_singleton];omega
    ·rw[hr4];omega
    ·rw[hra,he,hr4]
     show((Ha09.readAll m r).map _).map _=_
     cases Ha09.readAll m r<;>simp
   ·refine kE ?_ H4 (toH ci hx c4)
    rw[epr,hra,Ct hno];rfl
  ·rw[hd] at hra hel
   rw[AR (by omega)] at hra
   have hra':Ha09.readAll (nums.length+1) nums=some es:=by rw[hra];simp
   rw[hra'] at epr
   refine⟨_,rfl,fl,_,rfl,.inl (bM.of fi),_,_,rfl,rfl,_,rfl,?_⟩
   rw[hvl]
   refine d2 (fun h1=>?_) fun h1=>?_
   ·refine oY ?_
    refine kE ?_ Hi ci
    rw[epr]
    show(if es=[]\/_ then none else some es)=none
    rw[if_pos (.inl (List.eq_nil_of_length_eq_zero (by omega)))]
   ·refine⟨_,rfl,fl,_,rfl,.inl (bM.of fi),_,_,rfl,rfl,_,rfl,?_⟩
    rw[hvl]
    refine d2 (fun h2=>?_) fun h2=>?_
    ·refine kE ?_ Hi ci
     rw[epr]
     show(if es=[]\/_ then none else some es)=none
     rw[if_pos (.inr (by omega))]
    ·refine⟨_,rfl,fl,_,rfl,.inl ⟨bM.of fi,fun fa hfa=>?_⟩⟩
     have c4:Ch [] Hi (upd Hi fa (.tup vs)):=Ch.new hfa
     refine kS es ?_ _ fa vs (ci.trans c4) (.inl ae) (Paired.bL pr fun _ _ z=>z.mono c4) hdp
     rw[epr]
     show(if es=[]\/_ then none else some es)=_
     rw[if_neg]
     rintro (z|z)
     ·rw[z] at h1;exact h1 rfl
     ·omega
inductive ym (P:Program) (w:World) (A:Ad) (K:PySem.W.Frag) (vs:List V) (H:Hp) (Q:VK):Prop|mk (ln dx la:Addr) (hv:Tab) (W:WL) (q:QL) (s:Ha09.St) (nums:List Nat):vs=[.ref ln,.ref la]->yj P w A K H ln dx hv W q s->H la=some (.lst (nv nums))->nums.length<=100000->jj P w A K H ln dx hv W q s (Ha09.step s (.program nums)).1 (Ha09.step s (.program nums)).2 Q->ym P w A K vs H Q
def EA (P:Program) (w:World) (A:Ad) (K:PySem.W.Frag):Sp:=fun vs H Q _=>ym P w A K vs H Q
theorem kl (T:Tx w K mg A D) (hB:K.In base):aS P w K mg base eV 31 A.fD D.fP ["self","written"] (EA P w A K):=by
 refine T.sR.ok pI (fun vs H Q E h=>?_) (fun cdv A' outer s0 H vs Q E hr h=>?_)
 ·obtain⟨ln,dx,la,hv,W,q,s,nums,rfl,_⟩:=h;rfl
 ·obtain⟨ln,dx,la,hv,W,q,s,nums,rfl,l,hla,hz,k⟩:=h
  have EE0:∃EE:XK,EE=fun c _ H'=>c=.ref A.fg/\Ha09.program? nums=none/\Ch [] H H':=⟨_,rfl⟩
  obtain⟨EE,hEE⟩:=EE0
  refine⟨_,(ah (Cv (E:=EE) T.gT rfl rfl rfl rfl (T.wZ _ hB) (fun pn xe hpx=>(ak (aX (i:=2) pI.nd rfl (Or.inl rfl) (aV (wz (P:=P) (base:=base) T) (hr.mono (by decide)) rfl T.sx T.nO.kp T.sF .nil hpx (aa (pv 1) ag))))) (fun e=>(ak (aF (bf (aa (a8 T.rJ) ag))))))
   (ah (aY (pv 0) (rC T.mQ (nu T) (hr.mono (by decide)) rfl T.Ao T.m7 .nil aJ (aa (pv 2) ag)) rfl)
   (ak (aF (bf (aa (a9 aM rfl T.gc PySem.boot_len (aa (pv 2) ag)) ag)))))),?_⟩
  refine⟨?_,?_⟩
  ·refine⟨_,rfl,la,nums,rfl,hla,hz,fun prog hpr H1 fa us c1 tp nr hd=>?_,fun hno H1 c1=>by rw[hEE];exact⟨rfl,hno,c1⟩⟩
   have e:Ha09.step s (.program nums)=(⟨prog,[],[],0⟩,Ha09.ints [prog.length]):=by simp[Ha09.step,hpr]
   rw[e] at k
   dsimp only at k
   have l1:=l.news c1
   refine⟨_,rfl,fun x wx hx hdx hne=>?_⟩
   have cx:Ch [] H1 (upd (upd H1 wx (.own x)) x (.ins A.aR wx [])):=by
    have h2:(upd H1 wx (.own x)) x=none:=(aE hne.symm).trans hx
    exact(Ch.new hdx).trans (Ch.new h2)
   have gx:(upd (upd H1 wx (.own x)) x (.ins A.aR wx [])) x=some (.ins A.aR wx []):=ae
   generalize upd (upd H1 wx _) x _=H2 at cx gx ⊢
   refine⟨x,wx,fa,us,prog,rfl,gx,tp.mono cx,Paired.bL nr fun _ _ z=>z.mono cx,hd,fun H3 W3 q3 e1 e2 e3 e4 ws3 c3 fr3=>⟨rfl,?_⟩⟩
   subst e1 e2
   have c13:Ch [] H1 H3:=cx.trans' c3 (by intro c hc;rw[List.mem_singleton.mp hc];exact .inr hx)
   have c03:=c1.trans c13
   have ob3:=c03.fr _ _ l.ob (by simp)
   have fr0:∀b∈fp W3 q3,H b=none:=fun b hb=>by
    rcases fr3 b hb with z|z
    ·rw[z];exact c1.free hx (by simp)
    ·exact(c1.trans cx).free z (by simp)
   have nl3:ln∉fp W3 q3:=fun z=>by have:=fr0 _ z;rw[l.ob] at this;cases this
   refine⟨_,rfl,ln,_,dx,_,rfl,ob3,T.bS,T.aU,(by show 1<1000;decide),?_⟩
   rw[zp 0 uS rfl (by show 0<1;decide)]
   generalize hH4:upd H3 ln _=H4
   have c4:Ch [ln] H3 H4:=by rw[<-hH4];exact Ch.put ob3 trivial (by simp)
   have g4:H4 ln=some (.ins A.cLine dx (LN.zip [.ref W3.w])):=by rw[<-hH4];exact ae
   have tp4:=(tp.mono c13).mono c4
   refine⟨_,rfl,fa,_,rfl,.inr tp4.sq,by show 1<=sizeLine;decide,fun r hr=>?_⟩
   rw[Paired.length nr]
   have c5:Ch [] H4 (upd H4 r (.lst [.int (prog.length:Int)])):=Ch.new hr
   have g5:(upd H4 r (.lst [.int (prog.length:Int)])) r=some (.lst (tl (Ha09.ints [prog.length]))):=ae
   generalize upd H4 r _=H5 at c5 g5 ⊢
   refine k H5 [] W3 q3 r ⟨c5.fr _ _ g4 (by simp),(ws3.free c4 (fun b hb=>by rw[List.mem_singleton.mp hb];exact nl3)).news c5,nl3,by show 0<=20;omega⟩ (by show 0<=_;omega) (by show wt ⟨prog,[],[],0⟩<=_;unfold wt;simp[rP,oA]) (((c03.mono (by simp)).trans (c4.mono (by simp))).trans (c5.mono (by simp))) (fun b hb=>.inr (fr0 b hb)) (fun z=>((c03.mono (by simp)).trans (c4.mono (by simp)):Ch (ln::fp W q) H H4).free hr z) g5
  ·intro c H2 σ' hE
   rw[hEE] at hE
   obtain⟨hc,hno,c2⟩:=hE
   refine⟨hc,fun _=>⟨by show 1<=sizeLine;decide,fun r hr=>?_⟩⟩
   have e:Ha09.step s (.program nums)=(s,[-1]):=by simp[Ha09.step,hno]
   rw[e] at k
   exact k.same l (c2.trans (Ch.new hr)) (c2.free hr (by simp)) ae
inductive BY (P:Program) (w:World) (A:Ad) (K:PySem.W.Frag) (vs:List V) (H:Hp) (Q:VK):Prop|mk (ln dx:Addr):vs=[.ref ln]->H ln=some (.ins A.cLine dx [])->(∀H' W q,yj P w A K H' ln dx [] W q Ha09.init->Ch [ln] H H'->(∀b∈fp W q,H b=none)->Q .bo H')->BY P w A K vs H Q
def He (P:Program) (w:World) (A:Ad) (K:PySem.W.Frag):Sp:=fun vs H Q _=>BY P w A K vs H Q
theorem Af (T:Tx w K mg A D):aS P w K mg base eV 6 A.jw D.jI ["self"] (He P w A K):=by
 refine T.yA.ok zW (fun vs H Q E h=>?_) (fun cdv A' outer s0 H vs Q E hr h=>?_)
 ·obtain⟨ln,dx,rfl,_⟩:=h;rfl
 ·obtain⟨ln,dx,rfl,ho,k⟩:=h
  obtain⟨fa,us,hmg,htr,htp⟩:=T.qf
  refine⟨_,(ak (aY (pv 0) (rC T.mQ (nu T) (hr.mono (by decide)) rfl T.Ao T.m7 .nil aJ (aa (z6 hmg) ag)) rfl)),?_⟩
  have c0:Ch [] (fun _=>none) H:=⟨fun _ _ h=>(Option.some_ne_none _ (Eq.symm h)).elim,fun _ _ h=>(Option.some_ne_none _ (Eq.symm h)).elim,fun _ _ _ h=>(Option.some_ne_none _ (Eq.symm h)).elim⟩
  refine fun x wx hx hdx hne=>?_
  have cx:Ch [] H (upd (upd H wx (.own x)) x (.ins A.aR wx [])):=by
   have h2:(upd H wx (.own x)) x=none:=(aE hne.symm).trans hx
   exact(Ch.new hdx).trans (Ch.new h2)
  have gx:(upd (upd H wx (.own x)) x (.ins A.aR wx [])) x=some (.ins A.aR wx []):=ae
  generalize upd (upd H wx _) x _=H2 at cx gx ⊢
  have htr2:=(htr.mono c0).mono cx
  refine⟨x,wx,fa,us,[.num 0],rfl,gx,(htp.mono c0).mono cx,?_,fun e he=>by simp at he;rw[he];show 1<=20;omega,fun H3 W3 q3 e1 e2 e3 e4 ws3 c3 fr3=>⟨rfl,?_⟩⟩
  ·cases htr2 with
   | cons h1 h2 =>
    cases h2
    exact .cons ⟨h1,by show(0:Int)<=0/\(0:Int)<=1000000;omega⟩ .nil
  subst e1 e2
  have c13:Ch [] H H3:=cx.trans' c3 (by intro c hc;rw[List.mem_singleton.mp hc];exact .inr hx)
  have ob3:=c13.fr _ _ ho (by simp)
  have fr0:∀b∈fp W3 q3,H b=none:=fun b hb=>by
   rcases fr3 b hb with z|z
   ·rw[z];exact hx
   ·exact cx.free z (by simp)
  have nl3:ln∉fp W3 q3:=fun z=>by have:=fr0 _ z;rw[ho] at this;cases this
  refine⟨_,rfl,ln,_,dx,_,rfl,ob3,T.bS,T.aU,(by show 0<1000;decide),?_⟩
  generalize hH4:upd H3 ln _=H4
  have c4:Ch [ln] H3 H4:=by rw[<-hH4];exact Ch.put ob3 trivial (by simp)
  have g4:H4 ln=some (.ins A.cLine dx (LN.zip [.ref W3.w])):=by rw[<-hH4];exact ae
  exact k H4 W3 q3 ⟨g4,ws3.free c4 (fun b hb=>by rw[List.mem_singleton.mp hb];exact nl3),nl3,by show 0<=20;omega⟩ ((c13.mono (by simp)).trans c4) fr0
end Bt
namespace Bp
open Ha09 (Call)
def ic (l:List Nat):List Int:=l.map fun(n:Nat)=>(n:Int)
inductive CN:List Int->Call->Prop
 | program (l:List Nat):l.length<=320->CN (0::(l.length:Int)::ic l) (.program l)
 | begin_ (f n:Nat):CN [1,(f:Int),(n:Int)] (.begin_ f n)
 | run (i n:Nat):CN [2,(i:Int),(n:Int)] (.run i n)
 | deliver (i j:Nat):CN [3,(i:Int),(j:Int)] (.deliver i j)
 | ticks (n:Nat):CN [4,(n:Int)] (.ticks n)
 | turns (n:Nat):CN [5,(n:Int)] (.turns n)
 | process (i:Nat):CN [6,(i:Int)] (.process i)
 | box (i:Nat):CN [7,(i:Int)] (.box i)
 | said (i:Nat):CN [8,(i:Int)] (.said i)
 | air:CN [9] .air
 | counts:CN [10] .counts
theorem km {z:Int} (h:Ha09Neutral.nat z=true):0<=z:=by
 unfold Ha09Neutral.nat at h
 simp at h;exact h.1
theorem Bq:∀{l:List Int},l.all Ha09Neutral.nat=true->ic (l.map Int.toNat)=l
 | [],_=>rfl
 | a::r,h=>by
  rw[List.all_cons,Bool.and_eq_true] at h
  have:=km h.1
  show((a.toNat:Nat):Int)::ic (r.map Int.toNat)=a::r
  rw[Bq h.2,Int.toNat_of_nonneg this]
theorem cf {c:List (List Int)} (h:Ha09Neutral.asked1 c=true):c.all (fun r=>r.all Ha09Neutral.nat)=true/\∃x,Ha09Neutral.callIn (c.map fun r=>r.map Int.toNat)=some x/\∀s,Ha09Neutral.step s c=Ha09.step s x:=by
 unfold Ha09Neutral.asked1 at h
 cases hc:Ha09Neutral.callOf c with
 | none=>rw[hc] at h;cases h
 | some x =>
  have h2:=hc
  unfold Ha09Neutral.callOf at h2
  split at h2
  ·cases h2
  ·next hn =>
   refine⟨by simpa using hn,x,h2,fun s=>?_⟩
   unfold Ha09Neutral.step
   rw[hc]
theorem E9 {p:Int} {r t:List Int} {c:List (List Int)} (h:PyFlat.call PyHa09.shape (p::r)=some (c,t)) (ha:Ha09Neutral.asked1 (PyHa09.whole c)=true) (hin:PyInside.call PyHa09.bound c=true) :
  ∃l' x,p::r=l'++t/\CN l' x/\∀s,Ha09Neutral.step s (PyHa09.whole c)=Ha09.step s x:=by
 have hp:p=0\/p=1\/p=2\/p=3\/p=4\/p=5\/p=6\/p=7\/p=8\/p=9\/p=10:=by
  have hs:PyHa09.shape p≠none:=fun z=>by
   have h':(match PyHa09.shape p with
    | none=>none
    | some (n,k)=>if r.length<n then none else match PyFlat.rows k (r.drop n) with
     | none=>none
     | some (xs,t)=>some ((p::r.take n)::xs,t))=some (c,t):=h
   rw[z] at h';cases h'
  unfold PyHa09.shape at hs
  by_cases h0:p=0;· exact .inl h0
  by_cases h1:p=1;· exact .inr (.inl h1)
  by_cases h2:p=2;· exact .inr (.inr (.inl h2))
  by_cases h3:p=3;· exact .inr (.inr (.inr (.inl h3)))
  by_cases h4:p=4;· exact .inr (.inr (.inr (.inr (.inl h4))))
  by_cases h5:p=5;· exact .inr (.inr (.inr (.inr (.inr (.inl h5)))))
  by_cases h6:p=6;· exact .inr (.inr (.inr (.inr (.inr (.inr (.inl h6))))))
  by_cases h7:p=7;· exact .inr (.inr (.inr (.inr (.inr (.inr (.inr (.inl h7)))))))
  by_cases h8:p=8;· exact .inr (.inr (.inr (.inr (.inr (.inr (.inr (.inr (.inl h8))))))))
  by_cases h9:p=9;· exact .inr (.inr (.inr (.inr (.inr (.inr (.inr (.inr (.inr (.inl h9)))))))))
  by_cases h10:p=10;· exact .inr (.inr (.inr (.inr (.inr (.inr (.inr (.inr (.inr (.inr h10)))))))))
  simp[h0,h1,h2,h3,h4,h5,h6,h7,h8,h9,h10] at hs
 rcases hp with rfl|rfl|rfl|rfl|rfl|rfl|rfl|rfl|rfl|rfl|rfl
 ·
  cases r with
  | nil=>cases h
  | cons n r' =>
   have h':(match (match (if 0<=n/\n.toNat<=r'.length then some (r'.take n.toNat,r'.drop n.toNat) else none) with
    | none=>none
    | some (x,s)=>some ([x],s)) with
    | none=>none
    | some (xs,t)=>some ([0]::xs,t))=some (c,t):=h
   by_cases hn:0<=n/\n.toNat<=r'.length
   case neg=>rw[if_neg hn] at h';cases h'
   rw[if_pos hn] at h'
   cases h'
   obtain⟨hall,x,hx,hst⟩:=cf ha
   have hw:PyHa09.whole [[0],r'.take n.toNat]=[[0],r'.take n.toNat]:=rfl
   rw[hw] at hall hx hst
   have hall2:(r'.take n.toNat).all Ha09Neutral.nat=true:=by
    simp only[List.all_cons,List.all_nil,Bool.and_true,Bool.and_eq_true] at hall
    exact hall.2
   cases hx
   have hl:(r'.take n.toNat).length=n.toNat:=by rw[List.length_take];omega
   refine⟨0::n::r'.take n.toNat,_,by simp,?_,hst⟩
   have e1:=Bq hall2
   have e2:(((r'.take n.toNat).map Int.toNat).length:Int)=n:=by rw[List.length_map,hl];exact Int.toNat_of_nonneg hn.1
   have:=CN.program ((r'.take n.toNat).map Int.toNat) (by
    rw[List.length_map]
    have hin':(true&&(decide (0<=(r'.take n.toNat).length)&&decide ((r'.take n.toNat).length<=320)&&(r'.take n.toNat).all (PyInside.within 0 4294967295)&&true))=true:=hin
    simp only[Bool.and_eq_true,decide_eq_true_eq] at hin'
    exact hin'.2.1.1.2)
   rw[e1,e2] at this
   exact this
 ·
  cases r with
  | nil=>cases h
  | cons a r =>
   cases r with
   | nil=>cases h
   | cons b r =>
    cases h
    obtain⟨hall,x,hx,hst⟩:=cf ha
    have hall:([[(1:Int),a,b]]:List (List Int)).all (fun r=>r.all Ha09Neutral.nat)=true:=hall
    simp only[List.all_cons,List.all_nil,Bool.and_true,Bool.and_eq_true] at hall
    have ea:=Int.toNat_of_nonneg (km hall.2.1)
    have eb:=Int.toNat_of_nonneg (km hall.2.2)
    cases hx
    have:=CN.begin_ a.toNat b.toNat
    rw[ea,eb] at this
    exact⟨_,_,rfl,this,hst⟩
 ·
  cases r with
  | nil=>cases h
  | cons a r =>
   cases r with
   | nil=>cases h
   | cons b r =>
    cases h
    obtain⟨hall,x,hx,hst⟩:=cf ha
    have hall:([[(2:Int),a,b]]:List (List Int)).all (fun r=>r.all Ha09Neutral.nat)=true:=hall
    simp only[List.all_cons,List.all_nil,Bool.and_true,Bool.and_eq_true] at hall
    have ea:=Int.toNat_of_nonneg (km hall.2.1)
    have eb:=Int.toNat_of_nonneg (km hall.2.2)
    cases hx
    have:=CN.run a.toNat b.toNat
    rw[ea,eb] at this
    exact⟨_,_,rfl,this,hst⟩
 ·
  cases r with
  | nil=>cases h
  | cons a r =>
   cases r with
   | nil=>cases h
   | cons b r =>
    cases h
    obtain⟨hall,x,hx,hst⟩:=cf ha
    have hall:([[(3:Int),a,b]]:List (List Int)).all (fun r=>r.all Ha09Neutral.nat)=true:=hall
    simp only[List.all_cons,List.all_nil,Bool.and_true,Bool.and_eq_true] at hall
    have ea:=Int.toNat_of_nonneg (km hall.2.1)
    have eb:=Int.toNat_of_nonneg (km hall.2.2)
    cases hx
    have:=CN.deliver a.toNat b.toNat
    rw[ea,eb] at this
    exact⟨_,_,rfl,this,hst⟩
 ·
  cases r with
  | nil=>cases h
  | cons a r =>
   cases h
   obtain⟨hall,x,hx,hst⟩:=cf ha
   have hall:([[(4:Int),a]]:List (List Int)).all (fun r=>r.all Ha09Neutral.nat)=true:=hall
   simp only[List.all_cons,List.all_nil,Bool.and_true,Bool.and_eq_true] at hall
   have ea:=Int.toNat_of_nonneg (km hall.2)
   cases hx
   have:=CN.ticks a.toNat
   rw[ea] at this
   exact⟨_,_,rfl,this,hst⟩
 ·
  cases r with
  | nil=>cases h
  | cons a r =>
   cases h
   obtain⟨hall,x,hx,hst⟩:=cf ha
   have hall:([[(5:Int),a]]:List (List Int)).all (fun r=>r.all Ha09Neutral.nat)=true:=hall
   simp only[List.all_cons,List.all_nil,Bool.and_true,Bool.and_eq_true] at hall
   have ea:=Int.toNat_of_nonneg (km hall.2)
   cases hx
   have:=CN.turns a.toNat
   rw[ea] at this
   exact⟨_,_,rfl,this,hst⟩
 ·
  cases r with
  | nil=>cases h
  | cons a r =>
   cases h
   obtain⟨hall,x,hx,hst⟩:=cf ha
   have hall:([[(6:Int),a]]:List (List Int)).all (fun r=>r.all Ha09Neutral.nat)=true:=hall
   simp only[List.all_cons,List.all_nil,Bool.and_true,Bool.and_eq_true] at hall
   have ea:=Int.toNat_of_nonneg (km hall.2)
   cases hx
   have:=CN.process a.toNat
   rw[ea] at this
   exact⟨_,_,rfl,this,hst⟩
 ·
  cases r with
  | nil=>cases h
  | cons a r =>
   cases h
   obtain⟨hall,x,hx,hst⟩:=cf ha
   have hall:([[(7:Int),a]]:List (List Int)).all (fun r=>r.all Ha09Neutral.nat)=true:=hall
   simp only[List.all_cons,List.all_nil,Bool.and_true,Bool.and_eq_true] at hall
   have ea:=Int.toNat_of_nonneg (km hall.2)
   cases hx
   have:=CN.box a.toNat
   rw[ea] at this
   exact⟨_,_,rfl,this,hst⟩
 ·
  cases r with
  | nil=>cases h
  | cons a r =>
   cases h
   obtain⟨hall,x,hx,hst⟩:=cf ha
   have hall:([[(8:Int),a]]:List (List Int)).all (fun r=>r.all Ha09Neutral.nat)=true:=hall
   simp only[List.all_cons,List.all_nil,Bool.and_true,Bool.and_eq_true] at hall
   have ea:=Int.toNat_of_nonneg (km hall.2)
   cases hx
   have:=CN.said a.toNat
   rw[ea] at this
   exact⟨_,_,rfl,this,hst⟩
 ·
  cases h
  obtain⟨hall,x,hx,hst⟩:=cf ha
  cases hx
  exact⟨[9],_,rfl,.air,hst⟩
 ·
  cases h
  obtain⟨hall,x,hx,hst⟩:=cf ha
  cases hx
  exact⟨[10],_,rfl,.counts,hst⟩
end Bp
namespace Bp
open Ha09 (Call)
abbrev Raw:=List (List Int)
def Ff (raws:List Raw):Prop:=∀c∈raws,Ha09Neutral.asked1 (PyHa09.whole c)=true/\PyInside.call PyHa09.bound c=true
def Aw (s:Ha09.St) (raws:List Raw):List Int:=PyFlat.told (PyFlat.played Ha09Neutral.step s (raws.map PyHa09.whole))
theorem C4 {f:Nat} {l:List Int} {raws:List Raw} (h:PyFlat.calls PyHa09.shape f l=some raws) (fi:Ff raws) :
  (l=[]/\raws=[])\/∃l' t x raws' f',l=l'++t/\CN l' x/\raws.length=raws'.length+1/\Ff raws'/\PyFlat.calls PyHa09.shape f' t=some raws'/\∀s,Aw s raws=((Ha09.step s x).2.length:Int)::((Ha09.step s x).2++Aw (Ha09.step s x).1 raws'):=by
 cases l with
 | nil =>
  have:raws=[]:=by cases f<;>(cases h;rfl)
  exact .inl ⟨rfl,this⟩
 | cons p r =>
  cases f with
  | zero=>cases h
  | succ f =>
   have h':(match PyFlat.call PyHa09.shape (p::r) with
    | none=>none
    | some (c,t)=>match PyFlat.calls PyHa09.shape f t with
     | none=>none
     | some cs=>some (c::cs))=some raws:=h
   cases hc:PyFlat.call PyHa09.shape (p::r) with
   | none=>rw[hc] at h';cases h'
   | some ct =>
    obtain⟨c,t⟩:=ct
    rw[hc] at h'
    dsimp only at h'
    cases hcs:PyFlat.calls PyHa09.shape f t with
    | none=>rw[hcs] at h';cases h'
    | some cs =>
     rw[hcs] at h'
     cases h'
     obtain⟨ha,hi⟩:=fi c (List.mem_cons_self ..)
     obtain⟨l',x,e,hx,hst⟩:=E9 hc ha hi
     refine .inr ⟨l',t,x,cs,f,e,hx,rfl,fun d hd=>fi d (List.mem_cons_of_mem _ hd),hcs,fun s=>?_⟩
     unfold Aw
     show PyFlat.told ((Ha09Neutral.step s (PyHa09.whole c)).2::PyFlat.played Ha09Neutral.step (Ha09Neutral.step s (PyHa09.whole c)).1 (cs.map PyHa09.whole))=_
     rw[hst s]
     rfl
theorem CN.pos {l:List Int} {x:Call} (h:CN l x):0<l.length:=by cases h<;>simp
theorem Dd {l:List Int} (h:PyHa09.answers_asked l=true):∃raws,PyFlat.calls PyHa09.shape l.length l=some raws/\Ff raws/\raws.length<=40/\(PyHa09.answers l).length<=10000000/\PyHa09.answers l=Aw Ha09.init raws:=by
 unfold PyHa09.answers_asked at h
 cases hc:PyFlat.calls PyHa09.shape l.length l with
 | none=>rw[hc] at h;cases h
 | some raws =>
  rw[hc] at h
  dsimp only at h
  simp only[Bool.and_eq_true] at h
  obtain⟨⟨⟨⟨h1,h2⟩,h3⟩,h4⟩,h5⟩:=h
  refine⟨raws,rfl,fun c hm=>⟨?_,?_⟩,?_,?_,?_⟩
  ·unfold Ha09Neutral.asked at h4
   rw[Bool.and_eq_true] at h4
   exact List.all_eq_true.mp h4.1 _ (List.mem_map.mpr ⟨c,hm,rfl⟩)
  ·unfold PyInside.calls at h3
   exact List.all_eq_true.mp h3 c hm
  ·unfold PyFlat.atMost at h2
   exact of_decide_eq_true h2
  ·unfold PyFlat.short at h5
   exact of_decide_eq_true h5
  ·unfold PyHa09.answers PyHa09.calls
   rw[hc]
   rfl
end Bp
namespace Bt
open PySem PySem.Spec PyProof.Rows L2
open Ha09 (Val Pat Ctrl Proc Letter)
open Bp (wt iK oA rP zP bw aP Good Child bT dN CN Ff Aw)
variable {P:Program} {w:World} {K:PySem.W.Frag} {mg:Str->Option Value} {base:Heap} {A:Ad} {D:Fg}
theorem zS {n d i:Nat} (h:i<=n):HT.AL n d (some (i:Int))=i:=by
 show(if (i:Int)<0 then ((i:Int)+(n:Int)).toNat else min (i:Int).toNat n)=i
 rw[if_neg (by omega),Int.toNat_natCast]
 omega
theorem HY {xs:List V} {i j:Nat} (hij:i<=j) (hj:j<=xs.length):yQ xs (some (i:Int)) (some (j:Int))=(xs.drop i).take (j-i):=by
 unfold yQ
 rw[zS (d:=0) (i:=i) (by omega),zS hj]
def Arg (K:PySem.W.Frag) (H:Hp) (a:Addr) (l:List Int):Prop:=(∃o,H a=some (.wU o (.lst (tl l))))\/∃(o:Obj) (its:Array Value) (n:Nat),K.lookup a=some o/\o.cls=.type "list" /\ o.dict=none/\o.data=.seq its n/\its.size<=sizeLine/\Vals (tl l) its.toList
theorem Arg.sq {H:Hp} {a:Addr} {l:List Int} (h:Arg K H a l):bM K H a (tl l):=h.elim (fun⟨o,h⟩=>.inl (.inr ⟨o,h⟩)) .inr
theorem Arg.mono {H H':Hp} {a:Addr} {l:List Int} {ex:List Addr} (c:Ch ex H H') (h:Arg K H a l):Arg K H' a l:=h.elim (fun⟨o,h⟩=>.inl ⟨o,c.fz _ _ _ h⟩) .inr
theorem Arg.of {H:Hp} {a:Addr} {l:List Int} (hO:zD H) (h:bM K H a (l.map V.int)):Arg K H a l:=by
 rcases h with (h|⟨o,h⟩)|h
 ·rcases hO a with z|⟨o,u,z⟩
  ·rw[z] at h;cases h
  ·rw[z] at h;cases h
 ·exact .inl ⟨o,h⟩
 ·exact .inr h
inductive DZ (K:PySem.W.Frag) (vs:List V) (H:Hp) (Q:VK):Prop|mk (a:Addr) (l l' t:List Int) (pl:Nat) (x:Ha09.Call):vs=[.ref a,.int (pl:Int)]->Arg K H a l->l.drop pl=l'++t->CN l' x->Q (.int (l'.length:Int)) H->DZ K vs H Q
def Ft (K:PySem.W.Frag):Sp:=fun vs H Q _=>DZ K vs H Q
theorem Ii {l l' t:List Int} {pl j:Nat} {z:Int} (h:l.drop pl=l'++t) (e:l'[j]?=some z):(tl l)[pl+j]?=some (.int z):=by
 have h1:(l.drop pl)[j]?=some z:=by rw[h,List.getElem?_append_left (List.getElem?_eq_some_iff.mp e).1];exact e
 rw[List.getElem?_drop] at h1
 unfold tl
 rw[List.getElem?_map,h1];rfl
theorem As {l:List Int} {x:Ha09.Call} (h:CN l x):∃z:Int,l[0]?=some z/\0<=z/\z<=10:=by cases h<;>exact⟨_,rfl,by decide,by decide⟩
theorem kh (T:Tx w K mg A D):aS P w K mg base eV 1 A.ee D.eg ["calls","place"] (Ft K):=by
 refine T.nN.ok wk (fun vs H Q E h=>?_) (fun cdv A' outer s0 H vs Q E hr h=>?_)
 ·obtain⟨a,l,l',t,pl,x,rfl,_⟩:=h;rfl
 ·obtain⟨a,l,l',t,pl,x,rfl,ar,hd,hx,k⟩:=h
  refine⟨_,(ah (aW (aO (bc (aK bI (pv 0) (pv 1) (fun _ _=>rfl)) aq)) (ak (aF (eT oV aq (aK bI (pv 0) (eT oV (pv 1) aq) (fun _ _=>rfl))))) aT)
   (ak (aF (kW T.Gw rfl T.Gi (aK bI (pv 0) (pv 1) (fun _ _=>rfl)))))),?_⟩
  have at0':∀z,l'[0]?=some z->Cd (tl l) (pl:Int)=some (.int z):=fun z h=>at_of (j:=pl) rfl (Ii (j:=0) hd h)
  have at1':∀z,l'[1]?=some z->Cd (tl l) ((pl:Int)+1)=some (.int z):=fun z h=>at_of (j:=pl+1) (by omega) (Ii (j:=1) hd h)
  obtain⟨z,h0,_,_⟩:=As hx
  refine⟨_,rfl,_,rfl,a,_,_,_,rfl,rfl,ar.sq,at0' z h0,_,_,rfl,rfl,_,rfl,?_⟩
  refine d2 (fun hz=>?_) fun n0=>?_
  ·subst hz
   cases hx with
   | program nums hl =>
    refine⟨_,rfl,_,rfl,_,_,rfl,rfl,a,_,_,_,rfl,rfl,ar.sq,at1' _ rfl,_,_,rfl,rfl,?_⟩
    have e:((0::(nums.length:Int)::Bp.ic nums).length:Int)=2+(nums.length:Int):=by
     unfold Bp.ic
     rw[List.length_cons,List.length_cons,List.length_map];omega
    rw[e] at k
    exact k
   | _=>simp at h0
  ·have hk:qe (DD A) (Sum.inl z)=some (.int (l'.length:Int)):=by
    cases hx<;>(cases h0;first|rfl|exact absurd rfl n0)
   exact⟨_,rfl,_,rfl,a,_,_,_,rfl,rfl,ar.sq,at0' z h0,.inl z,_,rfl,hk,k⟩
inductive yr (P:Program) (w:World) (A:Ad) (K:PySem.W.Frag) (vs:List V) (H:Hp) (Q:VK):Prop|mk (ln dx ca:Addr) (hv:Tab) (W:WL) (q:QL) (s:Ha09.St) (l':List Int) (x:Ha09.Call):vs=[.ref ln,.ref ca]->yj P w A K H ln dx hv W q s->hv.length+wt s+12000<=15000000->H ca=some (.lst (tl l'))->CN l' x->(Ha09.step s x).2.length<=10000000->jj P w A K H ln dx hv W q s (Ha09.step s x).1 (Ha09.step s x).2 Q->yr P w A K vs H Q
def yX (P:Program) (w:World) (A:Ad) (K:PySem.W.Frag):Sp:=fun vs H Q _=>yr P w A K vs H Q
inductive Ei (P:Program) (w:World) (A:Ad) (K:PySem.W.Frag) (vs:List V) (H:Hp) (Q:VK):Prop|mk (ln dx ca:Addr) (hv:Tab) (W:WL) (q:QL) (s:Ha09.St) (l':List Int) (x:Ha09.Call) (z:Int):vs=[.ref ln,.ref ca]->yj P w A K H ln dx hv W q s->H ca=some (.lst (tl l'))->CN l' x->l'[0]?=some z->6<=z->(Ha09.step s x).2.length<=10000000->jj P w A K H ln dx hv W q s (Ha09.step s x).1 (Ha09.step s x).2 Q->Ei P w A K vs H Q
def Ju (P:Program) (w:World) (A:Ad) (K:PySem.W.Frag):Sp:=fun vs H Q _=>Ei P w A K vs H Q
theorem ou {l:List Int} {j:Nat} {z:Int} (e:l[j]?=some z):Cd (tl l) (j:Int)=some (.int z):=at_of (j:=j) rfl (by unfold tl;rw[List.getElem?_map,e];rfl)
theorem tq (T:Tx w K mg A D):aS P w K mg base eV 7 A.dA D.dE ["line","call"] (Ju P w A K):=by
 refine T.jM.ok sV (fun vs H Q E h=>?_) (fun cdv A' outer s0 H vs Q E hr h=>?_)
 ·obtain⟨ln,dx,ca,hv,W,q,s,l',x,z,rfl,_⟩:=h;rfl
 ·obtain⟨ln,dx,ca,hv,W,q,s,l',x,z,rfl,L,hca,hx,h0,h6,hl,k⟩:=h
  refine⟨_,(ah (aW (aO (bc (aK bI (pv 1) aq (fun _ _=>rfl)) aq)) (ak (aF (aG (pv 0) T.bS T.lU (qF T) (hr.mono (by decide)) T.mf .nil aJ (aa (aK bI (pv 1) aq (fun _ _=>rfl)) ag)))) aT)
   (ah (aW (aO (bc (aK bI (pv 1) aq (fun _ _=>rfl)) aq)) (ak (aF (aG (pv 0) T.bS T.qK (ve T) (hr.mono (by decide)) T.qU .nil aJ (aa (aK bI (pv 1) aq (fun _ _=>rfl)) ag)))) aT)
   (ah (aW (aO (bc (aK bI (pv 1) aq (fun _ _=>rfl)) aq)) (ak (aF (aG (pv 0) T.bS T.pL (uq T) (hr.mono (by decide)) T.pS .nil aJ (aa (aK bI (pv 1) aq (fun _ _=>rfl)) ag)))) aT)
   (ah (aW (aO (bc (aK bI (pv 1) aq (fun _ _=>rfl)) aq)) (ak (aF (gf (pv 0) T.bS T.qL (vf T) (hr.mono (by decide)) T.qV .nil aJ))) aT)
   (ak (aF (gf (pv 0) T.bS T.mS (rT T) (hr.mono (by decide)) T.nc .nil aJ))))))),?_⟩
  have eR:Cd (tl l') 0=some (.int z):=ou (j:=0) h0
  obtain⟨_,h0',_,hz⟩:=As hx
  rw[h0] at h0';cases h0'
  refine⟨_,rfl,ca,_,_,_,rfl,rfl,bM.of hca,eR,_,_,rfl,rfl,_,rfl,?_⟩
  refine d2 (fun hz=>?_) fun n6=>?_
  ·subst hz
   cases hx with
   | process i=>exact⟨_,rfl,ln,dx,_,rfl,L.ob,zn (by decide +kernel),_,rfl,ca,_,_,_,rfl,rfl,bM.of hca,ou (j:=1) rfl,ln,dx,hv,W,q,s,i,rfl,L,hl,k⟩
   | _=>simp at h0
  refine⟨_,rfl,ca,_,_,_,rfl,rfl,bM.of hca,eR,_,_,rfl,rfl,_,rfl,?_⟩
  refine d2 (fun hz=>?_) fun n7=>?_
  ·subst hz
   cases hx with
   | box i=>exact⟨_,rfl,ln,dx,_,rfl,L.ob,zn (by decide +kernel),_,rfl,ca,_,_,_,rfl,rfl,bM.of hca,ou (j:=1) rfl,ln,dx,hv,W,q,s,i,rfl,L,hl,k⟩
   | _=>simp at h0
  refine⟨_,rfl,ca,_,_,_,rfl,rfl,bM.of hca,eR,_,_,rfl,rfl,_,rfl,?_⟩
  refine d2 (fun hz=>?_) fun n8=>?_
  ·subst hz
   cases hx with
   | said i=>exact⟨_,rfl,ln,dx,_,rfl,L.ob,zn (by decide +kernel),_,rfl,ca,_,_,_,rfl,rfl,bM.of hca,ou (j:=1) rfl,ln,dx,hv,W,q,s,i,rfl,L,hl,k⟩
   | _=>simp at h0
  refine⟨_,rfl,ca,_,_,_,rfl,rfl,bM.of hca,eR,_,_,rfl,rfl,_,rfl,?_⟩
  refine d2 (fun hz=>?_) fun n9=>?_
  ·subst hz
   cases hx with
   | air=>exact⟨_,rfl,ln,dx,_,rfl,L.ob,zn (by decide +kernel),ln,dx,hv,W,q,s,rfl,L,hl,k⟩
   | _=>simp at h0
  obtain rfl:z=10:=by omega
  cases hx with
  | counts=>exact⟨_,rfl,ln,dx,_,rfl,L.ob,zn (by decide +kernel),ln,dx,hv,W,q,s,rfl,L,hl,k⟩
  | _=>simp at h0
theorem lP (T:Tx w K mg A D) (hB:K.In base):aS P w K mg base eV 32 A.fb D.fc ["line","call"] (yX P w A K):=by
 have kl:=fun(T:Tx w K mg A D)=>kl (P:=P) T hB
 have qG:=fun(T:Tx w K mg A D)=>qG (P:=P) T hB
 have nz:=fun(T:Tx w K mg A D)=>nz (P:=P) T hB
 refine T.pC.ok xk (fun vs H Q E h=>?_) (fun cdv A' outer s0 H vs Q E hr h=>?_)
 ·obtain⟨ln,dx,ca,hv,W,q,s,l',x,rfl,_⟩:=h;rfl
 ·obtain⟨ln,dx,ca,hv,W,q,s,l',x,rfl,L,hb,hca,hx,hl,k⟩:=h
  refine⟨_,(ah (aW (aO (bc (aK bI (pv 1) aq (fun _ _=>rfl)) aq)) (ak (aF (aG (pv 0) T.bS T.sf (kl T) (hr.mono (by decide)) T.sL .nil aJ (aa (A2 Dq (pv 1) (z4 aq) Hx) ag)))) aT)
   (ah (aW (aO (bc (aK bI (pv 1) aq (fun _ _=>rfl)) aq)) (ak (aF (aG (pv 0) T.bS T.vK (yO T) (hr.mono (by decide)) T.vZ .nil aJ (aa (aK bI (pv 1) aq (fun _ _=>rfl)) (aa (aK bI (pv 1) aq (fun _ _=>rfl)) ag))))) aT)
   (ah (aW (aO (bc (aK bI (pv 1) aq (fun _ _=>rfl)) aq)) (ak (aF (aG (pv 0) T.bS T.y0 (qG T) (hr.mono (by decide)) T.zC .nil aJ (aa (aK bI (pv 1) aq (fun _ _=>rfl)) (aa (aK bI (pv 1) aq (fun _ _=>rfl)) ag))))) aT)
   (ah (aW (aO (bc (aK bI (pv 1) aq (fun _ _=>rfl)) aq)) (ak (aF (aG (pv 0) T.bS T.sg (wG T) (hr.mono (by decide)) T.sM .nil aJ (aa (aK bI (pv 1) aq (fun _ _=>rfl)) (aa (aK bI (pv 1) aq (fun _ _=>rfl)) ag))))) aT)
   (ah (aW (aO (bc (aK bI (pv 1) aq (fun _ _=>rfl)) aq)) (ak (aF (aG (pv 0) T.bS T.vJ (yN T) (hr.mono (by decide)) T.vY .nil aJ (aa (aK bI (pv 1) aq (fun _ _=>rfl)) ag)))) aT)
   (ah (aW (aO (bc (aK bI (pv 1) aq (fun _ _=>rfl)) aq)) (ak (aF (aG (pv 0) T.bS T.vI (nz T) (hr.mono (by decide)) T.vX .nil aJ (aa (aK bI (pv 1) aq (fun _ _=>rfl)) ag)))) aT)
   (ak (aF (aV (tq T) (hr.mono (by decide)) rfl T.nZ T.jM.kp T.ot .nil aJ (aa (pv 0) (aa (pv 1) ag))))))))))),?_⟩
  obtain⟨z,h0,hz0,hz⟩:=As hx
  have eR:Cd (tl l') 0=some (.int z):=ou (j:=0) h0
  refine⟨_,rfl,ca,_,_,_,rfl,rfl,bM.of hca,eR,_,_,rfl,rfl,_,rfl,?_⟩
  refine d2 (fun hz=>?_) fun n0=>?_
  ·subst hz
   cases hx with
   | program nums hn =>
    refine⟨_,rfl,ln,dx,_,rfl,L.ob,zn (by decide +kernel),_,rfl,_,rfl,ca,_,rfl,bM.of hca,fun la hla=>?_⟩
    have ecut:yQ (tl (0::(nums.length:Int)::Bp.ic nums)) (some 2) none=nv nums:=by
     have h1:HT.AL (tl (0::(nums.length:Int)::Bp.ic nums)).length 0 (some (2:Int))=2:=zS (i:=2) (by rw[fV];simp)
     have e:yQ (tl (0::(nums.length:Int)::Bp.ic nums)) (some 2) none=((tl (0::(nums.length:Int)::Bp.ic nums)).drop 2).take ((tl (0::(nums.length:Int)::Bp.ic nums)).length-2):=by
      unfold yQ
      rw[h1];rfl
     have e2:tl (Bp.ic nums)=nv nums:=by
      unfold tl Bp.ic nv
      rw[List.map_map];rfl
     rw[e,fV,<-e2]
     refine List.take_of_length_le ?_
     show(tl (Bp.ic nums)).length<=_
     rw[fV]
     exact Nat.le_refl _
    rw[ecut]
    have c4:Ch [] H (upd H la (.lst (nv nums))):=Ch.new hla
    have g4:(upd H la (.lst (nv nums))) la=some (.lst (nv nums)):=ae
    generalize upd H la _=H4 at c4 g4 ⊢
    refine⟨ln,dx,la,hv,W,q,s,nums,rfl,L.news c4,g4,by omega,fun H5 hv5 W5 q5 r L5 hhv hwt c5 fr5 nr5 g5=>?_⟩
    refine k H5 hv5 W5 q5 r L5 hhv hwt ((c4.mono (by simp)).trans c5) (fun b hb=>?_) (fun hr=>?_) g5
    ·rcases fr5 b hb with z|z
     ·exact .inl z
     ·exact .inr (c4.free z (by simp))
    ·exact c4.free (nr5 hr) (by simp)
   | _=>simp at h0
  refine⟨_,rfl,ca,_,_,_,rfl,rfl,bM.of hca,eR,_,_,rfl,rfl,_,rfl,?_⟩
  refine d2 (fun hz=>?_) fun n1=>?_
  ·subst hz
   cases hx with
   | begin_ i j=>exact⟨_,rfl,ln,dx,_,rfl,L.ob,zn (by decide +kernel),_,rfl,ca,_,_,_,rfl,rfl,bM.of hca,ou (j:=1) rfl,_,rfl,ca,_,_,_,rfl,rfl,bM.of hca,ou (j:=2) rfl,ln,dx,hv,W,q,s,i,j,rfl,L,k⟩
   | _=>simp at h0
  refine⟨_,rfl,ca,_,_,_,rfl,rfl,bM.of hca,eR,_,_,rfl,rfl,_,rfl,?_⟩
  refine d2 (fun hz=>?_) fun n2=>?_
  ·subst hz
   cases hx with
   | run i j=>exact⟨_,rfl,ln,dx,_,rfl,L.ob,zn (by decide +kernel),_,rfl,ca,_,_,_,rfl,rfl,bM.of hca,ou (j:=1) rfl,_,rfl,ca,_,_,_,rfl,rfl,bM.of hca,ou (j:=2) rfl,ln,dx,hv,W,q,s,i,j,rfl,L,hb,k⟩
   | _=>simp at h0
  refine⟨_,rfl,ca,_,_,_,rfl,rfl,bM.of hca,eR,_,_,rfl,rfl,_,rfl,?_⟩
  refine d2 (fun hz=>?_) fun n3=>?_
  ·subst hz
   cases hx with
   | deliver i j=>exact⟨_,rfl,ln,dx,_,rfl,L.ob,zn (by decide +kernel),_,rfl,ca,_,_,_,rfl,rfl,bM.of hca,ou (j:=1) rfl,_,rfl,ca,_,_,_,rfl,rfl,bM.of hca,ou (j:=2) rfl,ln,dx,hv,W,q,s,i,j,rfl,L,hb,hl,k⟩
   | _=>simp at h0
  refine⟨_,rfl,ca,_,_,_,rfl,rfl,bM.of hca,eR,_,_,rfl,rfl,_,rfl,?_⟩
  refine d2 (fun hz=>?_) fun n4=>?_
  ·subst hz
   cases hx with
   | ticks i=>exact⟨_,rfl,ln,dx,_,rfl,L.ob,zn (by decide +kernel),_,rfl,ca,_,_,_,rfl,rfl,bM.of hca,ou (j:=1) rfl,ln,dx,hv,W,q,s,i,rfl,L,k⟩
   | _=>simp at h0
  refine⟨_,rfl,ca,_,_,_,rfl,rfl,bM.of hca,eR,_,_,rfl,rfl,_,rfl,?_⟩
  refine d2 (fun hz=>?_) fun n5=>?_
  ·subst hz
   cases hx with
   | turns i=>exact⟨_,rfl,ln,dx,_,rfl,L.ob,zn (by decide +kernel),_,rfl,ca,_,_,_,rfl,rfl,bM.of hca,ou (j:=1) rfl,ln,dx,hv,W,q,s,i,rfl,L,hb,k⟩
   | _=>simp at h0
  exact⟨_,rfl,_,rfl,ln,dx,ca,hv,W,q,s,l',x,z,rfl,L,hca,hx,h0,by omega,hl,k⟩
end Bt
namespace Bt
open PySem PySem.Spec PyProof.Rows L2
section
variable {w:World} {K:PySem.W.Frag} {h:Heap} {mg:Str->Option Value}
structure bO (K:PySem.W.Frag) (mg:Str->Option Value) (x:Str) (st:Stmt) (ps:List Str) (f:Addr) (fd:FuncData):Prop where
 F:dS K x x st f fd
 b:Binds K fd ps []
 g:mg x=some (.ref f)
abbrev bO.ad {x:Str} {st:Stmt} {ps:List Str} {f:Addr} {fd:FuncData} (_:bO K mg x st ps f fd):Addr:=f
theorem bX {x:Str} {st:Stmt} {ps:List Str} {f:Addr} {oc:Value} {od an:Option Addr} {osl:Array (Option Value)} {kV doc pm cdv ct:Value} (X:K.In h) (G:h.Ns mainGlobals mg) (a:PySem.W.nsIn K mainGlobals x=some (some (.ref f)))
  (l:K.lookup f=some ⟨oc,od,.func (PySem.W.fnOf x x (jY st) (gS st) (aA st) .none kV doc pm an cdv ct),osl⟩) (c:PySem.W.codeIn K cdv x=true) (k:PySem.W.keepIn K (.ref f)=true)
  (hb:∀(kV doc pm:Value) (an:Option Addr) (cdv ct:Value) (us:List Value),us.length=ps.length->bindArgs (PySem.W.fnOf x x (jY st) (gS st) (aA st) .none kV doc pm an cdv ct) ⟨us,[]⟩=pure (ps.zip us)):bO K mg x st ps f (PySem.W.fnOf x x (jY st) (gS st) (aA st) .none kV doc pm an cdv ct) :=
 ⟨Ap l c k,(Ap l c k).binds hb,PySem.W.mg_of X G a⟩
structure bP (K:PySem.W.Frag) (x ql:Str) (st:Stmt) (ps:List Str) (C f:Addr) (fd:FuncData):Prop where
 F:dS K x ql st f fd
 b:Binds K fd ps []
 m:Meth K C x f
theorem bY {cn x ql:Str} {st:Stmt} {ps:List Str} {C f:Addr} {oc:Value} {od an:Option Addr} {osl:Array (Option Value)} {kV doc pm cdv ct:Value} (X:K.In h) (aC:PySem.W.nsIn K mainGlobals cn=some (some (.ref C))) (a:PySem.W.findIn K (.ref C) x=some (some (.ref f)))
  (l:K.lookup f=some ⟨oc,od,.func (PySem.W.fnOf x ql (jY st) (gS st) (aA st) .none kV doc pm an cdv ct),osl⟩) (c:PySem.W.codeIn K cdv ql=true) (k:PySem.W.keepIn K (.ref f)=true) (i:PySem.W.isFn K (.ref f)=true)
  (hb:∀(kV doc pm:Value) (an:Option Addr) (cdv ct:Value) (us:List Value),us.length=ps.length->bindArgs (PySem.W.fnOf x ql (jY st) (gS st) (aA st) .none kV doc pm an cdv ct) ⟨us,[]⟩=pure (ps.zip us)):bP K x ql st ps C f (PySem.W.fnOf x ql (jY st) (gS st) (aA st) .none kV doc pm an cdv ct) :=
 ⟨Ap l c k,(Ap l c k).binds hb,⟨a,i,k⟩⟩
structure B8 (K:PySem.W.Frag) (mg:Str->Option Value) (x:Str) (C:Addr):Prop where
 k:Cf K C
 g:mg x=some (.ref C)
 ms:PySem.W.makesIn K C=true
 kp:PySem.W.keepIn K (.ref C)=true
theorem Gz {x:Str} {C:Addr} (X:K.In h) (G:h.Ns mainGlobals mg) (a:PySem.W.nsIn K mainGlobals x=some (some (.ref C))) (pg:PySem.W.plainGet K C Str.empty=true) (hd:PySem.W.hasDictIn K C=true) (po:PySem.W.plainOver K C=true) (sa:PySem.W.findIn K (.ref C) "__setattr__" = some (some (.builtin "object.__setattr__"))) (mk:PySem.W.makesIn K C=true) (kc:PySem.W.keepIn K (.ref C)=true):B8 K mg x C :=
 ⟨⟨pg,hd,po,sa⟩,PySem.W.mg_of X G a,mk,kc⟩
theorem bP.ini {C f:Addr} {cn ql:Str} {st:Stmt} {ps:List Str} {fd:FuncData} (c:B8 K mg cn C) (m:bP K "__init__" ql st ps C f fd):Mk K C f:=⟨c.ms,m.m.at_,m.m.fn,c.kp⟩
structure JZ (K:PySem.W.Frag) (mg:Str->Option Value) (x:Str) (C:Addr):Prop where
 ex:Exc K mg x C
 ey:∀h:Heap,K.In h->OwnClsQ x C [.type "Exception",.type "BaseException",.type "object"] "Exception.__new__" mg h
theorem excF {x nm q:Str} {C N:Addr} {bs sub:List Value} {hd ab:Bool} {sn:List Str} {col:Option Bool} {dd:Option Addr} {k0 k1 k2 k3 k5:Option Value} {oc:Value} {od:Option Addr} {es:Array DictEntry} {ep:Nat} {osl:Array (Option Value)} (X:K.In h) (G:h.Ns mainGlobals mg) (a:PySem.W.nsIn K mainGlobals x=some (some (.ref C)))
  (l:K.lookup C=some (excClassObj nm q C N bs [.type "Exception",.type "BaseException",.type "object"] hd sn sub ab col dd k0 k1 k2 k3 k5 "Exception.__new__")) (ln:K.lookup N=some ⟨oc,od,.dict es ep,osl⟩)
  (ks:es.toList.all (fun e=>match e.key with|.str _ _=>true|_=>false)=true) (n1:nsFind es "__init__" = none) (n2:nsFind es "__getattribute__" = none) (n3:nsFind es "__getattr__" = none) (n4:nsFind es "args" = none):JZ K mg x C:=by
 have g:=PySem.W.mg_of X G a
 have sk:StrKeys es:=fun e he=>by
  have:=List.all_eq_true.mp ks e (by simpa using he)
  cases hk:e.key with
  | str n t=>exact⟨n,t,rfl⟩
  | _=>rw[hk] at this;cases this
 have ns:∀h':Heap,K.In h'->h'.Ns N (nsFind es):=fun h' X'=>⟨_,es,ep,X' _ _ ln,rfl,sk,fun _=>rfl⟩
 refine⟨⟨g,fun h' X'=>⟨g,_,N,nm,q,bs,hd,sn,sub,ab,col,dd,k0,k1,k2,k3,k5,_,X' _ _ l,ns h' X',n1,.base⟩⟩,fun h' X'=>⟨g,_,N,nm,q,bs,hd,sn,sub,ab,col,dd,k0,k1,k2,k3,k5,_,X' _ _ l,ns h' X',fun n hn=>?_,.base⟩⟩
 unfold quietNames at hn
 simp only[List.mem_cons,List.not_mem_nil,or_false] at hn
 rcases hn with rfl|rfl|rfl|rfl
 ·exact n1
 ·exact n2
 ·exact n3
 ·exact n4
theorem gY {x:Str} {i:Int} {t:Tok} (X:K.In h) (G:h.Ns mainGlobals mg) (a:PySem.W.nsIn K mainGlobals x=some (some (.int i t))):GI mg x i:=⟨t,PySem.W.mg_of X G a⟩
structure BI (w:World) (K:PySem.W.Frag) (mg:Str->Option Value) (x:Str) (a:Addr) (kvs:List (Key×V)):Prop where
 e:vn w K a kvs
 h:mg x=some (.ref a)
theorem CJ {x:Str} {a:Addr} {kvs:List (Key×V)} {es:Array DictEntry} {ep:Nat} (X:K.In h) (G:h.Ns mainGlobals mg) (n:PySem.W.nsIn K mainGlobals x=some (some (.ref a))) (l:K.lookup a=some {cls:=.type "dict",dict:=none,data:=.dict es ep,slots:=#[]})
  (p:Paired (GV w) kvs es.toList) (nd:(kvs.map (·.1)).Nodup) (sm:(a==sysModules)=false) (sz:kvs.length<=1000):BI w K mg x a kvs:=⟨⟨⟨es,ep,l,p⟩,nd,sm,sz⟩,PySem.W.mg_of X G n⟩
theorem JM {x:Str} {a b:Addr} {d1 d2:Option Addr} {n1 n2:Nat} {t1 t2:Tok} {s1 s2:Array (Option Value)} (X:K.In h) (G:h.Ns mainGlobals mg) (n:PySem.W.nsIn K mainGlobals x=some (some (.ref a))) (l:K.lookup a=some ⟨.type "tuple",d1,.seq #[.ref b] n1,s1⟩)
  (m:K.lookup b=some ⟨.type "tuple",d2,.seq #[.int 0 t1,.int 0 t2] n2,s2⟩):∃a vs,mg x=some (.ref a)/\vm K (fun _=>none) vs [eL (.num 0)]/\TupAt K (fun _=>none) a vs:=by
 refine⟨a,[.ref b],PySem.W.mg_of X G n,.cons (.node (vs:=[.int 0,.int 0]) (.inr ⟨_,_,_,m,rfl,rfl,by show 2<=sizeLine;decide,.cons ⟨_,rfl⟩ (.cons ⟨_,rfl⟩ .nil)⟩) (.cons .leaf (.cons .leaf .nil))) .nil,.inr ⟨_,_,_,l,rfl,rfl,by show 1<=sizeLine;decide,.cons rfl .nil⟩⟩
end
theorem b8 {K:PySem.W.Frag} {mg:Str->Option Value} {cn x:Str} {C:Addr} (c:B8 K mg cn C) (h:PySem.W.findIn K (.ref C) x=some none):aZ K C x:=h
theorem mkTx {w:World} {K:PySem.W.Frag} {mg:Str->Option Value} {bE fg bN aj bK aR cLine ik il gH fC gG dW gF bp bF fu ll zh lj hZ jm gz fA dC dD cQ cy cP fB hX jr lh cK lq dU jq jt fw df jc cZ k7 e9 jb ja gB gA gC gD k6 zf jo gy fm hW ft jn ig ij cu cO dg gE cM ie fy cw ju dB cN jw fD iu lx fE ir iq jv cR eJ dX eK dh fx js lu lZ ee fb dA x8 gj qP j6 jd x9 x5:Addr} {iD iE gN fO gM dZ gL bq bG fH lB zj lA iz jx gJ fM dH dI cX cI cW fN iy jB ly cS lC dY jA jE fI di oo fK rM jF om oj lF lE lG lH rL zi jz gI fF iw fG jy iB iC cz cV dk gK cT iA fL cG jG dG cU jI fP iH lI fQ iG iF jH cY eM d5 eN dq fJ jD lD l4 eg fc dE:FuncData}
  (zcPairs:B8 K mg "Pairs" bE)
  (zaPairs_halves:aZ K bE "halves")
  (zaPairs_places:aZ K bE "places")
  (zxNoProgram:JZ K mg "NoProgram" fg)
  (zcReader:B8 K mg "Reader" bN)
  (zaReader_numbers:aZ K bN "numbers")
  (zaReader_place:aZ K bN "place")
  (zcProcess:B8 K mg "Process" aj)
  (zaProcess_number:aZ K aj "number")
  (zaProcess_name:aZ K aj "name")
  (zaProcess_mode:aZ K aj "mode")
  (zaProcess_node:aZ K aj "node")
  (zaProcess_variables:aZ K aj "variables")
  (zaProcess_value:aZ K aj "value")
  (zaProcess_since:aZ K aj "since")
  (zaProcess_looked:aZ K aj "looked")
  (zaProcess_todo:aZ K aj "todo")
  (zaProcess_box:aZ K aj "box")
  (zaProcess_said:aZ K aj "said")
  (zaProcess_children:aZ K aj "children")
  (zaProcess_watchers:aZ K aj "watchers")
  (zxTooManyProcesses:JZ K mg "TooManyProcesses" bK)
  (zcWorld:B8 K mg "World" aR)
  (zaWorld_functions:aZ K aR "functions")
  (zaWorld_processes:aZ K aR "processes")
  (zaWorld_letters:aZ K aR "letters")
  (zaWorld_time:aZ K aR "time")
  (zaWorld_pairs:aZ K aR "pairs")
  (zcLine:B8 K mg "Line" cLine)
  (zaLine_world:aZ K cLine "world")
  (zfPairs_init:bP K "__init__" "Pairs.__init__" kP ["self"] bE ik iD)
  (zfPairs_both:bP K "both" "Pairs.both" kQ ["self","first","second"] bE il iE)
  (zfPairs_first:bP K "first" "Pairs.first" jT ["self","value"] bE gH gN)
  (zfPairs_second:bP K "second" "Pairs.second" iY ["self","value"] bE fC fO)
  (zfReader_init:bP K "__init__" "Reader.__init__" jS ["self","numbers"] bN gG gM)
  (zfReader_is_done:bP K "is_done" "Reader.is_done" gs ["self"] bN dW dZ)
  (zfReader_take:bP K "take" "Reader.take" jR ["self","most"] bN gF gL)
  (zfReader_read_written:bP K "read_written" "Reader.read_written" dP ["self","depth"] bN bp bq)
  (zfReader_read_pattern:bP K "read_pattern" "Reader.read_pattern" dQ ["self","depth"] bN bF bG)
  (zfread_program:bO K mg "read_program" iR ["numbers"] fu fH)
  (zfoperated:bO K mg "operated" oK ["pairs","k","x","y"] ll lB)
  (zfhalf:bO K mg "half" zY ["pairs","k","x"] zh zj)
  (zfreckoned:bO K mg "reckoned" oJ ["k","x","y"] lj lA)
  (zfcome_round:bO K mg "come_round" kK ["number"] hZ iz)
  (zfwith_kept:bO K mg "with_kept" mC ["pairs","pattern","value","variables"] jm jx)
  (zfis_variable:bO K mg "is_variable" jO ["variables","place","value"] gz gJ)
  (zfProcess_init:bP K "__init__" "Process.__init__" iW ["self","number","name"] aj fA fM)
  (zfProcess_work_on:bP K "work_on" "Process.work_on" f9 ["self","node","variables"] aj dC dH)
  (zfProcess_come_to:bP K "come_to" "Process.come_to" gb ["self","value"] aj dD dI)
  (zfProcess_fail_with:bP K "fail_with" "Process.fail_with" eD ["self","value"] aj cQ cX)
  (zfProcess_await_word:bP K "await_word" "Process.await_word" d8 ["self","time"] aj cy cI)
  (zfProcess_has_ended:bP K "has_ended" "Process.has_ended" eC ["self"] aj cP cW)
  (zfProcess_copy:bP K "copy" "Process.copy" iX ["self"] aj fB fN)
  (zftake_steps:bO K mg "take_steps" kJ ["world","process","most"] hX iy)
  (zftake_step:bO K mg "take_step" mG ["world","process"] jr jB)
  (zfwork_out:bO K mg "work_out" oI ["world","process"] lh ly)
  (zfwork_out_variable:bO K mg "work_out_variable" ek ["process","place"] cK cS)
  (zfgo_wrong:bO K mg "go_wrong" oM ["process"] lq lC)
  (zfgo_on_awaiting:bO K mg "go_on_awaiting" gr ["world","process"] dU dY)
  (zftake_word:bO K mg "take_word" mF ["world","process","choices"] jq jA)
  (zffind_word:bO K mg "find_word" mI ["world","process","choices"] jt jE)
  (zfgo_on_raised:bO K mg "go_on_raised" iS ["world","process"] fw fI)
  (zfgo_on_with_value:bO K mg "go_on_with_value" eW ["world","process"] df di)
  (zfdo_both:bO K mg "do_both" rq ["world","process","thing"] jc oo)
  (zfdo_operation:bO K mg "do_operation" iU ["world","process","thing"] cZ fK)
  (zfdo_let:bO K mg "do_let" uc ["world","process","thing"] k7 rM)
  (zfdo_choice:bO K mg "do_choice" mJ ["world","process","thing"] e9 jF)
  (zfdo_call:bO K mg "do_call" rm ["world","process","thing"] jb om)
  (zfdo_send:bO K mg "do_send" rk ["world","process","thing"] ja oj)
  (zfdo_start:bO K mg "do_start" oP ["world","process","thing"] gB lF)
  (zfdo_watch:bO K mg "do_watch" oO ["world","process","thing"] gA lE)
  (zfdo_raise:bO K mg "do_raise" oQ ["world","process","thing"] gC lG)
  (zfdo_catch:bO K mg "do_catch" oR ["world","process","thing"] gD lH)
  (zfdo_say:bO K mg "do_say" ub ["world","process","thing"] k6 rL)
  (zftold:bO K mg "told" zX ["world","value"] zf zi)
  (zftold_name:bO K mg "told_name" mE ["world","number"] jo jz)
  (zftold_values:bO K mg "told_values" jN ["world","row"] gy gI)
  (zftold_process:bO K mg "told_process" iO ["world","process"] fm fF)
  (zftold_state:bO K mg "told_state" kI ["world","process"] hW iw)
  (zftold_letters:bO K mg "told_letters" iP ["world"] ft fG)
  (zftold_word:bO K mg "told_word" mD ["world","word"] jn jy)
  (zfWorld_init:bP K "__init__" "World.__init__" kM ["self","functions"] aR ig iB)
  (zfWorld_copy:bP K "copy" "World.copy" kO ["self"] aR ij iC)
  (zfWorld_has_function:bP K "has_function" "World.has_function" d6 ["self","f"] aR cu cz)
  (zfWorld_has_process:bP K "has_process" "World.has_process" ez ["self","number"] aR cO cV)
  (zfWorld_process_of:bP K "process_of" "World.process_of" eX ["self","number"] aR dg dk)
  (zfWorld_start:bP K "start" "World.start" jQ ["self","name","f","value"] aR gE gK)
  (zfWorld_start_child:bP K "start_child" "World.start_child" eo ["self","parent","f","value"] aR cM cT)
  (zfWorld_send:bP K "send" "World.send" kL ["self","sender","receiver","word"] aR ie iA)
  (zfWorld_arrive:bP K "arrive" "World.arrive" iV ["self","letter"] aR fy fL)
  (zfWorld_arrive_watch:bP K "arrive_watch" "World.arrive_watch" d7 ["self","watched","watcher"] aR cw cG)
  (zfWorld_end:bP K "end" "World.end" mK ["self","process","mode"] aR ju jG)
  (zfWorld_last_word:bP K "last_word" "World.last_word" f7 ["self","process"] aR dB dG)
  (zfWorld_is_overfull:bP K "is_overfull" "World.is_overfull" et ["self"] aR cN cU)
  (zfLine_init:bP K "__init__" "Line.__init__" mM ["self"] cLine jw jI)
  (zfLine_program:bP K "program" "Line.program" iZ ["self","written"] cLine fD fP)
  (zfLine_begin:bP K "begin" "Line.begin" kU ["self","f","n"] cLine iu iH)
  (zfLine_run:bP K "run" "Line.run" oS ["self","i","n"] cLine lx lI)
  (zfLine_deliver:bP K "deliver" "Line.deliver" i3 ["self","i","j"] cLine fE fQ)
  (zfLine_ticks:bP K "ticks" "Line.ticks" kT ["self","n"] cLine ir iG)
  (zfLine_turns:bP K "turns" "Line.turns" kR ["self","n"] cLine iq iF)
  (zfLine_keep:bP K "keep" "Line.keep" mL ["self","trial","answer"] cLine jv jH)
  (zfLine_tell_process:bP K "tell_process" "Line.tell_process" eF ["self","i"] cLine cR cY)
  (zfLine_tell_box:bP K "tell_box" "Line.tell_box" gQ ["self","i"] cLine eJ eM)
  (zfLine_tell_said:bP K "tell_said" "Line.tell_said" gu ["self","i"] cLine dX d5)
  (zfLine_tell_air:bP K "tell_air" "Line.tell_air" gR ["self"] cLine eK eN)
  (zfLine_tell_counts:bP K "tell_counts" "Line.tell_counts" eY ["self"] cLine dh dq)
  (zffirst_letter:bO K mg "first_letter" iT ["letters","sender","receiver"] fx fJ)
  (zfgo_rounds:bO K mg "go_rounds" mH ["world","rounds"] js jD)
  (zfgo_round:bO K mg "go_round" oN ["world"] lu lD)
  (zfanswers:bO K mg "answers" rA ["calls"] lZ l4)
  (zfsize_of_call:bO K mg "size_of_call" iQ ["calls","place"] ee eg)
  (zfanswer_call:bO K mg "answer_call" jP ["line","call"] fb fc)
  (zfanswer_question:bO K mg "answer_question" fZ ["line","call"] dA dE)
  (ziNUMBER:GI mg "NUMBER" (0))
  (ziNAME:GI mg "NAME" (1))
  (ziTWO:GI mg "TWO" (2))
  (ziMOST_NUMBERS:GI mg "MOST_NUMBERS" (300))
  (ziMOST_FUNCTIONS:GI mg "MOST_FUNCTIONS" (10))
  (ziDEEPEST_WRITTEN:GI mg "DEEPEST_WRITTEN" (20))
  (ziDEEPEST_PATTERN:GI mg "DEEPEST_PATTERN" (5))
  (ziLOWEST:GI mg "LOWEST" (-2147483648))
  (ziROUND:GI mg "ROUND" (4294967296))
  (ziWORKS:GI mg "WORKS" (0))
  (ziCAME:GI mg "CAME" (1))
  (ziRAISED:GI mg "RAISED" (2))
  (ziAWAITS:GI mg "AWAITS" (3))
  (ziAT_END:GI mg "AT_END" (4))
  (ziENDED_BY:GI mg "ENDED_BY" (5))
  (ziWRONG:GI mg "WRONG" (101))
  (ziGOES_ON:GI mg "GOES_ON" (0))
  (ziWAITS:GI mg "WAITS" (1))
  (ziHAS_VALUE:GI mg "HAS_VALUE" (2))
  (ziHAS_FAILED:GI mg "HAS_FAILED" (3))
  (ziMOST_PROCESSES:GI mg "MOST_PROCESSES" (20))
  (ziMOST_LETTERS:GI mg "MOST_LETTERS" (200))
  (ziMOST_STEPS:GI mg "MOST_STEPS" (300))
  (ziMOST_ROUNDS:GI mg "MOST_ROUNDS" (30))
  (ziMOST_TICKS:GI mg "MOST_TICKS" (1000))
  (ziSTEPS_OF_ROUND:GI mg "STEPS_OF_ROUND" (10))
  (ziBEYOND:GI mg "BEYOND" (-1))
  (ziNO_PROCESS:GI mg "NO_PROCESS" (-3))
  (ziNO_LETTER:GI mg "NO_LETTER" (-5))
  (ziOVERFULL:GI mg "OVERFULL" (-6))
  (ziBEGUN:GI mg "BEGUN" (-8))
  (zdPARTS:BI w K mg "PARTS" x8 [(Sum.inl (0:Int),V.str "n"),(Sum.inl (1:Int),V.str "i"),(Sum.inl (2:Int),V.str "ww"),(Sum.inl (3:Int),V.str "kww"),(Sum.inl (4:Int),V.str "ww"),(Sum.inl (5:Int),V.str "wpww"),(Sum.inl (6:Int),V.str "fw"),(Sum.inl (7:Int),V.str "pwpw"),(Sum.inl (8:Int),V.str "tpww"),(Sum.inl (9:Int),V.str "ww"),(Sum.inl (10:Int),V.str "fw"),(Sum.inl (11:Int),V.str ""),(Sum.inl (12:Int),V.str "w"),(Sum.inl (13:Int),V.str "w"),(Sum.inl (14:Int),V.str "ww"),(Sum.inl (15:Int),V.str "w")])
  (zdPATTERN_PARTS:BI w K mg "PATTERN_PARTS" gj [(Sum.inl (0:Int),V.str ""),(Sum.inl (1:Int),V.str ""),(Sum.inl (2:Int),V.str "n"),(Sum.inl (3:Int),V.str "i"),(Sum.inl (4:Int),V.str "pp")])
  (zdGRANTED:BI w K mg "GRANTED" qP [(Sum.inr ("n" : Str),V.int (1000000)),(Sum.inr ("i" : Str),V.int (20)),(Sum.inr ("f" : Str),V.int (9)),(Sum.inr ("k" : Str),V.int (6)),(Sum.inr ("t" : Str),V.int (1000))])
  (zdFIRST_PART:BI w K mg "FIRST_PART" j6 [(Sum.inl (2:Int),V.int (1)),(Sum.inl (3:Int),V.int (2)),(Sum.inl (4:Int),V.int (1)),(Sum.inl (5:Int),V.int (1)),(Sum.inl (6:Int),V.int (2)),(Sum.inl (9:Int),V.int (1)),(Sum.inl (10:Int),V.int (2)),(Sum.inl (12:Int),V.int (1)),(Sum.inl (13:Int),V.int (1)),(Sum.inl (14:Int),V.int (1)),(Sum.inl (15:Int),V.int (1))])
  (zdSECOND_PART:BI w K mg "SECOND_PART" jd [(Sum.inl (2:Int),V.int (2)),(Sum.inl (3:Int),V.int (3)),(Sum.inl (9:Int),V.int (2))])
  (zdDOING:BI w K mg "DOING" x9 [(Sum.inl (2:Int),V.ref jc),(Sum.inl (3:Int),V.ref cZ),(Sum.inl (4:Int),V.ref k7),(Sum.inl (5:Int),V.ref e9),(Sum.inl (6:Int),V.ref jb),(Sum.inl (9:Int),V.ref ja),(Sum.inl (10:Int),V.ref gB),(Sum.inl (12:Int),V.ref gA),(Sum.inl (13:Int),V.ref gC),(Sum.inl (14:Int),V.ref gD),(Sum.inl (15:Int),V.ref k6)])
  (zdSIZES:BI w K mg "SIZES" x5 [(Sum.inl (1:Int),V.int (3)),(Sum.inl (2:Int),V.int (3)),(Sum.inl (3:Int),V.int (3)),(Sum.inl (4:Int),V.int (2)),(Sum.inl (5:Int),V.int (2)),(Sum.inl (6:Int),V.int (2)),(Sum.inl (7:Int),V.int (2)),(Sum.inl (8:Int),V.int (2)),(Sum.inl (9:Int),V.int (1)),(Sum.inl (10:Int),V.int (1))])
  (ztFIRST_PROGRAM:∃a vs,mg "FIRST_PROGRAM" = some (.ref a)/\vm K (fun _=>none) vs [eL (.num 0)]/\TupAt K (fun _=>none) a vs)
  (zzlen:mg "len" = none)
  (zzlist:mg "list" = none)
  (zztuple:mg "tuple" = none)
  (zzrange:mg "range" = none)
  (zzenumerate:mg "enumerate" = none)
  : Tx w K mg (Ad.mk bE fg bN aj bK aR cLine ik il gH fC gG dW gF bp bF fu ll zh lj hZ jm gz fA dC dD cQ cy cP fB hX jr lh cK lq dU jq jt fw df jc cZ k7 e9 jb ja gB gA gC gD k6 zf jo gy fm hW ft jn ig ij cu cO dg gE cM ie fy cw ju dB cN jw fD iu lx fE ir iq jv cR eJ dX eK dh fx js lu lZ ee fb dA x8 gj qP j6 jd x9 x5) (Fg.mk iD iE gN fO gM dZ gL bq bG fH lB zj lA iz jx gJ fM dH dI cX cI cW fN iy jB ly cS lC dY jA jE fI di oo fK rM jF om oj lF lE lG lH rL zi jz gI fF iw fG jy iB iC cz cV dk gK cT iA fL cG jG dG cU jI fP iH lI fQ iG iF jH cY eM d5 eN dq fJ jD lD l4 eg fc dE) where
 v9:=zfPairs_init.F
 vW:=zfPairs_init.b
 vH:=zfPairs_init.ini zcPairs
 wb:=zfPairs_both.F
 m8:=zfPairs_both.b
 mR:=zfPairs_both.m
 uR:=zfPairs_first.F
 k8:=zfPairs_first.b
 kZ:=zfPairs_first.m
 sQ:=zfPairs_second.F
 jZ:=zfPairs_second.b
 jW:=zfPairs_second.m
 uQ:=zfReader_init.F
 uJ:=zfReader_init.b
 uw:=zfReader_init.ini zcReader
 pT:=zfReader_is_done.F
 ko:=zfReader_is_done.b
 kn:=zfReader_is_done.m
 uP:=zfReader_take.F
 je:=zfReader_take.b
 i7:=zfReader_take.m
 j9:=zfReader_read_written.F
 gk:=zfReader_read_written.b
 gh:=zfReader_read_written.m
 ka:=zfReader_read_pattern.F
 gm:=zfReader_read_pattern.b
 gi:=zfReader_read_pattern.m
 nO:=zfread_program.F
 sF:=zfread_program.b
 sx:=zfread_program.g
 vq:=zfoperated.F
 zq:=zfoperated.b
 zd:=zfoperated.g
 GU:=zfhalf.F
 IH:=zfhalf.b
 IB:=zfhalf.g
 vp:=zfreckoned.F
 zo:=zfreckoned.b
 zc:=zfreckoned.g
 j8:=zfcome_round.F
 mZ:=zfcome_round.b
 mW:=zfcome_round.g
 px:=zfwith_kept.F
 tJ:=zfwith_kept.b
 tF:=zfwith_kept.g
 pB:=zfis_variable.F
 uH:=zfis_variable.b
 uC:=zfis_variable.g
 sO:=zfProcess_init.F
 nI:=zfProcess_init.b
 nB:=zfProcess_init.ini zcProcess
 oy:=zfProcess_work_on.F
 bC:=zfProcess_work_on.b
 bA:=zfProcess_work_on.m
 oz:=zfProcess_come_to.F
 bD:=zfProcess_come_to.b
 bB:=zfProcess_come_to.m
 mn:=zfProcess_fail_with.F
 g0:=zfProcess_fail_with.b
 gX:=zfProcess_fail_with.m
 kG:=zfProcess_await_word.F
 kC:=zfProcess_await_word.b
 ky:=zfProcess_await_word.m
 ml:=zfProcess_has_ended.F
 fh:=zfProcess_has_ended.b
 eZ:=zfProcess_has_ended.m
 sP:=zfProcess_copy.F
 sJ:=zfProcess_copy.b
 r9:=zfProcess_copy.m
 ng:=zftake_steps.F
 qS:=zftake_steps.b
 qN:=zftake_steps.g
 tP:=zftake_step.F
 yc:=zftake_step.b
 xS:=zftake_step.g
 vo:=zfwork_out.F
 zm:=zfwork_out.b
 zb:=zfwork_out.g
 hG:=zfwork_out_variable.F
 l6:=zfwork_out_variable.b
 lW:=zfwork_out_variable.g
 iI:=zfgo_wrong.F
 jJ:=zfgo_wrong.b
 jl:=zfgo_wrong.g
 ku:=zfgo_on_awaiting.F
 pR:=zfgo_on_awaiting.b
 pQ:=zfgo_on_awaiting.g
 pA:=zftake_word.F
 tL:=zftake_word.b
 tH:=zftake_word.g
 tR:=zffind_word.F
 ye:=zffind_word.b
 xU:=zffind_word.g
 nP:=zfgo_on_raised.F
 sG:=zfgo_on_raised.b
 sy:=zfgo_on_raised.g
 jf:=zfgo_on_with_value.F
 mY:=zfgo_on_with_value.b
 mV:=zfgo_on_with_value.g
 yx:=zfdo_both.F
 BG:=zfdo_both.b
 Gp:=zfdo_both.g
 nR:=zfdo_operation.F
 sI:=zfdo_operation.b
 yP:=zfdo_operation.g
 Ay:=zfdo_let.F
 DT:=zfdo_let.b
 HQ:=zfdo_let.g
 tS:=zfdo_choice.F
 yf:=zfdo_choice.b
 CU:=zfdo_choice.g
 yw:=zfdo_call.F
 BF:=zfdo_call.b
 Gn:=zfdo_call.g
 yu:=zfdo_send.F
 BE:=zfdo_send.b
 Gm:=zfdo_send.g
 vx:=zfdo_start.F
 zz:=zfdo_start.b
 E5:=zfdo_start.g
 vw:=zfdo_watch.F
 zy:=zfdo_watch.b
 E4:=zfdo_watch.g
 vz:=zfdo_raise.F
 zA:=zfdo_raise.b
 E6:=zfdo_raise.g
 vA:=zfdo_catch.F
 zB:=zfdo_catch.b
 E7:=zfdo_catch.g
 Ax:=zfdo_say.F
 DS:=zfdo_say.b
 HP:=zfdo_say.g
 zK:=zftold.F
 BC:=zftold.b
 Bx:=zftold.g
 jL:=zftold_name.F
 l8:=zftold_name.b
 lX:=zftold_name.g
 k9:=zftold_values.F
 pk:=zftold_values.b
 pb:=zftold_values.g
 nL:=zftold_process.F
 sC:=zftold_process.b
 so:=zftold_process.g
 qY:=zftold_state.F
 vU:=zftold_state.b
 vR:=zftold_state.g
 nM:=zftold_letters.F
 sD:=zftold_letters.b
 sr:=zftold_letters.g
 pz:=zftold_word.F
 tK:=zftold_word.b
 tG:=zftold_word.g
 v7:=zfWorld_init.F
 m7:=zfWorld_init.b
 mQ:=zfWorld_init.ini zcWorld
 v8:=zfWorld_copy.F
 qT:=zfWorld_copy.b
 qJ:=zfWorld_copy.m
 kD:=zfWorld_has_function.F
 eH:=zfWorld_has_function.b
 eG:=zfWorld_has_function.m
 mj:=zfWorld_has_process.F
 b4:=zfWorld_has_process.b
 bZ:=zfWorld_has_process.m
 nh:=zfWorld_process_of.F
 cb:=zfWorld_process_of.b
 b9:=zfWorld_process_of.m
 uO:=zfWorld_start.F
 pq:=zfWorld_start.b
 oX:=zfWorld_start.m
 mh:=zfWorld_start_child.F
 l9:=zfWorld_start_child.b
 lS:=zfWorld_start_child.m
 v5:=zfWorld_send.F
 j7:=zfWorld_send.b
 j4:=zfWorld_send.m
 sN:=zfWorld_arrive.F
 nH:=zfWorld_arrive.b
 nA:=zfWorld_arrive.m
 kF:=zfWorld_arrive_watch.F
 kz:=zfWorld_arrive_watch.b
 kx:=zfWorld_arrive_watch.m
 yy:=zfWorld_end.F
 tM:=zfWorld_end.b
 tD:=zfWorld_end.m
 ox:=zfWorld_last_word.F
 jK:=zfWorld_last_word.b
 jk:=zfWorld_last_word.m
 mi:=zfWorld_is_overfull.F
 me:=zfWorld_is_overfull.b
 lT:=zfWorld_is_overfull.m
 yA:=zfLine_init.F
 yg:=zfLine_init.b
 xJ:=zfLine_init.ini zcLine
 sR:=zfLine_program.F
 sL:=zfLine_program.b
 sf:=zfLine_program.m
 we:=zfLine_begin.F
 vZ:=zfLine_begin.b
 vK:=zfLine_begin.m
 zL:=zfLine_run.F
 zC:=zfLine_run.b
 y0:=zfLine_run.m
 sS:=zfLine_deliver.F
 sM:=zfLine_deliver.b
 sg:=zfLine_deliver.m
 wd:=zfLine_ticks.F
 vY:=zfLine_ticks.b
 vJ:=zfLine_ticks.m
 wc:=zfLine_turns.F
 vX:=zfLine_turns.b
 vI:=zfLine_turns.m
 yz:=zfLine_keep.F
 tN:=zfLine_keep.b
 tE:=zfLine_keep.m
 mq:=zfLine_tell_process.F
 mf:=zfLine_tell_process.b
 lU:=zfLine_tell_process.m
 qZ:=zfLine_tell_box.F
 qU:=zfLine_tell_box.b
 qK:=zfLine_tell_box.m
 pU:=zfLine_tell_said.F
 pS:=zfLine_tell_said.b
 pL:=zfLine_tell_said.m
 rg:=zfLine_tell_air.F
 qV:=zfLine_tell_air.b
 qL:=zfLine_tell_air.m
 ni:=zfLine_tell_counts.F
 nc:=zfLine_tell_counts.b
 mS:=zfLine_tell_counts.m
 nQ:=zffirst_letter.F
 sH:=zffirst_letter.b
 sA:=zffirst_letter.g
 tQ:=zfgo_rounds.F
 yd:=zfgo_rounds.b
 xT:=zfgo_rounds.g
 vt:=zfgo_round.F
 zx:=zfgo_round.b
 ze:=zfgo_round.g
 B6:=zfanswers.F
 GH:=zfanswers.b
 Gq:=zfanswers.g
 nN:=zfsize_of_call.F
 sE:=zfsize_of_call.b
 su:=zfsize_of_call.g
 pC:=zfanswer_call.F
 uI:=zfanswer_call.b
 uD:=zfanswer_call.g
 jM:=zfanswer_question.F
 ot:=zfanswer_question.b
 nZ:=zfanswer_question.g
 kPairs:=zcPairs.k
 Gr:=zcPairs.g
 fU:=zaPairs_halves
 fT:=zaPairs_places
 gT:=zxNoProgram.ex
 wZ:=zxNoProgram.ey
 de:=zcReader.k
 DJ:=zcReader.g
 fj:=zaReader_numbers
 fR:=zaReader_place
 ao:=zcProcess.k
 xX:=zcProcess.g
 bH:=zaProcess_number
 gP:=zaProcess_name
 aN:=zaProcess_mode
 eh:=zaProcess_node
 bh:=zaProcess_variables
 aQ:=zaProcess_value
 eO:=zaProcess_since
 dr:=zaProcess_looked
 bU:=zaProcess_todo
 bW:=zaProcess_box
 fS:=zaProcess_said
 cg:=zaProcess_children
 bQ:=zaProcess_watchers
 fY:=zxTooManyProcesses.ex
 iL:=zxTooManyProcesses.ey
 aL:=zcWorld.k
 Ao:=zcWorld.g
 dJ:=zaWorld_functions
 bg:=zaWorld_processes
 br:=zaWorld_letters
 dw:=zaWorld_time
 bV:=zaWorld_pairs
 bS:=zcLine.k
 IC:=zcLine.g
 aU:=zaLine_world
 i9:=ziNUMBER
 xQ:=ziNAME
 HM:=ziTWO
 sh:=ziMOST_NUMBERS
 pP:=ziMOST_FUNCTIONS
 nX:=ziDEEPEST_WRITTEN
 nY:=ziDEEPEST_PATTERN
 Am:=ziLOWEST
 Ge:=ziROUND
 Ak:=ziWORKS
 Gf:=ziCAME
 Al:=ziRAISED
 wR:=ziAWAITS
 uA:=ziAT_END
 rG:=ziENDED_BY
 Gb:=ziWRONG
 Br:=ziGOES_ON
 Gd:=ziWAITS
 xR:=ziHAS_VALUE
 vP:=ziHAS_FAILED
 pO:=ziMOST_PROCESSES
 sj:=ziMOST_LETTERS
 vO:=ziMOST_STEPS
 uz:=ziMOST_ROUNDS
 vN:=ziMOST_TICKS
 pN:=ziSTEPS_OF_ROUND
 rJ:=ziBEYOND
 hU:=ziNO_PROCESS
 xP:=ziNO_LETTER
 rF:=ziOVERFULL
 Gg:=ziBEGUN
 CZ:=zdPARTS.e
 CT:=zdPARTS.h
 l0:=zdPATTERN_PARTS.e
 lV:=zdPATTERN_PARTS.h
 uF:=zdGRANTED.e
 uB:=zdGRANTED.h
 vS:=zdFIRST_PART.e
 vQ:=zdFIRST_PART.h
 ph:=zdSECOND_PART.e
 oZ:=zdSECOND_PART.h
 Gx:=zdDOING.e
 Gj:=zdDOING.h
 Gw:=zdSIZES.e
 Gi:=zdSIZES.h
 qf:=ztFIRST_PROGRAM
 gc:=zzlen
 vC:=zzlist
 zO:=zztuple
 Cg:=zzrange
 wY:=zzenumerate
end Bt
namespace Bt
open PySem PySem.Spec PyProof.Rows L2
open Ha09 (Val Pat Ctrl Proc Letter)
open Bp (wt iK oA rP zP bw aP Good Child bT dN CN Ff Aw)
variable {P:Program} {w:World} {K:PySem.W.Frag} {mg:Str->Option Value} {base:Heap} {A:Ad} {D:Fg}
inductive yq (K:PySem.W.Frag) (vs:List V) (H:Hp) (Q:VK):Prop|mk (a:Addr) (l:List Int):vs=[.ref a]->Arg K H a l->PyHa09.answers_asked l=true->(∀H' r,H' r=some (.lst (tl (PyHa09.answers l)))->Q (.ref r) H')->yq K vs H Q
def uW (K:PySem.W.Frag):Sp:=fun vs H Q _=>yq K vs H Q
inductive Dh (P:Program) (w:World) (A:Ad) (K:PySem.W.Frag) (a ln dx al:Addr) (l:List Int) (m:Nat) (σ:L2.St) (Hi:Hp):Prop|mk (pl j:Nat) (hv:Tab) (W:WL) (q:QL) (s:Ha09.St) (acc:List Int) (rs:List Bp.Raw) (f:Nat) (o4 o5:Option V):m=rs.length->σ=[some (.ref a),some (.ref ln),some (.ref al),some (.int (pl:Int)),o4,o5]->Arg K Hi a l->yj P w A K Hi ln dx hv W q s->Hi al=some (.lst (tl acc))->al∉ln::fp W q->PyFlat.calls PyHa09.shape f (l.drop pl)=some rs->pl<=l.length->Ff rs->j+rs.length<=40->wt s<=12000*j->hv.length<=6000*(j*(j+1))->acc++Aw s rs=PyHa09.answers l->Dh P w A K a ln dx al l m σ Hi
theorem CH (T:Tx w K mg A D) (kh:Tx w K mg A D->aS P w K mg base eV 1 A.ee D.eg ["calls","place"] (Ft K)) (lP:Tx w K mg A D->aS P w K mg base eV 32 A.fb D.fc ["line","call"] (yX P w A K)) :
  aS P w K mg base eV 33 A.lZ D.l4 ["calls"] (uW K):=by
 refine T.B6.ok gU (fun vs H Q E h=>?_) (fun cdv A' outer s0 H vs Q E hr h=>?_)
 ·obtain⟨a,l,rfl,_⟩:=h;rfl
 ·obtain⟨a,l,rfl,ha,hask,k⟩:=h
  obtain⟨raws,hraw,fine,h40,hlen,hans⟩:=Bp.Dd hask
  refine⟨_,(ah (aX (i:=1) gU.nd rfl (Or.inl rfl) (A3 T.xJ (Af T) (hr.mono (by decide)) rfl T.IC T.yg .nil aJ))
   (ah (aX (i:=2) gU.nd rfl (Or.inl rfl) (bf ag))
   (ah (aX (i:=3) gU.nd rfl (Or.inl rfl) aq)
   (ah (qu PassesOwn.never (aO (xy (pv 3) (a9 aM rfl T.gc PySem.boot_len (aa (pv 0) ag)))) (ah (aX (i:=4) gU.nd rfl (Or.inl rfl) (aV (kh T) (hr.mono (by decide)) rfl T.su T.nN.kp T.sE .nil aJ (aa (pv 0) (aa (pv 3) ag))))
   (ah (aX (i:=5) gU.nd rfl (Or.inl rfl) (aV (lP T) (hr.mono (by decide)) rfl T.uD T.pC.kp T.uI .nil aJ (aa (pv 1) (aa (A2 Dq (pv 0) (z4 (pv 3)) (z4 (eT oV (pv 3) (pv 4)))) ag))))
   (ah (aI (dO PySem.F.plainAttrs_list PySem.F.slot_list_append PySem.F.type_list_append bJ (pv 2) (aa (a9 aM rfl T.gc PySem.boot_len (aa (pv 5) ag)) ag)))
   (ah (aI (dO PySem.F.plainAttrs_list PySem.F.slot_list_extend PySem.F.type_list_extend hR (pv 2) (aa (pv 5) ag)))
   (ak (FO (i:=3) gU.nd rfl (Or.inl rfl) (pv 4) F9)))))))
   (ak (aF (pv 2))))))),?_⟩
  refine fun ln dx hx hdx hne=>?_
  have cx:Ch [] H (upd (upd H dx (.own ln)) ln (.ins A.cLine dx [])):=by
   have h2:(upd H dx (.own ln)) ln=none:=(aE hne.symm).trans hx
   exact(Ch.new hdx).trans (Ch.new h2)
  have gx:(upd (upd H dx (.own ln)) ln (.ins A.cLine dx [])) ln=some (.ins A.cLine dx []):=ae
  generalize upd (upd H dx _) ln _=H1 at cx gx ⊢
  refine⟨ln,dx,rfl,gx,fun H2 W q l2 c2 fr2=>⟨rfl,?_⟩⟩
  refine⟨Nat.zero_le _,fun al hal=>?_⟩
  generalize hH3:upd H2 al _=H3
  have c3:Ch [] H2 H3:=by rw[<-hH3];exact Ch.new hal
  have a3:H3 al=some (.lst (tl [])):=by rw[<-hH3];exact ae
  have ar3:=((ha.mono cx).mono c2).mono c3
  have l3:=l2.news c3
  have hall:al∉ln::fp W q:=fun z=>by
   rcases List.mem_cons.mp z with z|z
   ·rw[z,l2.ob] at hal;cases hal
   ·obtain⟨o,ho⟩:=l2.ws.there al z;rw[hal] at ho;cases ho
  refine⟨Dh P w A K a ln dx al l,
   ⟨_,0,0,[],W,q,Ha09.init,[],raws,l.length,none,none,rfl,rfl,ar3,l3,a3,hall,by rw[List.drop_zero];exact hraw,by omega,fine,by omega,by show 0<=_;omega,by show 0<=_;omega,by rw[List.nil_append];exact hans.symm⟩,?_⟩
  rintro m σ Hi ⟨pl,j,hv,W,q,s,acc,rs,f,o4,o5,rfl,rfl,ar,L,hal,hna,hcs,hpl,fi,hj,hw,hh,hacc⟩
  have htl:(tl l).length=l.length:=by unfold tl;simp
  refine⟨_,rfl,_,rfl,a,_,rfl,.inl ar.sq,_,_,rfl,rfl,_,rfl,?_⟩
  rw[htl]
  rcases Bp.C4 hcs fi with⟨hd,hr0⟩|⟨l',t,x,rs',f',hd,hx,hrl,fi',hcs',hst⟩
  ·refine d2 (fun h=>?_) fun _=>?_
   ·rw[List.drop_eq_nil_iff] at hd;omega
   ·refine⟨_,rfl,?_⟩
    refine k Hi al ?_
    rw[hal,<-hacc,hr0]
    simp[Aw,PyFlat.played,PyFlat.told]
  ·have hpos:=hx.pos
   have hdl:=congrArg List.length hd
   rw[List.length_drop,List.length_append] at hdl
   refine d2 (fun _=>?_) fun h=>absurd (by omega) h
   have hansl:=congrArg List.length hacc
   rw[hst s,List.length_append,List.length_cons,List.length_append] at hansl
   refine⟨fun σ' H'=>∃m'<rs.length,Dh P w A K a ln dx al l m' σ' H',fun σ' H' h=>h,?_⟩
   refine⟨_,rfl,_,rfl,a,l,l',t,pl,x,rfl,ar,hd,hx,?_⟩
   refine⟨_,rfl,_,rfl,_,rfl,_,rfl,_,rfl,_,rfl,_,_,rfl,rfl,_,rfl,a,_,rfl,ar.sq,fun ca hca=>?_⟩
   have ecut:yQ (tl l) (some (pl:Int)) (some ((pl:Int)+(l'.length:Int)))=tl l':=by
    rw[<-Int.natCast_add,HY (by omega) (by rw[htl];omega)]
    unfold tl
    rw[<-List.map_drop,hd,Nat.add_sub_cancel_left,<-List.map_take,List.take_left']
    rfl
   rw[ecut]
   generalize hH4:upd Hi ca _=H4
   have c4:Ch [] Hi H4:=by rw[<-hH4];exact Ch.new hca
   have g4:H4 ca=some (.lst (tl l')):=by rw[<-hH4];exact ae
   have al4:=c4.fr _ _ hal (by simp)
   have hb:hv.length+wt s+12000<=15000000:=by
    have h1:j*(j+1)<=39*40:=Nat.mul_le_mul (by omega) (by omega)
    omega
   refine⟨ln,dx,ca,hv,W,q,s,l',x,rfl,L.news c4,hb,g4,hx,by omega,fun H5 hv5 W5 q5 r L5 hhv hwt c5 fr5 nr5 g5=>?_⟩
   have al5:=c5.fr _ _ al4 hna
   have nral:r≠al:=fun e=>by have:=nr5 (by rw[e];exact hna);rw[e,al4] at this;cases this
   have hta:(tl acc).length=acc.length:=by unfold tl;simp
   have htr:(tl (Ha09.step s x).2).length=(Ha09.step s x).2.length:=by unfold tl;simp
   refine⟨_,rfl,.inl ⟨rfl,_,bM.of al5⟩,_,rfl,r,_,rfl,.inl (bM.of g5),al,_,_,rfl,rfl,al5,by rw[hta,sizeLine_eq];omega,?_⟩
   rw[htr]
   generalize hH6:upd H5 al _=H6
   have c6:Ch [al] H5 H6:=by rw[<-hH6];exact Ch.put al5 trivial (by simp)
   have al6:H6 al=some (.lst (tl (acc++[((Ha09.step s x).2.length:Int)]))):=by rw[<-hH6,ae];unfold tl;simp
   have g6:=c6.fr _ _ g5 (by simp[nral])
   have hta6:(tl (acc++[((Ha09.step s x).2.length:Int)])).length=acc.length+1:=by unfold tl;simp
   refine⟨_,rfl,.inl ⟨rfl,_,bM.of al6⟩,_,rfl,al,r,_,_,rfl,rfl,al6,g6,by rw[hta6,htr,sizeLine_eq];omega,?_⟩
   generalize hH7:upd H6 al _=H7
   have c7:Ch [al] H6 H7:=by rw[<-hH7];exact Ch.put al6 trivial (by simp)
   have al7:H7 al=some (.lst (tl (acc++((Ha09.step s x).2.length:Int)::(Ha09.step s x).2))):=by rw[<-hH7,ae];unfold tl;simp
   have c57:=c6.trans c7
   have nal5:al∉ln::fp W5 q5:=fun z=>by
    rcases List.mem_cons.mp z with z|z
    ·exact hna (by rw[z];exact List.mem_cons_self ..)
    ·rcases fr5 al z with z|z
     ·exact hna (List.mem_cons_of_mem _ z)
     ·rw[al4] at z;cases z
   refine⟨_,rfl,_,rfl,_,_,rfl,rfl,?_⟩
   refine⟨rs'.length,by omega,pl+l'.length,j+1,hv5,W5,q5,(Ha09.step s x).1,acc++((Ha09.step s x).2.length:Int)::(Ha09.step s x).2,rs',f',_,_,rfl,rfl,((ar.mono c4).mono c5).mono c57,?_,al7,nal5,?_,by omega,fi',by omega,by omega,?_,?_⟩
   ·have no:∀b∈[al],b∉fp W5 q5:=fun b hb z=>nal5 (by rw[<-List.mem_singleton.mp hb];exact List.mem_cons_of_mem _ z)
    exact⟨c57.fr _ _ L5.ob (fun z=>nal5 (by rw[<-List.mem_singleton.mp z];exact List.mem_cons_self ..)),L5.ws.free c57 no,L5.nl,L5.CC⟩
   ·rw[<-List.drop_drop,hd,List.drop_left']
    ·exact hcs'
    ·rfl
   ·have:(j+1)*(j+1+1)=j*(j+1)+2*(j+1):=by rw[Nat.mul_comm (j+1) (j+1+1),Nat.add_mul j 2 (j+1)]
    omega
   ·rw[<-hacc,hst s];simp
theorem F1 (T:Tx w K mg A D) (hB:K.In base):aS P w K mg base eV 33 A.lZ D.l4 ["calls"] (uW K) :=
 CH T (fun T=>kh T) (fun T=>lP T hB)
end Bt
namespace PySem.W.Fast
def tw15086601156810467679:=Nat
def tw5747660978741015984:=Nat
def tw10600470522291306920:=Nat
def tw5307556646736400468:=Nat
def tw5266560531869723093:=Nat
def tw1482506589928619210:=Nat
def tw10337855372859783826:=Nat
def tw572290392273204920:=Nat
def tw12078213349903768922:=Nat
def tw11936119505383624422:=Nat
def tw2425292386232875118:=Nat
def tw726322981655445122:=Nat
def tw12721236933959031950:=Nat
def tw13414629812675131009:=Nat
def tw12036267344123110734:=Nat
def tw11616252042281406621:=Nat
def tw9910583571974522094:=Nat
def tw1056616244439686842:=Nat
def tw10022920701094088858:=Nat
def tw1757008084669537346:=Nat
def tw4109776615958535601:=Nat
def tw13454093344894849422:=Nat
def tw6592581586887570146:=Nat
def tw7597943607165027155:=Nat
def tw5808047274752712838:=Nat
def tw15672398154504326406:=Nat
def tw14275998697520998980:=Nat
def tw2941645353176698361:=Nat
def tw16892483531368658100:=Nat
def tw372623255433628065:=Nat
def tw9023825507065215683:=Nat
def tw12395453327485886295:=Nat
def tw8128039614770608916:=Nat
def tw4313768484668997201:=Nat
def tw8023557285111264963:=Nat
def tw2109733047161872365:=Nat
def tw8641752279428659149:=Nat
def tw7649374860769465566:=Nat
def tw10851463700374091052:=Nat
def tw11624016722007212065:=Nat
def tw8942561612406451807:=Nat
def tw17184982289151797279:=Nat
def tw2388686037719764635:=Nat
def tw7545111725013201659:=Nat
def tw10269126918784865278:=Nat
def tw5660932062898972458:=Nat
def tw12664765202012089648:=Nat
def tw12367834204337410165:=Nat
def tw1653936973462171163:=Nat
def tw11985500458353003193:=Nat
def tw6709573445916252122:=Nat
def tw7189911462592846924:=Nat
def tw13783828338976830185:=Nat
def tw14182147543767354157:=Nat
def tw8081166836254427304:=Nat
def tw13959807276459169563:=Nat
def tw9761770582608005140:=Nat
def tw3362718475982790647:=Nat
def tw9146493562916275481:=Nat
def tw10229959633898330830:=Nat
def tw6156418226121897315:=Nat
def tw8608937332528404126:=Nat
def tw12307164610080934565:=Nat
def tw14166962430904016936:=Nat
def tw12872085829511151411:=Nat
def tw723381911850840511:=Nat
def tw17833224899161803740:=Nat
def tw15229850232991852599:=Nat
def tw13268378472674266441:=Nat
def tw18017520470796868440:=Nat
def tw17666008826340238599:=Nat
def tw16019717841284195472:=Nat
def tw17719502634203067876:=Nat
def tw7756071384964107961:=Nat
def tw299384691212362703:=Nat
def tw12924817158803798579:=Nat
def tw1918112916937266350:=Nat
def tw1266882140544426652:=Nat
def tw2381794772732225266:=Nat
def tw4078203926134491508:=Nat
def tw3571347373258127186:=Nat
def tw1508461403258646661:=Nat
def tw18284994181768661603:=Nat
def tw16183202597840356422:=Nat
def tw6924193172396245350:=Nat
def tw10928236963968038440:=Nat
def tw10017549392070456127:=Nat
def tw2728918064050230779:=Nat
def tw4637798534182110623:=Nat
def tw16473530422414099583:=Nat
def tw12522968706571167144:=Nat
def tw18289004611455958333:=Nat
def tw17448324388592690618:=Nat
def tw15323418629376592787:=Nat
def tw2647832888069799980:=Nat
def tw13452889637693801512:=Nat
def tw14225812617116636372:=Nat
def tw6309024901108062992:=Nat
def tw1091564469521263992:=Nat
def tw8309883428897645231:=Nat
def tw11559055221824129725:=Nat
def tw16486878790800516154:=Nat
def tw11782812234507222387:=Nat
def tw6574168234119049603:=Nat
def tw1991322589524353362:=Nat
def tw17896787739853447811:=Nat
def tw15146705345645137409:=Nat
def tw11495353268363888092:=Nat
def tw2216048409002383177:=Nat
def tw3190619886451285695:=Nat
def tw9774762788701837890:=Nat
def tw16127526610165605147:=Nat
def tw10187721233690449702:=Nat
def tw1577365913660262774:=Nat
def tw3933906933588406449:=Nat
def tw14307187982621018771:=Nat
def tw3834854571440890496:=Nat
def tw9349337411679109961:=Nat
def tw17283088826082081701:=Nat
def tw8207698169925468401:=Nat
def tw14924282496785981607:=Nat
def tw14939580737761528784:=Nat
def tw17815433037862581911:=Nat
def tw11872531581603306730:=Nat
def tw13030492027825380222:=Nat
def tw6727343355351611271:=Nat
def tw995153376192872430:=Nat
def tw8796403547676413907:=Nat
def tw10011543600196061022:=Nat
def tw17005959216285121258:=Nat
def tw14913274236227411602:=Nat
def tw10960573213133737195:=Nat
def tw13107772441674662020:=Nat
def tw10899135257652484708:=Nat
def tw9544288091786226847:=Nat
def tw9741881695279849130:=Nat
def tw12104983652487916211:=Nat
def tw8240491340044240258:=Nat
def tw17015100285731297892:=Nat
def tw15407965890890369291:=Nat
def tw4542356332762185274:=Nat
def tw12026524183737757333:=Nat
def tw12960683152107944363:=Nat
def tw16992869795494488070:=Nat
def tw1129906104601333151:=Nat
def tw11796292111056368646:=Nat
def tw12057680530688261659:=Nat
def tw13265857625220518095:=Nat
def tw672970642166568723:=Nat
def tw1842636591640261835:=Nat
def tw4734631196847001276:=Nat
def tw13491845649573976810:=Nat
def tw4777858487668101118:=Nat
def tw11286340357849419864:=Nat
def tw5634871995660266903:=Nat
def tw12367589473251783962:=Nat
def tw4714146421991748139:=Nat
def tw13242172933068153002:=Nat
def tw8681327714592749052:=Nat
def tw7660970864382162238:=Nat
def tw3438854370264503933:=Nat
def tw4076819587353211448:=Nat
def tw2942627584431393459:=Nat
def tw7578990147095470805:=Nat
def tw14505123881979199540:=Nat
def tw10088956673640072995:=Nat
def tw3185104249560557020:=Nat
def tw7665712206158022721:=Nat
def tw11812666280393042447:=Nat
def tw2233128830756902892:=Nat
def tw8217547047905740780:=Nat
def tw9861252695988955441:=Nat
def tw9214964736742976286:=Nat
def tw4830761984296946486:=Nat
def tw10800037957774953601:=Nat
def tw13120391231467846372:=Nat
def tw2293264169838891350:=Nat
def tw1308508192992827983:=Nat
def tw18404478213208414037:=Nat
def tw3176089810921459616:=Nat
def tw2846988104607474939:=Nat
def tw16462948202582680913:=Nat
def tw11077714373097264610:=Nat
def tw11432477779251228583:=Nat
def tw15019439218556600601:=Nat
def tw17260303777532337144:=Nat
def tw9206856708134352116:=Nat
def tw5281127154391892405:=Nat
def tw10325541533715421464:=Nat
def tw4864707926656899901:=Nat
def tw506242071510658110:=Nat
def tw5074698555877726276:=Nat
def tw3495048982669065023:=Nat
def tw16738442188865988461:=Nat
def tw8735047797193682023:=Nat
def tw2685509727395941428:=Nat
def tw9026897728089859351:=Nat
def tw5019560559548670944:=Nat
def tw6148058929721493548:=Nat
def tw12977614306856259053:=Nat
def tw14216163700592487062:=Nat
def tw7673167867202748953:=Nat
def tw7643576042871587188:=Nat
def tw15577808452121486650:=Nat
def tw7009104930356675739:=Nat
def tw7127934427906486607:=Nat
def tw10975269328966900528:=Nat
def tw3843208769202851568:=Nat
def tw8315661062717723069:=Nat
def tw3920170602132690962:=Nat
def tw12249731032080318662:=Nat
def tw17040298616110170518:=Nat
def tw837064519550817278:=Nat
def tw12407762612597902809:=Nat
def tw11563381540817990599:=Nat
def tw12940929683066581576:=Nat
def tw2685865319278858370:=Nat
def tw2357512519326729887:=Nat
def tw3587177234295708026:=Nat
def tw12638910109007623666:=Nat
def tw15886398182005315174:=Nat
def tw6789123052646617840:=Nat
def tw17717221073360805507:=Nat
def tw12761197017147841309:=Nat
def tw2467835105523457170:=Nat
def tw4106221632385422509:=Nat
def tw4830635232650757958:=Nat
def tw8945704513688908444:=Nat
def tw6570434576163013042:=Nat
def tw2417396465935326713:=Nat
def tw15783402848446599567:=Nat
def tw6181883606761400935:=Nat
def tw14450310659024894987:=Nat
def tw7892326850574293418:=Nat
def tw11071163453982445127:=Nat
def tw4180185738623875009:=Nat
def tw11885761136308339948:=Nat
def tw11959547341109396748:=Nat
def tw13823697369858543054:=Nat
def tw18201334875448251991:=Nat
def tw7795277005920091609:=Nat
def tw15260833330027074627:=Nat
def tw14808656740610236352:=Nat
def tw5055006339342631647:=Nat
def tw18141213388010246388:=Nat
def tw13981537811977485311:=Nat
def tw13487908053448635770:=Nat
def tw3834604316148502529:=Nat
def tw4990961249254484461:=Nat
def tw11998849537729663891:=Nat
def tw1712179918216595908:=Nat
def tw11609775166614155843:=Nat
def tw14340578830297307661:=Nat
def tw6360212525886181935:=Nat
def tw991866260821175537:=Nat
def tw4592927299195713445:=Nat
def tw25951871337731671:=Nat
def tw7219092320757450214:=Nat
def tw4141236907425440042:=Nat
def tw14536005461461483712:=Nat
def tw8301282722176406820:=Nat
def tw3570419253170466058:=Nat
def tw8021423917167162863:=Nat
def tw9561007222710725672:=Nat
def tw343253208195742821:=Nat
def tw3942710149415192325:=Nat
def tw4556272026664749492:=Nat
def tw13970619840641128395:=Nat
def tw2070399415676416439:=Nat
def tw15452576866082447662:=Nat
def tw11513012781285434798:=Nat
def tw16943019585356774346:=Nat
def tw6439159139636040550:=Nat
def tw2785817382604788584:=Nat
def tw14608808301454289964:=Nat
def tw17887200894526622530:=Nat
def tw5439247791295772463:=Nat
def tw4158715703286431150:=Nat
def tw10589195853867088172:=Nat
def tw4433011413909752122:=Nat
def tw9567553564068583979:=Nat
def tw12500732312706905655:=Nat
def tw4273852325937394955:=Nat
def tw704513217638856769:=Nat
def tw9842961023176405252:=Nat
def tw10456409736479430996:=Nat
def tw13706338180732525160:=Nat
def tw11797831672254552039:=Nat
def tw17950230235297638326:=Nat
def tw13252316610242213393:=Nat
def tw9599579894152322696:=Nat
def tw3511097935243131259:=Nat
def tw4835789892235307681:=Nat
def tw1483885327204547853:=Nat
def tw8812309902531488791:=Nat
def tw1919995181459146281:=Nat
def tw6984168944876607005:=Nat
def tw5665430247583411917:=Nat
def tw13324470994672826133:=Nat
def tw7273924411135109082:=Nat
def tw15850997541230231258:=Nat
def tw13701512077152919949:=Nat
def tw1260776894302786313:=Nat
def tw17433518177446009691:=Nat
def tw16925340673042874759:=Nat
def tw13475642694746751142:=Nat
def tw10649151963522138039:=Nat
def tw9021466847384817270:=Nat
def tw6272156424478608954:=Nat
def tw16896938855511091780:=Nat
def tw7346661559752109394:=Nat
def tw9839975257686148761:=Nat
def tw14739846581586572345:=Nat
def tw14497819974093944021:=Nat
def tw13237446918639888363:=Nat
def tw2199374581873587809:=Nat
def tw6915924262177120311:=Nat
def tw9827837473421545265:=Nat
def tw1617609849771212451:=Nat
def tw5904356277359820011:=Nat
def tw9562726977576839914:=Nat
def tw2607602358891946198:=Nat
def tw18043923060366452896:=Nat
def tw2849464184138681281:=Nat
def tw8319858796395052785:=Nat
def tw7895580070464756036:=Nat
def tw10240122113060307827:=Nat
def tw16582102118495332179:=Nat
def tw6163054580080841864:=Nat
def tw18240351282991129438:=Nat
def tw5577249839029613340:=Nat
def tw17459433870133188365:=Nat
def tw16941807813226761295:=Nat
def tw4484579625520918815:=Nat
def tw1593001980741271384:=Nat
def tw4887567818057738157:=Nat
def tw3116976779926047025:=Nat
def tw5789536646639054559:=Nat
def tw5833552884174612056:=Nat
def tw15042439398495043306:=Nat
def tw7174666607596961637:=Nat
def tw17078386298924065752:=Nat
def tw16520985790823998196:=Nat
def tw12670455475181348883:=Nat
def tw10777761269788640301:=Nat
def tw8643974741705488923:=Nat
def tw3684909896981411303:=Nat
def tw14768128969833032360:=Nat
def tw5636552452595534197:=Nat
def tw897870951844367978:=Nat
def tw6818855015426038961:=Nat
def tw7970638731427079049:=Nat
def tw4221557756121767473:=Nat
def tw13958367117418738464:=Nat
def tw5111092918842678350:=Nat
def tw12743954669328748972:=Nat
def tw14044472248754283633:=Nat
def tw10573212396656446600:=Nat
def tw17712596072692940361:=Nat
def tw8510511341656072453:=Nat
def tw5883720165185307928:=Nat
def tw2348103658949666037:=Nat
def tw17617725612935010057:=Nat
def tw15401276818790905678:=Nat
def tw10544795323651869809:=Nat
def tw12656686913754457528:=Nat
def tw15786994604506380309:=Nat
def tw1208773299024299863:=Nat
def tw6720958766181606726:=Nat
def tw16887767576725714807:=Nat
def tw12681095042990452808:=Nat
def tw18269141991405313613:=Nat
def tw4096470256134100614:=Nat
def tw9711116506178745023:=Nat
def tw2671446789371953193:=Nat
def tw14985565531150071703:=Nat
def tw11101922090287685134:=Nat
def tw8074722598231231534:=Nat
def tw2932914563905855562:=Nat
def tw15728255984684900203:=Nat
def tw12771233413177456844:=Nat
def tw14846340112680441909:=Nat
def tw10070150385422445165:=Nat
def tw8623009211719946447:=Nat
def tw14920865863798557170:=Nat
def tw12569569101902597246:=Nat
def tw2383537292599927588:=Nat
def tw17566403732885095390:=Nat
def tw16457580432752484136:=Nat
def tw10245991077724471495:=Nat
def tw3415759502698049601:=Nat
def tw7038383846518450855:=Nat
def tw11924400684946672021:=Nat
def tw4007806949177122186:=Nat
def tw18354690283336178657:=Nat
def tw586075971992561843:=Nat
def tw11541579405480205771:=Nat
def tw11933858473933968090:=Nat
def tw14756401816193453808:=Nat
def tw5009302405142905376:=Nat
def tw261635035644536904:=Nat
def tw5803717835497709012:=Nat
def tw9222585415593954182:=Nat
def tw686427531208271614:=Nat
def tw13817705428967077510:=Nat
def tw13372173037812073859:=Nat
def tw14637923662286019359:=Nat
def tw15135341691270495106:=Nat
def tw6564101727124896331:=Nat
def tw14517183366071938156:=Nat
def tw11230664490860908006:=Nat
def tw3790330873365716376:=Nat
def tw12697692100587827681:=Nat
def tw8010387138248084914:=Nat
def tw4277996310531398335:=Nat
def tw9461706647866764272:=Nat
def tw1919950143640529754:=Nat
def tw13186664723882041967:=Nat
def tw17674009914106265779:=Nat
def tw11950493408033399527:=Nat
def tw15103478038649079628:=Nat
def tw13966694069767718703:=Nat
def tw6812558774390382572:=Nat
def tw16649925973402603920:=Nat
def tw4291237004325902849:=Nat
def tw14460581383872589711:=Nat
def tw5062546868431785581:=Nat
def tw4044305775182117833:=Nat
def tw2733228514884977444:=Nat
def tw2197960014986720851:=Nat
def tw1107555538268583226:=Nat
def tw168496273983787133:=Nat
def tw16400564529336252827:=Nat
def tw1962417601864229563:=Nat
def tw11664829549048443009:=Nat
def tw661758326282155387:=Nat
def tw300041216944134721:=Nat
def tw18169950556345148272:=Nat
def tw14674048146605284083:=Nat
def tw1348502010963194130:=Nat
def tw12583475329830390482:=Nat
def tw14399607332312249021:=Nat
def tw15457014026764569348:=Nat
def tw6925011337474653225:=Nat
def tw8181107554418531536:=Nat
def tw2774221182095269904:=Nat
def tw271992757738306651:=Nat
def tw7516622393439908187:=Nat
def tw497718913348237973:=Nat
def tw13421719236521812280:=Nat
def tw11058997853466492612:=Nat
def tw10918725554877108016:=Nat
def tw4878984292487641584:=Nat
def tw4558000182520558590:=Nat
def tw7960647334284306207:=Nat
def tw5489729923086503032:=Nat
def tw13641819704456021427:=Nat
def tw10797570649719265139:=Nat
def tw14502789669198561092:=Nat
def tw8704009242864205013:=Nat
def tw11408959797955060341:=Nat
def tw14157472317514995604:=Nat
def tw13479746878627576100:=Nat
def tw5297842869180071422:=Nat
def tw2398930573699947231:=Nat
def tw4934388531129090227:=Nat
def tw8502258122888252058:=Nat
def tw18347382324210120351:=Nat
def tw1008833319645285772:=Nat
def tw2342877818426956866:=Nat
def tw11539291614535076572:=Nat
def tw4137954635414051756:=Nat
def tw1318238933462607127:=Nat
def tw2053756279214464921:=Nat
def tw10616560679811924996:=Nat
def tw9810993125078078217:=Nat
def tw974753768918732758:=Nat
def tw17212598865286671327:=Nat
def tw17985119520323542372:=Nat
def tw11805284020227977272:=Nat
def tw6510172033242476261:=Nat
def tw8095936292658174501:=Nat
def tw8385579593088512905:=Nat
def tw12632965806293580394:=Nat
def tw753274116722242168:=Nat
def tw13743788236124169146:=Nat
def tw17498946255987328269:=Nat
def tw2090493496891448488:=Nat
def tw11093328818625840853:=Nat
def tw7823002427015152347:=Nat
def tw181502244875511583:=Nat
def tw10181419117490572777:=Nat
def tw13663960403774593763:=Nat
def tw87235662394229144:=Nat
def tw17139264976629957677:=Nat
def tw12305573821665931630:=Nat
def tw1946441578384729201:=Nat
def tw11148658033559547186:=Nat
def tw13791881246687876386:=Nat
def tw9150062163677342545:=Nat
def tw1809329515612617686:=Nat
def tw11635550612583840030:=Nat
def tw7782277515511428775:=Nat
def tw11353278349345082474:=Nat
def tw13491195088657115796:=Nat
def tw80788577587249396:=Nat
def tw613862046481832351:=Nat
def tw8802078999513583877:=Nat
def tw11312277877927875374:=Nat
def tw3574041741278655373:=Nat
def tw4824576098967524109:=Nat
def tw15548448350012754296:=Nat
def tw12938987222119153555:=Nat
def tw16823277720314700001:=Nat
def tw12946687512848100377:=Nat
def tw6707743734614130573:=Nat
def tw16085200830863227040:=Nat
def tw1970355072221294962:=Nat
def tw16163767529024296240:=Nat
def tw5468967225947030279:=Nat
def tw5715901707237597748:=Nat
def tw9778964113331885604:=Nat
def tw18085834292921558425:=Nat
def tw12059009295500303039:=Nat
def tw8907051755002756032:=Nat
def tw5537117071835285254:=Nat
def tw12182241265104962699:=Nat
def tw17537530359463560775:=Nat
def tw1303826815846514954:=Nat
def tw11841764720291790218:=Nat
def tw3523899520845916484:=Nat
def tw2138446562318701356:=Nat
def tw14762350349590747118:=Nat
def tw4461521202942696609:=Nat
def tw15176709148144512031:=Nat
def tw15965137856219530493:=Nat
def tw6380091598232333196:=Nat
def tw13272160876638099158:=Nat
def tw6465489617890489821:=Nat
def tw699751681466950485:=Nat
def tw17294738715193925588:=Nat
def tw17310632875247253758:=Nat
def tw9679316097767129343:=Nat
def tw9857021130501476650:=Nat
def tw14976270273497427818:=Nat
def tw11498779045010227046:=Nat
def tw8489720335168450842:=Nat
def tw3012547578607880587:=Nat
def tw770751207268649289:=Nat
def tw6137138637835479641:=Nat
def tw13468094034243814860:=Nat
def tw9987044338935823399:=Nat
def tw1329106441501264933:=Nat
def tw12624466199260046476:=Nat
def tw13558975397548998124:=Nat
def tw17603308875178132983:=Nat
def tw3106687018464063803:=Nat
def tw13212324221119794962:=Nat
def tw11461637170868131254:=Nat
def tw5518882811221877593:=Nat
def tw15054841136395781097:=Nat
def tw16503824264640463425:=Nat
def tw9286894182429691746:=Nat
def tw12361716960689848630:=Nat
def tw5533215832924592456:=Nat
def tw17494253374793760875:=Nat
def tw12044990480303139856:=Nat
def tw10008630593138529267:=Nat
def tw3992279671686369078:=Nat
def tw15285506750787771391:=Nat
def tw84748174444945129:=Nat
def tw12516659524392674:=Nat
def tw7573457220744050910:=Nat
def tw14534799866275052560:=Nat
def tw16865049495612786009:=Nat
def tw10558034821861483485:=Nat
def tw12578558088681939519:=Nat
def tw8153280819533826157:=Nat
def tw709090623850065054:=Nat
def tw441520385847509329:=Nat
def tw3738313756238422701:=Nat
def tw5260763236359281626:=Nat
def tw14753115957663197735:=Nat
def tw3683761068938852203:=Nat
def tw3793901057601286552:=Nat
def tw7641810788788055869:=Nat
def tw10996029813238959506:=Nat
def tw4651413742605085126:=Nat
def tw11527398140805080421:=Nat
def tw2650576111668154643:=Nat
def tw4790648762685550187:=Nat
def tw13608199732186388714:=Nat
def tw15388889698660424074:=Nat
def tw4265595675332262299:=Nat
def tw911710925879701048:=Nat
def tw1503524466417538153:=Nat
def tw16929487445936618285:=Nat
def tw5173364890242297273:=Nat
def tw17272777240369111740:=Nat
def tw16046111616464267109:=Nat
def tw15164291402746192247:=Nat
def tw9013183309981121053:=Nat
def tw3336437724616244953:=Nat
def tw6801638474671187380:=Nat
def tw12747820242851754948:=Nat
def tw3885634960418951809:=Nat
def tw12092293429513583919:=Nat
def tw7293489480027066611:=Nat
def tw694672933717162088:=Nat
def tw13342738366339782570:=Nat
def tw6602419134479826766:=Nat
def tw7564668568405667269:=Nat
def tw10514075931976476926:=Nat
def tw8799353363294598608:=Nat
def tw9720905050245005578:=Nat
def tw1531628137458854559:=Nat
def tw5700892312727269137:=Nat
def tw4244290369027813322:=Nat
def tw10916651463323119341:=Nat
def tw4654801744190269888:=Nat
def tw1786859098548147232:=Nat
def tw12801590322051946360:=Nat
def tw15676634004292017966:=Nat
def tw7931354893766479178:=Nat
def tw10718543508244070735:=Nat
def tw8225100495339006397:=Nat
def tw11903717573061215510:=Nat
def tw12653947319504390644:=Nat
def tw5325394203543960481:=Nat
def tw10051531686737576016:=Nat
def tw5238762400465222961:=Nat
def tw16216803902077311186:=Nat
def tw8415014058706639300:=Nat
def tw11322410540496222607:=Nat
def tw9674067174515365936:=Nat
def tw17913179285388394057:=Nat
def tw15894225355001938159:=Nat
def tw1251919737104930278:=Nat
def tw10566717214988092363:=Nat
def tw3629761537447107640:=Nat
def tw10415066321643100158:=Nat
def tw9605620044532827343:=Nat
def tw13838801081731016954:=Nat
def tw8336533154903966077:=Nat
def tw2027664900111256750:=Nat
def tw9545318964945693121:=Nat
def tw7435131494580837511:=Nat
def tw2507797112547460611:=Nat
def tw7064736639013229706:=Nat
def tw8511022791223874389:=Nat
def tw13220788402980340872:=Nat
def tw7186356566181710460:=Nat
def tw7384327592023738034:=Nat
def tw7796271056018870984:=Nat
def tw4012077247764136083:=Nat
def tw2513129283084122288:=Nat
def tw3289559760114276730:=Nat
def tw73001691756263734:=Nat
def tw1508964654818309745:=Nat
def tw4706903831241494301:=Nat
def tw11742801844620664153:=Nat
def tw2564199156936092467:=Nat
def tw3694949224880882773:=Nat
def tw4034833595756260542:=Nat
def tw6020104415140978316:=Nat
def tw3727300903141481125:=Nat
def tw16953809330361207629:=Nat
def tw17376335060891348900:=Nat
def tw140776302469921515:=Nat
def tw15337237743164380537:=Nat
def tw2986488193340202930:=Nat
def tw16065725586267348669:=Nat
def tw11348370972181772195:=Nat
def tw17240454360994008648:=Nat
def tw13357265008683215811:=Nat
def tw3489595417091842020:=Nat
def tw449234401509255714:=Nat
def tw16906812069589109546:=Nat
def tw5821087251458601209:=Nat
def tw7643729799062019302:=Nat
def tw13974071513302042583:=Nat
def tw7748428797651865913:=Nat
def tw14480851553425841320:=Nat
def tw9006468096509623760:=Nat
def tw9873283084425895470:=Nat
def tw8981875463447633967:=Nat
def tw11479129416876968619:=Nat
def tw10100588697506888019:=Nat
def tw12094288724665325688:=Nat
def tw10579801596024158538:=Nat
def tw4106467837334969556:=Nat
def tw3109953847958662639:=Nat
def tw899128162322201375:=Nat
def tw13156169926920047383:=Nat
def tw10809718363025482150:=Nat
def tw11224041369275213848:=Nat
def tw8211351806875888791:=Nat
def tw15462013144068969273:=Nat
def tw10239070805424010037:=Nat
def tw18028774551062210728:=Nat
def tw10900344489831595890:=Nat
def tw1321481350535278838:=Nat
def tw16712365687938096695:=Nat
def tw10861933884028618426:=Nat
def tw9074601938403410238:=Nat
def tw6059212540787766308:=Nat
def tw2591234250967781197:=Nat
def tw8969937345479336922:=Nat
def tw1589259606062233820:=Nat
def tw5139338539286625930:=Nat
def tw1541698515971023213:=Nat
def tw16354000346229439835:=Nat
def tw1556704959284507150:=Nat
def tw2654048914031847266:=Nat
def tw16610382739305885662:=Nat
def tw10539778175118275070:=Nat
def tw11766986143288674454:=Nat
def tw907327339851366085:=Nat
def tw15249200002911182649:=Nat
def tw1081905676649151328:=Nat
def tw17176891860018165974:=Nat
def tw13287467475509423310:=Nat
def tw11965271485043810481:=Nat
def tw8438706366990733477:=Nat
def tw6945388210032377271:=Nat
end PySem.W.Fast
open PySem PySem.W PyProof.Rows
set_option maxRecDepth 100000 in
set_option maxHeartbeats 0 in
theorem PySem.Challenge.cw_boxturns_s01_answers_holds : PySem.Challenge.rw_boxturns_s01_answers.Holds := by
 w_on;k_headS;(case hw=>exact⟨[.list [.int 10]],by decide +kernel,by decide +kernel⟩)
 k_fillS
 refine L2.Ci (r:=PySem.Challenge.rw_boxturns_s01_answers) (k:=33) (CX:=L2.eV) (ps:=["calls"]) (sp:=Bt.uW) (by decide +kernel) rfl rfl ⟨rfl,by decide,by decide⟩ (fun w h Y=>PySem.W.kIn_of Y) ?F ?S (fun _ _ _ _ z=>z)
 case F =>
  intro w mg fa h Y KX G hmg
  have zcPairs:=by
   refine' Bt.Gz (x := "Pairs") KX G ?au1 ?pgu1 ?hdu1 ?pou1 ?sau1 ?mku1 ?kcu1
   (case au1=>k_is);(case pgu1=>k_is);(case hdu1=>k_is);(case pou1=>k_is);(case sau1=>k_is);(case mku1=>k_is);(case kcu1=>k_is)
  have zaPairs_halves:=by
   refine' Bt.b8 (x := "halves") zcPairs ?au2
   (case au2=>k_is)
  have zaPairs_places:=by
   refine' Bt.b8 (x := "places") zcPairs ?au3
   (case au3=>k_is)
  have zxNoProgram:=by
   refine' Bt.excF (x := "NoProgram") KX G ?au4 ?lu4 ?lnu4 ?ksu4 ?n1u4 ?n2u4 ?n3u4 ?n4u4
   (case au4=>k_is);(case lu4=>k_is);(case lnu4=>k_is);(case ksu4=>rfl);(case n1u4=>rfl);(case n2u4=>rfl);(case n3u4=>rfl);(case n4u4=>rfl)
  have zcReader:=by
   refine' Bt.Gz (x := "Reader") KX G ?au5 ?pgu5 ?hdu5 ?pou5 ?sau5 ?mku5 ?kcu5
   (case au5=>k_is);(case pgu5=>k_is);(case hdu5=>k_is);(case pou5=>k_is);(case sau5=>k_is);(case mku5=>k_is);(case kcu5=>k_is)
  have zaReader_numbers:=by
   refine' Bt.b8 (x := "numbers") zcReader ?au6
   (case au6=>k_is)
  have zaReader_place:=by
   refine' Bt.b8 (x := "place") zcReader ?au7
   (case au7=>k_is)
  have zcProcess:=by
   refine' Bt.Gz (x := "Process") KX G ?au8 ?pgu8 ?hdu8 ?pou8 ?sau8 ?mku8 ?kcu8
   (case au8=>k_is);(case pgu8=>k_is);(case hdu8=>k_is);(case pou8=>k_is);(case sau8=>k_is);(case mku8=>k_is);(case kcu8=>k_is)
  have zaProcess_number:=by
   refine' Bt.b8 (x := "number") zcProcess ?au9
   (case au9=>k_is)
  have zaProcess_name:=by
   refine' Bt.b8 (x := "name") zcProcess ?au10
   (case au10=>k_is)
  have zaProcess_mode:=by
   refine' Bt.b8 (x := "mode") zcProcess ?au11
   (case au11=>k_is)
  have zaProcess_node:=by
   refine' Bt.b8 (x := "node") zcProcess ?au12
   (case au12=>k_is)
  have zaProcess_variables:=by
   refine' Bt.b8 (x := "variables") zcProcess ?au13
   (case au13=>k_is)
  have zaProcess_value:=by
   refine' Bt.b8 (x := "value") zcProcess ?au14
   (case au14=>k_is)
  have zaProcess_since:=by
   refine' Bt.b8 (x := "since") zcProcess ?au15
   (case au15=>k_is)
  have zaProcess_looked:=by
   refine' Bt.b8 (x := "looked") zcProcess ?au16
   (case au16=>k_is)
  have zaProcess_todo:=by
   refine' Bt.b8 (x := "todo") zcProcess ?au17
   (case au17=>k_is)
  have zaProcess_box:=by
   refine' Bt.b8 (x := "box") zcProcess ?au18
   (case au18=>k_is)
  have zaProcess_said:=by
   refine' Bt.b8 (x := "said") zcProcess ?au19
   (case au19=>k_is)
  have zaProcess_children:=by
   refine' Bt.b8 (x := "children") zcProcess ?au20
   (case au20=>k_is)
  have zaProcess_watchers:=by
   refine' Bt.b8 (x := "watchers") zcProcess ?au21
   (case au21=>k_is)
  have zxTooManyProcesses:=by
   refine' Bt.excF (x := "TooManyProcesses") KX G ?au22 ?lu22 ?lnu22 ?ksu22 ?n1u22 ?n2u22 ?n3u22 ?n4u22
   (case au22=>k_is);(case lu22=>k_is);(case lnu22=>k_is);(case ksu22=>rfl);(case n1u22=>rfl);(case n2u22=>rfl);(case n3u22=>rfl);(case n4u22=>rfl)
  have zcWorld:=by
   refine' Bt.Gz (x := "World") KX G ?au23 ?pgu23 ?hdu23 ?pou23 ?sau23 ?mku23 ?kcu23
   (case au23=>k_is);(case pgu23=>k_is);(case hdu23=>k_is);(case pou23=>k_is);(case sau23=>k_is);(case mku23=>k_is);(case kcu23=>k_is)
  have zaWorld_functions:=by
   refine' Bt.b8 (x := "functions") zcWorld ?au24
   (case au24=>k_is)
  have zaWorld_processes:=by
   refine' Bt.b8 (x := "processes") zcWorld ?au25
   (case au25=>k_is)
  have zaWorld_letters:=by
   refine' Bt.b8 (x := "letters") zcWorld ?au26
   (case au26=>k_is)
  have zaWorld_time:=by
   refine' Bt.b8 (x := "time") zcWorld ?au27
   (case au27=>k_is)
  have zaWorld_pairs:=by
   refine' Bt.b8 (x := "pairs") zcWorld ?au28
   (case au28=>k_is)
  have zcLine:=by
   refine' Bt.Gz (x := "Line") KX G ?au29 ?pgu29 ?hdu29 ?pou29 ?sau29 ?mku29 ?kcu29
   (case au29=>k_is);(case pgu29=>k_is);(case hdu29=>k_is);(case pou29=>k_is);(case sau29=>k_is);(case mku29=>k_is);(case kcu29=>k_is)
  have zaLine_world:=by
   refine' Bt.b8 (x := "world") zcLine ?au30
   (case au30=>k_is)
  have zfPairs_init:=by
   refine' Bt.bY (cn := "Pairs") (x := "__init__") (ql := "Pairs.__init__") (st:=Bt.kP) (ps:=["self"]) KX ?aCu31 ?au31 ?lu31 ?cu31 ?ku31 ?iu31 (fun _ _ _ _ _ _ us hl=>match us,hl with|[_],_=>rfl)
   (case aCu31=>k_is);(case au31=>k_is);(case lu31=>k_is);(case cu31=>k_is);(case ku31=>k_is);(case iu31=>k_is)
  have zfPairs_both:=by
   refine' Bt.bY (cn := "Pairs") (x := "both") (ql := "Pairs.both") (st:=Bt.kQ) (ps:=["self","first","second"]) KX ?aCu32 ?au32 ?lu32 ?cu32 ?ku32 ?iu32 (fun _ _ _ _ _ _ us hl=>match us,hl with|[_,_,_],_=>rfl)
   (case aCu32=>k_is);(case au32=>k_is);(case lu32=>k_is);(case cu32=>k_is);(case ku32=>k_is);(case iu32=>k_is)
  have zfPairs_first:=by
   refine' Bt.bY (cn := "Pairs") (x := "first") (ql := "Pairs.first") (st:=Bt.jT) (ps:=["self","value"]) KX ?aCu33 ?au33 ?lu33 ?cu33 ?ku33 ?iu33 (fun _ _ _ _ _ _ us hl=>match us,hl with|[_,_],_=>rfl)
   (case aCu33=>k_is);(case au33=>k_is);(case lu33=>k_is);(case cu33=>k_is);(case ku33=>k_is);(case iu33=>k_is)
  have zfPairs_second:=by
   refine' Bt.bY (cn := "Pairs") (x := "second") (ql := "Pairs.second") (st:=Bt.iY) (ps:=["self","value"]) KX ?aCu34 ?au34 ?lu34 ?cu34 ?ku34 ?iu34 (fun _ _ _ _ _ _ us hl=>match us,hl with|[_,_],_=>rfl)
   (case aCu34=>k_is);(case au34=>k_is);(case lu34=>k_is);(case cu34=>k_is);(case ku34=>k_is);(case iu34=>k_is)
  have zfReader_init:=by
   refine' Bt.bY (cn := "Reader") (x := "__init__") (ql := "Reader.__init__") (st:=Bt.jS) (ps:=["self","numbers"]) KX ?aCu35 ?au35 ?lu35 ?cu35 ?ku35 ?iu35 (fun _ _ _ _ _ _ us hl=>match us,hl with|[_,_],_=>rfl)
   (case aCu35=>k_is);(case au35=>k_is);(case lu35=>k_is);(case cu35=>k_is);(case ku35=>k_is);(case iu35=>k_is)
  have zfReader_is_done:=by
   refine' Bt.bY (cn := "Reader") (x := "is_done") (ql := "Reader.is_done") (st:=Bt.gs) (ps:=["self"]) KX ?aCu36 ?au36 ?lu36 ?cu36 ?ku36 ?iu36 (fun _ _ _ _ _ _ us hl=>match us,hl with|[_],_=>rfl)
   (case aCu36=>k_is);(case au36=>k_is);(case lu36=>k_is);(case cu36=>k_is);(case ku36=>k_is);(case iu36=>k_is)
  have zfReader_take:=by
   refine' Bt.bY (cn := "Reader") (x := "take") (ql := "Reader.take") (st:=Bt.jR) (ps:=["self","most"]) KX ?aCu37 ?au37 ?lu37 ?cu37 ?ku37 ?iu37 (fun _ _ _ _ _ _ us hl=>match us,hl with|[_,_],_=>rfl)
   (case aCu37=>k_is);(case au37=>k_is);(case lu37=>k_is);(case cu37=>k_is);(case ku37=>k_is);(case iu37=>k_is)
  have zfReader_read_written:=by
   refine' Bt.bY (cn := "Reader") (x := "read_written") (ql := "Reader.read_written") (st:=Bt.dP) (ps:=["self","depth"]) KX ?aCu38 ?au38 ?lu38 ?cu38 ?ku38 ?iu38 (fun _ _ _ _ _ _ us hl=>match us,hl with|[_,_],_=>rfl)
   (case aCu38=>k_is);(case au38=>k_is);(case lu38=>k_is);(case cu38=>k_is);(case ku38=>k_is);(case iu38=>k_is)
  have zfReader_read_pattern:=by
   refine' Bt.bY (cn := "Reader") (x := "read_pattern") (ql := "Reader.read_pattern") (st:=Bt.dQ) (ps:=["self","depth"]) KX ?aCu39 ?au39 ?lu39 ?cu39 ?ku39 ?iu39 (fun _ _ _ _ _ _ us hl=>match us,hl with|[_,_],_=>rfl)
   (case aCu39=>k_is);(case au39=>k_is);(case lu39=>k_is);(case cu39=>k_is);(case ku39=>k_is);(case iu39=>k_is)
  have zfread_program:=by
   refine' Bt.bX (x := "read_program") (st:=Bt.iR) (ps:=["numbers"]) KX G ?au40 ?lu40 ?cu40 ?ku40 (fun _ _ _ _ _ _ us hl=>match us,hl with|[_],_=>rfl)
   (case au40=>k_is);(case lu40=>k_is);(case cu40=>k_is);(case ku40=>k_is)
  have zfoperated:=by
   refine' Bt.bX (x := "operated") (st:=Bt.oK) (ps:=["pairs","k","x","y"]) KX G ?au41 ?lu41 ?cu41 ?ku41 (fun _ _ _ _ _ _ us hl=>match us,hl with|[_,_,_,_],_=>rfl)
   (case au41=>k_is);(case lu41=>k_is);(case cu41=>k_is);(case ku41=>k_is)
  have zfhalf:=by
   refine' Bt.bX (x := "half") (st:=Bt.zY) (ps:=["pairs","k","x"]) KX G ?au42 ?lu42 ?cu42 ?ku42 (fun _ _ _ _ _ _ us hl=>match us,hl with|[_,_,_],_=>rfl)
   (case au42=>k_is);(case lu42=>k_is);(case cu42=>k_is);(case ku42=>k_is)
  have zfreckoned:=by
   refine' Bt.bX (x := "reckoned") (st:=Bt.oJ) (ps:=["k","x","y"]) KX G ?au43 ?lu43 ?cu43 ?ku43 (fun _ _ _ _ _ _ us hl=>match us,hl with|[_,_,_],_=>rfl)
   (case au43=>k_is);(case lu43=>k_is);(case cu43=>k_is);(case ku43=>k_is)
  have zfcome_round:=by
   refine' Bt.bX (x := "come_round") (st:=Bt.kK) (ps:=["number"]) KX G ?au44 ?lu44 ?cu44 ?ku44 (fun _ _ _ _ _ _ us hl=>match us,hl with|[_],_=>rfl)
   (case au44=>k_is);(case lu44=>k_is);(case cu44=>k_is);(case ku44=>k_is)
  have zfwith_kept:=by
   refine' Bt.bX (x := "with_kept") (st:=Bt.mC) (ps:=["pairs","pattern","value","variables"]) KX G ?au45 ?lu45 ?cu45 ?ku45 (fun _ _ _ _ _ _ us hl=>match us,hl with|[_,_,_,_],_=>rfl)
   (case au45=>k_is);(case lu45=>k_is);(case cu45=>k_is);(case ku45=>k_is)
  have zfis_variable:=by
   refine' Bt.bX (x := "is_variable") (st:=Bt.jO) (ps:=["variables","place","value"]) KX G ?au46 ?lu46 ?cu46 ?ku46 (fun _ _ _ _ _ _ us hl=>match us,hl with|[_,_,_],_=>rfl)
   (case au46=>k_is);(case lu46=>k_is);(case cu46=>k_is);(case ku46=>k_is)
  have zfProcess_init:=by
   refine' Bt.bY (cn := "Process") (x := "__init__") (ql := "Process.__init__") (st:=Bt.iW) (ps:=["self","number","name"]) KX ?aCu47 ?au47 ?lu47 ?cu47 ?ku47 ?iu47 (fun _ _ _ _ _ _ us hl=>match us,hl with|[_,_,_],_=>rfl)
   (case aCu47=>k_is);(case au47=>k_is);(case lu47=>k_is);(case cu47=>k_is);(case ku47=>k_is);(case iu47=>k_is)
  have zfProcess_work_on:=by
   refine' Bt.bY (cn := "Process") (x := "work_on") (ql := "Process.work_on") (st:=Bt.f9) (ps:=["self","node","variables"]) KX ?aCu48 ?au48 ?lu48 ?cu48 ?ku48 ?iu48 (fun _ _ _ _ _ _ us hl=>match us,hl with|[_,_,_],_=>rfl)
   (case aCu48=>k_is);(case au48=>k_is);(case lu48=>k_is);(case cu48=>k_is);(case ku48=>k_is);(case iu48=>k_is)
  have zfProcess_come_to:=by
   refine' Bt.bY (cn := "Process") (x := "come_to") (ql := "Process.come_to") (st:=Bt.gb) (ps:=["self","value"]) KX ?aCu49 ?au49 ?lu49 ?cu49 ?ku49 ?iu49 (fun _ _ _ _ _ _ us hl=>match us,hl with|[_,_],_=>rfl)
   (case aCu49=>k_is);(case au49=>k_is);(case lu49=>k_is);(case cu49=>k_is);(case ku49=>k_is);(case iu49=>k_is)
  have zfProcess_fail_with:=by
   refine' Bt.bY (cn := "Process") (x := "fail_with") (ql := "Process.fail_with") (st:=Bt.eD) (ps:=["self","value"]) KX ?aCu50 ?au50 ?lu50 ?cu50 ?ku50 ?iu50 (fun _ _ _ _ _ _ us hl=>match us,hl with|[_,_],_=>rfl)
   (case aCu50=>k_is);(case au50=>k_is);(case lu50=>k_is);(case cu50=>k_is);(case ku50=>k_is);(case iu50=>k_is)
  have zfProcess_await_word:=by
   refine' Bt.bY (cn := "Process") (x := "await_word") (ql := "Process.await_word") (st:=Bt.d8) (ps:=["self","time"]) KX ?aCu51 ?au51 ?lu51 ?cu51 ?ku51 ?iu51 (fun _ _ _ _ _ _ us hl=>match us,hl with|[_,_],_=>rfl)
   (case aCu51=>k_is);(case au51=>k_is);(case lu51=>k_is);(case cu51=>k_is);(case ku51=>k_is);(case iu51=>k_is)
  have zfProcess_has_ended:=by
   refine' Bt.bY (cn := "Process") (x := "has_ended") (ql := "Process.has_ended") (st:=Bt.eC) (ps:=["self"]) KX ?aCu52 ?au52 ?lu52 ?cu52 ?ku52 ?iu52 (fun _ _ _ _ _ _ us hl=>match us,hl with|[_],_=>rfl)
   (case aCu52=>k_is);(case au52=>k_is);(case lu52=>k_is);(case cu52=>k_is);(case ku52=>k_is);(case iu52=>k_is)
  have zfProcess_copy:=by
   refine' Bt.bY (cn := "Process") (x := "copy") (ql := "Process.copy") (st:=Bt.iX) (ps:=["self"]) KX ?aCu53 ?au53 ?lu53 ?cu53 ?ku53 ?iu53 (fun _ _ _ _ _ _ us hl=>match us,hl with|[_],_=>rfl)
   (case aCu53=>k_is);(case au53=>k_is);(case lu53=>k_is);(case cu53=>k_is);(case ku53=>k_is);(case iu53=>k_is)
  have zftake_steps:=by
   refine' Bt.bX (x := "take_steps") (st:=Bt.kJ) (ps:=["world","process","most"]) KX G ?au54 ?lu54 ?cu54 ?ku54 (fun _ _ _ _ _ _ us hl=>match us,hl with|[_,_,_],_=>rfl)
   (case au54=>k_is);(case lu54=>k_is);(case cu54=>k_is);(case ku54=>k_is)
  have zftake_step:=by
   refine' Bt.bX (x := "take_step") (st:=Bt.mG) (ps:=["world","process"]) KX G ?au55 ?lu55 ?cu55 ?ku55 (fun _ _ _ _ _ _ us hl=>match us,hl with|[_,_],_=>rfl)
   (case au55=>k_is);(case lu55=>k_is);(case cu55=>k_is);(case ku55=>k_is)
  have zfwork_out:=by
   refine' Bt.bX (x := "work_out") (st:=Bt.oI) (ps:=["world","process"]) KX G ?au56 ?lu56 ?cu56 ?ku56 (fun _ _ _ _ _ _ us hl=>match us,hl with|[_,_],_=>rfl)
   (case au56=>k_is);(case lu56=>k_is);(case cu56=>k_is);(case ku56=>k_is)
  have zfwork_out_variable:=by
   refine' Bt.bX (x := "work_out_variable") (st:=Bt.ek) (ps:=["process","place"]) KX G ?au57 ?lu57 ?cu57 ?ku57 (fun _ _ _ _ _ _ us hl=>match us,hl with|[_,_],_=>rfl)
   (case au57=>k_is);(case lu57=>k_is);(case cu57=>k_is);(case ku57=>k_is)
  have zfgo_wrong:=by
   refine' Bt.bX (x := "go_wrong") (st:=Bt.oM) (ps:=["process"]) KX G ?au58 ?lu58 ?cu58 ?ku58 (fun _ _ _ _ _ _ us hl=>match us,hl with|[_],_=>rfl)
   (case au58=>k_is);(case lu58=>k_is);(case cu58=>k_is);(case ku58=>k_is)
  have zfgo_on_awaiting:=by
   refine' Bt.bX (x := "go_on_awaiting") (st:=Bt.gr) (ps:=["world","process"]) KX G ?au59 ?lu59 ?cu59 ?ku59 (fun _ _ _ _ _ _ us hl=>match us,hl with|[_,_],_=>rfl)
   (case au59=>k_is);(case lu59=>k_is);(case cu59=>k_is);(case ku59=>k_is)
  have zftake_word:=by
   refine' Bt.bX (x := "take_word") (st:=Bt.mF) (ps:=["world","process","choices"]) KX G ?au60 ?lu60 ?cu60 ?ku60 (fun _ _ _ _ _ _ us hl=>match us,hl with|[_,_,_],_=>rfl)
   (case au60=>k_is);(case lu60=>k_is);(case cu60=>k_is);(case ku60=>k_is)
  have zffind_word:=by
   refine' Bt.bX (x := "find_word") (st:=Bt.mI) (ps:=["world","process","choices"]) KX G ?au61 ?lu61 ?cu61 ?ku61 (fun _ _ _ _ _ _ us hl=>match us,hl with|[_,_,_],_=>rfl)
   (case au61=>k_is);(case lu61=>k_is);(case cu61=>k_is);(case ku61=>k_is)
  have zfgo_on_raised:=by
   refine' Bt.bX (x := "go_on_raised") (st:=Bt.iS) (ps:=["world","process"]) KX G ?au62 ?lu62 ?cu62 ?ku62 (fun _ _ _ _ _ _ us hl=>match us,hl with|[_,_],_=>rfl)
   (case au62=>k_is);(case lu62=>k_is);(case cu62=>k_is);(case ku62=>k_is)
  have zfgo_on_with_value:=by
   refine' Bt.bX (x := "go_on_with_value") (st:=Bt.eW) (ps:=["world","process"]) KX G ?au63 ?lu63 ?cu63 ?ku63 (fun _ _ _ _ _ _ us hl=>match us,hl with|[_,_],_=>rfl)
   (case au63=>k_is);(case lu63=>k_is);(case cu63=>k_is);(case ku63=>k_is)
  have zfdo_both:=by
   refine' Bt.bX (x := "do_both") (st:=Bt.rq) (ps:=["world","process","thing"]) KX G ?au64 ?lu64 ?cu64 ?ku64 (fun _ _ _ _ _ _ us hl=>match us,hl with|[_,_,_],_=>rfl)
   (case au64=>k_is);(case lu64=>k_is);(case cu64=>k_is);(case ku64=>k_is)
  have zfdo_operation:=by
   refine' Bt.bX (x := "do_operation") (st:=Bt.iU) (ps:=["world","process","thing"]) KX G ?au65 ?lu65 ?cu65 ?ku65 (fun _ _ _ _ _ _ us hl=>match us,hl with|[_,_,_],_=>rfl)
   (case au65=>k_is);(case lu65=>k_is);(case cu65=>k_is);(case ku65=>k_is)
  have zfdo_let:=by
   refine' Bt.bX (x := "do_let") (st:=Bt.uc) (ps:=["world","process","thing"]) KX G ?au66 ?lu66 ?cu66 ?ku66 (fun _ _ _ _ _ _ us hl=>match us,hl with|[_,_,_],_=>rfl)
   (case au66=>k_is);(case lu66=>k_is);(case cu66=>k_is);(case ku66=>k_is)
  have zfdo_choice:=by
   refine' Bt.bX (x := "do_choice") (st:=Bt.mJ) (ps:=["world","process","thing"]) KX G ?au67 ?lu67 ?cu67 ?ku67 (fun _ _ _ _ _ _ us hl=>match us,hl with|[_,_,_],_=>rfl)
   (case au67=>k_is);(case lu67=>k_is);(case cu67=>k_is);(case ku67=>k_is)
  have zfdo_call:=by
   refine' Bt.bX (x := "do_call") (st:=Bt.rm) (ps:=["world","process","thing"]) KX G ?au68 ?lu68 ?cu68 ?ku68 (fun _ _ _ _ _ _ us hl=>match us,hl with|[_,_,_],_=>rfl)
   (case au68=>k_is);(case lu68=>k_is);(case cu68=>k_is);(case ku68=>k_is)
  have zfdo_send:=by
   refine' Bt.bX (x := "do_send") (st:=Bt.rk) (ps:=["world","process","thing"]) KX G ?au69 ?lu69 ?cu69 ?ku69 (fun _ _ _ _ _ _ us hl=>match us,hl with|[_,_,_],_=>rfl)
   (case au69=>k_is);(case lu69=>k_is);(case cu69=>k_is);(case ku69=>k_is)
  have zfdo_start:=by
   refine' Bt.bX (x := "do_start") (st:=Bt.oP) (ps:=["world","process","thing"]) KX G ?au70 ?lu70 ?cu70 ?ku70 (fun _ _ _ _ _ _ us hl=>match us,hl with|[_,_,_],_=>rfl)
   (case au70=>k_is);(case lu70=>k_is);(case cu70=>k_is);(case ku70=>k_is)
  have zfdo_watch:=by
   refine' Bt.bX (x := "do_watch") (st:=Bt.oO) (ps:=["world","process","thing"]) KX G ?au71 ?lu71 ?cu71 ?ku71 (fun _ _ _ _ _ _ us hl=>match us,hl with|[_,_,_],_=>rfl)
   (case au71=>k_is);(case lu71=>k_is);(case cu71=>k_is);(case ku71=>k_is)
  have zfdo_raise:=by
   refine' Bt.bX (x := "do_raise") (st:=Bt.oQ) (ps:=["world","process","thing"]) KX G ?au72 ?lu72 ?cu72 ?ku72 (fun _ _ _ _ _ _ us hl=>match us,hl with|[_,_,_],_=>rfl)
   (case au72=>k_is);(case lu72=>k_is);(case cu72=>k_is);(case ku72=>k_is)
  have zfdo_catch:=by
   refine' Bt.bX (x := "do_catch") (st:=Bt.oR) (ps:=["world","process","thing"]) KX G ?au73 ?lu73 ?cu73 ?ku73 (fun _ _ _ _ _ _ us hl=>match us,hl with|[_,_,_],_=>rfl)
   (case au73=>k_is);(case lu73=>k_is);(case cu73=>k_is);(case ku73=>k_is)
  have zfdo_say:=by
   refine' Bt.bX (x := "do_say") (st:=Bt.ub) (ps:=["world","process","thing"]) KX G ?au74 ?lu74 ?cu74 ?ku74 (fun _ _ _ _ _ _ us hl=>match us,hl with|[_,_,_],_=>rfl)
   (case au74=>k_is);(case lu74=>k_is);(case cu74=>k_is);(case ku74=>k_is)
  have zftold:=by
   refine' Bt.bX (x := "told") (st:=Bt.zX) (ps:=["world","value"]) KX G ?au75 ?lu75 ?cu75 ?ku75 (fun _ _ _ _ _ _ us hl=>match us,hl with|[_,_],_=>rfl)
   (case au75=>k_is);(case lu75=>k_is);(case cu75=>k_is);(case ku75=>k_is)
  have zftold_name:=by
   refine' Bt.bX (x := "told_name") (st:=Bt.mE) (ps:=["world","number"]) KX G ?au76 ?lu76 ?cu76 ?ku76 (fun _ _ _ _ _ _ us hl=>match us,hl with|[_,_],_=>rfl)
   (case au76=>k_is);(case lu76=>k_is);(case cu76=>k_is);(case ku76=>k_is)
  have zftold_values:=by
   refine' Bt.bX (x := "told_values") (st:=Bt.jN) (ps:=["world","row"]) KX G ?au77 ?lu77 ?cu77 ?ku77 (fun _ _ _ _ _ _ us hl=>match us,hl with|[_,_],_=>rfl)
   (case au77=>k_is);(case lu77=>k_is);(case cu77=>k_is);(case ku77=>k_is)
  have zftold_process:=by
   refine' Bt.bX (x := "told_process") (st:=Bt.iO) (ps:=["world","process"]) KX G ?au78 ?lu78 ?cu78 ?ku78 (fun _ _ _ _ _ _ us hl=>match us,hl with|[_,_],_=>rfl)
   (case au78=>k_is);(case lu78=>k_is);(case cu78=>k_is);(case ku78=>k_is)
  have zftold_state:=by
   refine' Bt.bX (x := "told_state") (st:=Bt.kI) (ps:=["world","process"]) KX G ?au79 ?lu79 ?cu79 ?ku79 (fun _ _ _ _ _ _ us hl=>match us,hl with|[_,_],_=>rfl)
   (case au79=>k_is);(case lu79=>k_is);(case cu79=>k_is);(case ku79=>k_is)
  have zftold_letters:=by
   refine' Bt.bX (x := "told_letters") (st:=Bt.iP) (ps:=["world"]) KX G ?au80 ?lu80 ?cu80 ?ku80 (fun _ _ _ _ _ _ us hl=>match us,hl with|[_],_=>rfl)
   (case au80=>k_is);(case lu80=>k_is);(case cu80=>k_is);(case ku80=>k_is)
  have zftold_word:=by
   refine' Bt.bX (x := "told_word") (st:=Bt.mD) (ps:=["world","word"]) KX G ?au81 ?lu81 ?cu81 ?ku81 (fun _ _ _ _ _ _ us hl=>match us,hl with|[_,_],_=>rfl)
   (case au81=>k_is);(case lu81=>k_is);(case cu81=>k_is);(case ku81=>k_is)
  have zfWorld_init:=by
   refine' Bt.bY (cn := "World") (x := "__init__") (ql := "World.__init__") (st:=Bt.kM) (ps:=["self","functions"]) KX ?aCu82 ?au82 ?lu82 ?cu82 ?ku82 ?iu82 (fun _ _ _ _ _ _ us hl=>match us,hl with|[_,_],_=>rfl)
   (case aCu82=>k_is);(case au82=>k_is);(case lu82=>k_is);(case cu82=>k_is);(case ku82=>k_is);(case iu82=>k_is)
  have zfWorld_copy:=by
   refine' Bt.bY (cn := "World") (x := "copy") (ql := "World.copy") (st:=Bt.kO) (ps:=["self"]) KX ?aCu83 ?au83 ?lu83 ?cu83 ?ku83 ?iu83 (fun _ _ _ _ _ _ us hl=>match us,hl with|[_],_=>rfl)
   (case aCu83=>k_is);(case au83=>k_is);(case lu83=>k_is);(case cu83=>k_is);(case ku83=>k_is);(case iu83=>k_is)
  have zfWorld_has_function:=by
   refine' Bt.bY (cn := "World") (x := "has_function") (ql := "World.has_function") (st:=Bt.d6) (ps:=["self","f"]) KX ?aCu84 ?au84 ?lu84 ?cu84 ?ku84 ?iu84 (fun _ _ _ _ _ _ us hl=>match us,hl with|[_,_],_=>rfl)
   (case aCu84=>k_is);(case au84=>k_is);(case lu84=>k_is);(case cu84=>k_is);(case ku84=>k_is);(case iu84=>k_is)
  have zfWorld_has_process:=by
   refine' Bt.bY (cn := "World") (x := "has_process") (ql := "World.has_process") (st:=Bt.ez) (ps:=["self","number"]) KX ?aCu85 ?au85 ?lu85 ?cu85 ?ku85 ?iu85 (fun _ _ _ _ _ _ us hl=>match us,hl with|[_,_],_=>rfl)
   (case aCu85=>k_is);(case au85=>k_is);(case lu85=>k_is);(case cu85=>k_is);(case ku85=>k_is);(case iu85=>k_is)
  have zfWorld_process_of:=by
   refine' Bt.bY (cn := "World") (x := "process_of") (ql := "World.process_of") (st:=Bt.eX) (ps:=["self","number"]) KX ?aCu86 ?au86 ?lu86 ?cu86 ?ku86 ?iu86 (fun _ _ _ _ _ _ us hl=>match us,hl with|[_,_],_=>rfl)
   (case aCu86=>k_is);(case au86=>k_is);(case lu86=>k_is);(case cu86=>k_is);(case ku86=>k_is);(case iu86=>k_is)
  have zfWorld_start:=by
   refine' Bt.bY (cn := "World") (x := "start") (ql := "World.start") (st:=Bt.jQ) (ps:=["self","name","f","value"]) KX ?aCu87 ?au87 ?lu87 ?cu87 ?ku87 ?iu87 (fun _ _ _ _ _ _ us hl=>match us,hl with|[_,_,_,_],_=>rfl)
   (case aCu87=>k_is);(case au87=>k_is);(case lu87=>k_is);(case cu87=>k_is);(case ku87=>k_is);(case iu87=>k_is)
  have zfWorld_start_child:=by
   refine' Bt.bY (cn := "World") (x := "start_child") (ql := "World.start_child") (st:=Bt.eo) (ps:=["self","parent","f","value"]) KX ?aCu88 ?au88 ?lu88 ?cu88 ?ku88 ?iu88 (fun _ _ _ _ _ _ us hl=>match us,hl with|[_,_,_,_],_=>rfl)
   (case aCu88=>k_is);(case au88=>k_is);(case lu88=>k_is);(case cu88=>k_is);(case ku88=>k_is);(case iu88=>k_is)
  have zfWorld_send:=by
   refine' Bt.bY (cn := "World") (x := "send") (ql := "World.send") (st:=Bt.kL) (ps:=["self","sender","receiver","word"]) KX ?aCu89 ?au89 ?lu89 ?cu89 ?ku89 ?iu89 (fun _ _ _ _ _ _ us hl=>match us,hl with|[_,_,_,_],_=>rfl)
   (case aCu89=>k_is);(case au89=>k_is);(case lu89=>k_is);(case cu89=>k_is);(case ku89=>k_is);(case iu89=>k_is)
  have zfWorld_arrive:=by
   refine' Bt.bY (cn := "World") (x := "arrive") (ql := "World.arrive") (st:=Bt.iV) (ps:=["self","letter"]) KX ?aCu90 ?au90 ?lu90 ?cu90 ?ku90 ?iu90 (fun _ _ _ _ _ _ us hl=>match us,hl with|[_,_],_=>rfl)
   (case aCu90=>k_is);(case au90=>k_is);(case lu90=>k_is);(case cu90=>k_is);(case ku90=>k_is);(case iu90=>k_is)
  have zfWorld_arrive_watch:=by
   refine' Bt.bY (cn := "World") (x := "arrive_watch") (ql := "World.arrive_watch") (st:=Bt.d7) (ps:=["self","watched","watcher"]) KX ?aCu91 ?au91 ?lu91 ?cu91 ?ku91 ?iu91 (fun _ _ _ _ _ _ us hl=>match us,hl with|[_,_,_],_=>rfl)
   (case aCu91=>k_is);(case au91=>k_is);(case lu91=>k_is);(case cu91=>k_is);(case ku91=>k_is);(case iu91=>k_is)
  have zfWorld_end:=by
   refine' Bt.bY (cn := "World") (x := "end") (ql := "World.end") (st:=Bt.mK) (ps:=["self","process","mode"]) KX ?aCu92 ?au92 ?lu92 ?cu92 ?ku92 ?iu92 (fun _ _ _ _ _ _ us hl=>match us,hl with|[_,_,_],_=>rfl)
   (case aCu92=>k_is);(case au92=>k_is);(case lu92=>k_is);(case cu92=>k_is);(case ku92=>k_is);(case iu92=>k_is)
  have zfWorld_last_word:=by
   refine' Bt.bY (cn := "World") (x := "last_word") (ql := "World.last_word") (st:=Bt.f7) (ps:=["self","process"]) KX ?aCu93 ?au93 ?lu93 ?cu93 ?ku93 ?iu93 (fun _ _ _ _ _ _ us hl=>match us,hl with|[_,_],_=>rfl)
   (case aCu93=>k_is);(case au93=>k_is);(case lu93=>k_is);(case cu93=>k_is);(case ku93=>k_is);(case iu93=>k_is)
  have zfWorld_is_overfull:=by
   refine' Bt.bY (cn := "World") (x := "is_overfull") (ql := "World.is_overfull") (st:=Bt.et) (ps:=["self"]) KX ?aCu94 ?au94 ?lu94 ?cu94 ?ku94 ?iu94 (fun _ _ _ _ _ _ us hl=>match us,hl with|[_],_=>rfl)
   (case aCu94=>k_is);(case au94=>k_is);(case lu94=>k_is);(case cu94=>k_is);(case ku94=>k_is);(case iu94=>k_is)
  have zfLine_init:=by
   refine' Bt.bY (cn := "Line") (x := "__init__") (ql := "Line.__init__") (st:=Bt.mM) (ps:=["self"]) KX ?aCu95 ?au95 ?lu95 ?cu95 ?ku95 ?iu95 (fun _ _ _ _ _ _ us hl=>match us,hl with|[_],_=>rfl)
   (case aCu95=>k_is);(case au95=>k_is);(case lu95=>k_is);(case cu95=>k_is);(case ku95=>k_is);(case iu95=>k_is)
  have zfLine_program:=by
   refine' Bt.bY (cn := "Line") (x := "program") (ql := "Line.program") (st:=Bt.iZ) (ps:=["self","written"]) KX ?aCu96 ?au96 ?lu96 ?cu96 ?ku96 ?iu96 (fun _ _ _ _ _ _ us hl=>match us,hl with|[_,_],_=>rfl)
   (case aCu96=>k_is);(case au96=>k_is);(case lu96=>k_is);(case cu96=>k_is);(case ku96=>k_is);(case iu96=>k_is)
  have zfLine_begin:=by
   refine' Bt.bY (cn := "Line") (x := "begin") (ql := "Line.begin") (st:=Bt.kU) (ps:=["self","f","n"]) KX ?aCu97 ?au97 ?lu97 ?cu97 ?ku97 ?iu97 (fun _ _ _ _ _ _ us hl=>match us,hl with|[_,_,_],_=>rfl)
   (case aCu97=>k_is);(case au97=>k_is);(case lu97=>k_is);(case cu97=>k_is);(case ku97=>k_is);(case iu97=>k_is)
  have zfLine_run:=by
   refine' Bt.bY (cn := "Line") (x := "run") (ql := "Line.run") (st:=Bt.oS) (ps:=["self","i","n"]) KX ?aCu98 ?au98 ?lu98 ?cu98 ?ku98 ?iu98 (fun _ _ _ _ _ _ us hl=>match us,hl with|[_,_,_],_=>rfl)
   (case aCu98=>k_is);(case au98=>k_is);(case lu98=>k_is);(case cu98=>k_is);(case ku98=>k_is);(case iu98=>k_is)
  have zfLine_deliver:=by
   refine' Bt.bY (cn := "Line") (x := "deliver") (ql := "Line.deliver") (st:=Bt.i3) (ps:=["self","i","j"]) KX ?aCu99 ?au99 ?lu99 ?cu99 ?ku99 ?iu99 (fun _ _ _ _ _ _ us hl=>match us,hl with|[_,_,_],_=>rfl)
   (case aCu99=>k_is);(case au99=>k_is);(case lu99=>k_is);(case cu99=>k_is);(case ku99=>k_is);(case iu99=>k_is)
  have zfLine_ticks:=by
   refine' Bt.bY (cn := "Line") (x := "ticks") (ql := "Line.ticks") (st:=Bt.kT) (ps:=["self","n"]) KX ?aCu100 ?au100 ?lu100 ?cu100 ?ku100 ?iu100 (fun _ _ _ _ _ _ us hl=>match us,hl with|[_,_],_=>rfl)
   (case aCu100=>k_is);(case au100=>k_is);(case lu100=>k_is);(case cu100=>k_is);(case ku100=>k_is);(case iu100=>k_is)
  have zfLine_turns:=by
   refine' Bt.bY (cn := "Line") (x := "turns") (ql := "Line.turns") (st:=Bt.kR) (ps:=["self","n"]) KX ?aCu101 ?au101 ?lu101 ?cu101 ?ku101 ?iu101 (fun _ _ _ _ _ _ us hl=>match us,hl with|[_,_],_=>rfl)
   (case aCu101=>k_is);(case au101=>k_is);(case lu101=>k_is);(case cu101=>k_is);(case ku101=>k_is);(case iu101=>k_is)
  have zfLine_keep:=by
   refine' Bt.bY (cn := "Line") (x := "keep") (ql := "Line.keep") (st:=Bt.mL) (ps:=["self","trial","answer"]) KX ?aCu102 ?au102 ?lu102 ?cu102 ?ku102 ?iu102 (fun _ _ _ _ _ _ us hl=>match us,hl with|[_,_,_],_=>rfl)
   (case aCu102=>k_is);(case au102=>k_is);(case lu102=>k_is);(case cu102=>k_is);(case ku102=>k_is);(case iu102=>k_is)
  have zfLine_tell_process:=by
   refine' Bt.bY (cn := "Line") (x := "tell_process") (ql := "Line.tell_process") (st:=Bt.eF) (ps:=["self","i"]) KX ?aCu103 ?au103 ?lu103 ?cu103 ?ku103 ?iu103 (fun _ _ _ _ _ _ us hl=>match us,hl with|[_,_],_=>rfl)
   (case aCu103=>k_is);(case au103=>k_is);(case lu103=>k_is);(case cu103=>k_is);(case ku103=>k_is);(case iu103=>k_is)
  have zfLine_tell_box:=by
   refine' Bt.bY (cn := "Line") (x := "tell_box") (ql := "Line.tell_box") (st:=Bt.gQ) (ps:=["self","i"]) KX ?aCu104 ?au104 ?lu104 ?cu104 ?ku104 ?iu104 (fun _ _ _ _ _ _ us hl=>match us,hl with|[_,_],_=>rfl)
   (case aCu104=>k_is);(case au104=>k_is);(case lu104=>k_is);(case cu104=>k_is);(case ku104=>k_is);(case iu104=>k_is)
  have zfLine_tell_said:=by
   refine' Bt.bY (cn := "Line") (x := "tell_said") (ql := "Line.tell_said") (st:=Bt.gu) (ps:=["self","i"]) KX ?aCu105 ?au105 ?lu105 ?cu105 ?ku105 ?iu105 (fun _ _ _ _ _ _ us hl=>match us,hl with|[_,_],_=>rfl)
   (case aCu105=>k_is);(case au105=>k_is);(case lu105=>k_is);(case cu105=>k_is);(case ku105=>k_is);(case iu105=>k_is)
  have zfLine_tell_air:=by
   refine' Bt.bY (cn := "Line") (x := "tell_air") (ql := "Line.tell_air") (st:=Bt.gR) (ps:=["self"]) KX ?aCu106 ?au106 ?lu106 ?cu106 ?ku106 ?iu106 (fun _ _ _ _ _ _ us hl=>match us,hl with|[_],_=>rfl)
   (case aCu106=>k_is);(case au106=>k_is);(case lu106=>k_is);(case cu106=>k_is);(case ku106=>k_is);(case iu106=>k_is)
  have zfLine_tell_counts:=by
   refine' Bt.bY (cn := "Line") (x := "tell_counts") (ql := "Line.tell_counts") (st:=Bt.eY) (ps:=["self"]) KX ?aCu107 ?au107 ?lu107 ?cu107 ?ku107 ?iu107 (fun _ _ _ _ _ _ us hl=>match us,hl with|[_],_=>rfl)
   (case aCu107=>k_is);(case au107=>k_is);(case lu107=>k_is);(case cu107=>k_is);(case ku107=>k_is);(case iu107=>k_is)
  have zffirst_letter:=by
   refine' Bt.bX (x := "first_letter") (st:=Bt.iT) (ps:=["letters","sender","receiver"]) KX G ?au108 ?lu108 ?cu108 ?ku108 (fun _ _ _ _ _ _ us hl=>match us,hl with|[_,_,_],_=>rfl)
   (case au108=>k_is);(case lu108=>k_is);(case cu108=>k_is);(case ku108=>k_is)
  have zfgo_rounds:=by
   refine' Bt.bX (x := "go_rounds") (st:=Bt.mH) (ps:=["world","rounds"]) KX G ?au109 ?lu109 ?cu109 ?ku109 (fun _ _ _ _ _ _ us hl=>match us,hl with|[_,_],_=>rfl)
   (case au109=>k_is);(case lu109=>k_is);(case cu109=>k_is);(case ku109=>k_is)
  have zfgo_round:=by
   refine' Bt.bX (x := "go_round") (st:=Bt.oN) (ps:=["world"]) KX G ?au110 ?lu110 ?cu110 ?ku110 (fun _ _ _ _ _ _ us hl=>match us,hl with|[_],_=>rfl)
   (case au110=>k_is);(case lu110=>k_is);(case cu110=>k_is);(case ku110=>k_is)
  have zfanswers:=by
   refine' Bt.bX (x := "answers") (st:=Bt.rA) (ps:=["calls"]) KX G ?au111 ?lu111 ?cu111 ?ku111 (fun _ _ _ _ _ _ us hl=>match us,hl with|[_],_=>rfl)
   (case au111=>k_is);(case lu111=>k_is);(case cu111=>k_is);(case ku111=>k_is)
  have zfsize_of_call:=by
   refine' Bt.bX (x := "size_of_call") (st:=Bt.iQ) (ps:=["calls","place"]) KX G ?au112 ?lu112 ?cu112 ?ku112 (fun _ _ _ _ _ _ us hl=>match us,hl with|[_,_],_=>rfl)
   (case au112=>k_is);(case lu112=>k_is);(case cu112=>k_is);(case ku112=>k_is)
  have zfanswer_call:=by
   refine' Bt.bX (x := "answer_call") (st:=Bt.jP) (ps:=["line","call"]) KX G ?au113 ?lu113 ?cu113 ?ku113 (fun _ _ _ _ _ _ us hl=>match us,hl with|[_,_],_=>rfl)
   (case au113=>k_is);(case lu113=>k_is);(case cu113=>k_is);(case ku113=>k_is)
  have zfanswer_question:=by
   refine' Bt.bX (x := "answer_question") (st:=Bt.fZ) (ps:=["line","call"]) KX G ?au114 ?lu114 ?cu114 ?ku114 (fun _ _ _ _ _ _ us hl=>match us,hl with|[_,_],_=>rfl)
   (case au114=>k_is);(case lu114=>k_is);(case cu114=>k_is);(case ku114=>k_is)
  have ziNUMBER:=by
   refine' Bt.gY (x := "NUMBER") (i:=0) KX G ?au115
   (case au115=>k_is)
  have ziNAME:=by
   refine' Bt.gY (x := "NAME") (i:=1) KX G ?au116
   (case au116=>k_is)
  have ziTWO:=by
   refine' Bt.gY (x := "TWO") (i:=2) KX G ?au117
   (case au117=>k_is)
  have ziMOST_NUMBERS:=by
   refine' Bt.gY (x := "MOST_NUMBERS") (i:=300) KX G ?au118
   (case au118=>k_is)
  have ziMOST_FUNCTIONS:=by
   refine' Bt.gY (x := "MOST_FUNCTIONS") (i:=10) KX G ?au119
   (case au119=>k_is)
  have ziDEEPEST_WRITTEN:=by
   refine' Bt.gY (x := "DEEPEST_WRITTEN") (i:=20) KX G ?au120
   (case au120=>k_is)
  have ziDEEPEST_PATTERN:=by
   refine' Bt.gY (x := "DEEPEST_PATTERN") (i:=5) KX G ?au121
   (case au121=>k_is)
  have ziLOWEST:=by
   refine' Bt.gY (x := "LOWEST") (i := -2147483648) KX G ?au122
   (case au122=>k_is)
  have ziROUND:=by
   refine' Bt.gY (x := "ROUND") (i:=4294967296) KX G ?au123
   (case au123=>k_is)
  have ziWORKS:=by
   refine' Bt.gY (x := "WORKS") (i:=0) KX G ?au124
   (case au124=>k_is)
  have ziCAME:=by
   refine' Bt.gY (x := "CAME") (i:=1) KX G ?au125
   (case au125=>k_is)
  have ziRAISED:=by
   refine' Bt.gY (x := "RAISED") (i:=2) KX G ?au126
   (case au126=>k_is)
  have ziAWAITS:=by
   refine' Bt.gY (x := "AWAITS") (i:=3) KX G ?au127
   (case au127=>k_is)
  have ziAT_END:=by
   refine' Bt.gY (x := "AT_END") (i:=4) KX G ?au128
   (case au128=>k_is)
  have ziENDED_BY:=by
   refine' Bt.gY (x := "ENDED_BY") (i:=5) KX G ?au129
   (case au129=>k_is)
  have ziWRONG:=by
   refine' Bt.gY (x := "WRONG") (i:=101) KX G ?au130
   (case au130=>k_is)
  have ziGOES_ON:=by
   refine' Bt.gY (x := "GOES_ON") (i:=0) KX G ?au131
   (case au131=>k_is)
  have ziWAITS:=by
   refine' Bt.gY (x := "WAITS") (i:=1) KX G ?au132
   (case au132=>k_is)
  have ziHAS_VALUE:=by
   refine' Bt.gY (x := "HAS_VALUE") (i:=2) KX G ?au133
   (case au133=>k_is)
  have ziHAS_FAILED:=by
   refine' Bt.gY (x := "HAS_FAILED") (i:=3) KX G ?au134
   (case au134=>k_is)
  have ziMOST_PROCESSES:=by
   refine' Bt.gY (x := "MOST_PROCESSES") (i:=20) KX G ?au135
   (case au135=>k_is)
  have ziMOST_LETTERS:=by
   refine' Bt.gY (x := "MOST_LETTERS") (i:=200) KX G ?au136
   (case au136=>k_is)
  have ziMOST_STEPS:=by
   refine' Bt.gY (x := "MOST_STEPS") (i:=300) KX G ?au137
   (case au137=>k_is)
  have ziMOST_ROUNDS:=by
   refine' Bt.gY (x := "MOST_ROUNDS") (i:=30) KX G ?au138
   (case au138=>k_is)
  have ziMOST_TICKS:=by
   refine' Bt.gY (x := "MOST_TICKS") (i:=1000) KX G ?au139
   (case au139=>k_is)
  have ziSTEPS_OF_ROUND:=by
   refine' Bt.gY (x := "STEPS_OF_ROUND") (i:=10) KX G ?au140
   (case au140=>k_is)
  have ziBEYOND:=by
   refine' Bt.gY (x := "BEYOND") (i := -1) KX G ?au141
   (case au141=>k_is)
  have ziNO_PROCESS:=by
   refine' Bt.gY (x := "NO_PROCESS") (i := -3) KX G ?au142
   (case au142=>k_is)
  have ziNO_LETTER:=by
   refine' Bt.gY (x := "NO_LETTER") (i := -5) KX G ?au143
   (case au143=>k_is)
  have ziOVERFULL:=by
   refine' Bt.gY (x := "OVERFULL") (i := -6) KX G ?au144
   (case au144=>k_is)
  have ziBEGUN:=by
   refine' Bt.gY (x := "BEGUN") (i := -8) KX G ?au145
   (case au145=>k_is)
  have zdPARTS:=by
   refine' Bt.CJ (w:=w) (x := "PARTS") (kvs:=[(Sum.inl (0:Int),L2.V.str "n"),(Sum.inl (1:Int),L2.V.str "i"),(Sum.inl (2:Int),L2.V.str "ww"),(Sum.inl (3:Int),L2.V.str "kww"),(Sum.inl (4:Int),L2.V.str "ww"),(Sum.inl (5:Int),L2.V.str "wpww"),(Sum.inl (6:Int),L2.V.str "fw"),(Sum.inl (7:Int),L2.V.str "pwpw"),(Sum.inl (8:Int),L2.V.str "tpww"),(Sum.inl (9:Int),L2.V.str "ww"),(Sum.inl (10:Int),L2.V.str "fw"),(Sum.inl (11:Int),L2.V.str ""),(Sum.inl (12:Int),L2.V.str "w"),(Sum.inl (13:Int),L2.V.str "w"),(Sum.inl (14:Int),L2.V.str "ww"),(Sum.inl (15:Int),L2.V.str "w")]) KX G ?nu146 ?lu146 ?pu146 ?ndu146 ?smu146 ?szu146
   (case nu146=>k_is);(case lu146=>k_is);(case pu146=>exact .cons ⟨rfl,rfl,⟨_,rfl⟩⟩ (.cons ⟨rfl,rfl,⟨_,rfl⟩⟩ (.cons ⟨rfl,rfl,⟨_,rfl⟩⟩ (.cons ⟨rfl,rfl,⟨_,rfl⟩⟩ (.cons ⟨rfl,rfl,⟨_,rfl⟩⟩ (.cons ⟨rfl,rfl,⟨_,rfl⟩⟩ (.cons ⟨rfl,rfl,⟨_,rfl⟩⟩ (.cons ⟨rfl,rfl,⟨_,rfl⟩⟩ (.cons ⟨rfl,rfl,⟨_,rfl⟩⟩ (.cons ⟨rfl,rfl,⟨_,rfl⟩⟩ (.cons ⟨rfl,rfl,⟨_,rfl⟩⟩ (.cons ⟨rfl,rfl,⟨_,rfl⟩⟩ (.cons ⟨rfl,rfl,⟨_,rfl⟩⟩ (.cons ⟨rfl,rfl,⟨_,rfl⟩⟩ (.cons ⟨rfl,rfl,⟨_,rfl⟩⟩ (.cons ⟨rfl,rfl,⟨_,rfl⟩⟩ (.nil)))))))))))))))));(case ndu146=>decide +kernel);(case smu146=>decide +kernel);(case szu146=>show 16<=1000;decide)
  have zdPATTERN_PARTS:=by
   refine' Bt.CJ (w:=w) (x := "PATTERN_PARTS") (kvs:=[(Sum.inl (0:Int),L2.V.str ""),(Sum.inl (1:Int),L2.V.str ""),(Sum.inl (2:Int),L2.V.str "n"),(Sum.inl (3:Int),L2.V.str "i"),(Sum.inl (4:Int),L2.V.str "pp")]) KX G ?nu147 ?lu147 ?pu147 ?ndu147 ?smu147 ?szu147
   (case nu147=>k_is);(case lu147=>k_is);(case pu147=>exact .cons ⟨rfl,rfl,⟨_,rfl⟩⟩ (.cons ⟨rfl,rfl,⟨_,rfl⟩⟩ (.cons ⟨rfl,rfl,⟨_,rfl⟩⟩ (.cons ⟨rfl,rfl,⟨_,rfl⟩⟩ (.cons ⟨rfl,rfl,⟨_,rfl⟩⟩ (.nil))))));(case ndu147=>decide +kernel);(case smu147=>decide +kernel);(case szu147=>show 5<=1000;decide)
  have zdGRANTED:=by
   refine' Bt.CJ (w:=w) (x := "GRANTED") (kvs:=[(Sum.inr ("n" : Str),L2.V.int (1000000)),(Sum.inr ("i" : Str),L2.V.int (20)),(Sum.inr ("f" : Str),L2.V.int (9)),(Sum.inr ("k" : Str),L2.V.int (6)),(Sum.inr ("t" : Str),L2.V.int (1000))]) KX G ?nu148 ?lu148 ?pu148 ?ndu148 ?smu148 ?szu148
   (case nu148=>k_is);(case lu148=>k_is);(case pu148=>exact .cons ⟨rfl,rfl,⟨_,rfl⟩⟩ (.cons ⟨rfl,rfl,⟨_,rfl⟩⟩ (.cons ⟨rfl,rfl,⟨_,rfl⟩⟩ (.cons ⟨rfl,rfl,⟨_,rfl⟩⟩ (.cons ⟨rfl,rfl,⟨_,rfl⟩⟩ (.nil))))));(case ndu148=>decide +kernel);(case smu148=>decide +kernel);(case szu148=>show 5<=1000;decide)
  have zdFIRST_PART:=by
   refine' Bt.CJ (w:=w) (x := "FIRST_PART") (kvs:=[(Sum.inl (2:Int),L2.V.int (1)),(Sum.inl (3:Int),L2.V.int (2)),(Sum.inl (4:Int),L2.V.int (1)),(Sum.inl (5:Int),L2.V.int (1)),(Sum.inl (6:Int),L2.V.int (2)),(Sum.inl (9:Int),L2.V.int (1)),(Sum.inl (10:Int),L2.V.int (2)),(Sum.inl (12:Int),L2.V.int (1)),(Sum.inl (13:Int),L2.V.int (1)),(Sum.inl (14:Int),L2.V.int (1)),(Sum.inl (15:Int),L2.V.int (1))]) KX G ?nu149 ?lu149 ?pu149 ?ndu149 ?smu149 ?szu149
   (case nu149=>k_is);(case lu149=>k_is);(case pu149=>exact .cons ⟨rfl,rfl,⟨_,rfl⟩⟩ (.cons ⟨rfl,rfl,⟨_,rfl⟩⟩ (.cons ⟨rfl,rfl,⟨_,rfl⟩⟩ (.cons ⟨rfl,rfl,⟨_,rfl⟩⟩ (.cons ⟨rfl,rfl,⟨_,rfl⟩⟩ (.cons ⟨rfl,rfl,⟨_,rfl⟩⟩ (.cons ⟨rfl,rfl,⟨_,rfl⟩⟩ (.cons ⟨rfl,rfl,⟨_,rfl⟩⟩ (.cons ⟨rfl,rfl,⟨_,rfl⟩⟩ (.cons ⟨rfl,rfl,⟨_,rfl⟩⟩ (.cons ⟨rfl,rfl,⟨_,rfl⟩⟩ (.nil))))))))))));(case ndu149=>decide +kernel);(case smu149=>decide +kernel);(case szu149=>show 11<=1000;decide)
  have zdSECOND_PART:=by
   refine' Bt.CJ (w:=w) (x := "SECOND_PART") (kvs:=[(Sum.inl (2:Int),L2.V.int (2)),(Sum.inl (3:Int),L2.V.int (3)),(Sum.inl (9:Int),L2.V.int (2))]) KX G ?nu150 ?lu150 ?pu150 ?ndu150 ?smu150 ?szu150
   (case nu150=>k_is);(case lu150=>k_is);(case pu150=>exact .cons ⟨rfl,rfl,⟨_,rfl⟩⟩ (.cons ⟨rfl,rfl,⟨_,rfl⟩⟩ (.cons ⟨rfl,rfl,⟨_,rfl⟩⟩ (.nil))));(case ndu150=>decide +kernel);(case smu150=>decide +kernel);(case szu150=>show 3<=1000;decide)
  have zdDOING:=by
   refine' Bt.CJ (w:=w) (x := "DOING") (kvs:=[(Sum.inl (2:Int),L2.V.ref zfdo_both.ad),(Sum.inl (3:Int),L2.V.ref zfdo_operation.ad),(Sum.inl (4:Int),L2.V.ref zfdo_let.ad),(Sum.inl (5:Int),L2.V.ref zfdo_choice.ad),(Sum.inl (6:Int),L2.V.ref zfdo_call.ad),(Sum.inl (9:Int),L2.V.ref zfdo_send.ad),(Sum.inl (10:Int),L2.V.ref zfdo_start.ad),(Sum.inl (12:Int),L2.V.ref zfdo_watch.ad),(Sum.inl (13:Int),L2.V.ref zfdo_raise.ad),(Sum.inl (14:Int),L2.V.ref zfdo_catch.ad),(Sum.inl (15:Int),L2.V.ref zfdo_say.ad)]) KX G ?nu151 ?lu151 ?pu151 ?ndu151 ?smu151 ?szu151
   (case nu151=>k_is);(case lu151=>k_is);(case pu151=>exact .cons ⟨rfl,rfl,rfl⟩ (.cons ⟨rfl,rfl,rfl⟩ (.cons ⟨rfl,rfl,rfl⟩ (.cons ⟨rfl,rfl,rfl⟩ (.cons ⟨rfl,rfl,rfl⟩ (.cons ⟨rfl,rfl,rfl⟩ (.cons ⟨rfl,rfl,rfl⟩ (.cons ⟨rfl,rfl,rfl⟩ (.cons ⟨rfl,rfl,rfl⟩ (.cons ⟨rfl,rfl,rfl⟩ (.cons ⟨rfl,rfl,rfl⟩ (.nil))))))))))));(case ndu151=>show List.Nodup [(Sum.inl (2:Int):L2.Key),(Sum.inl (3:Int):L2.Key),(Sum.inl (4:Int):L2.Key),(Sum.inl (5:Int):L2.Key),(Sum.inl (6:Int):L2.Key),(Sum.inl (9:Int):L2.Key),(Sum.inl (10:Int):L2.Key),(Sum.inl (12:Int):L2.Key),(Sum.inl (13:Int):L2.Key),(Sum.inl (14:Int):L2.Key),(Sum.inl (15:Int):L2.Key)];decide +kernel);(case smu151=>decide +kernel);(case szu151=>show 11<=1000;decide)
  have zdSIZES:=by
   refine' Bt.CJ (w:=w) (x := "SIZES") (kvs:=[(Sum.inl (1:Int),L2.V.int (3)),(Sum.inl (2:Int),L2.V.int (3)),(Sum.inl (3:Int),L2.V.int (3)),(Sum.inl (4:Int),L2.V.int (2)),(Sum.inl (5:Int),L2.V.int (2)),(Sum.inl (6:Int),L2.V.int (2)),(Sum.inl (7:Int),L2.V.int (2)),(Sum.inl (8:Int),L2.V.int (2)),(Sum.inl (9:Int),L2.V.int (1)),(Sum.inl (10:Int),L2.V.int (1))]) KX G ?nu152 ?lu152 ?pu152 ?ndu152 ?smu152 ?szu152
   (case nu152=>k_is);(case lu152=>k_is);(case pu152=>exact .cons ⟨rfl,rfl,⟨_,rfl⟩⟩ (.cons ⟨rfl,rfl,⟨_,rfl⟩⟩ (.cons ⟨rfl,rfl,⟨_,rfl⟩⟩ (.cons ⟨rfl,rfl,⟨_,rfl⟩⟩ (.cons ⟨rfl,rfl,⟨_,rfl⟩⟩ (.cons ⟨rfl,rfl,⟨_,rfl⟩⟩ (.cons ⟨rfl,rfl,⟨_,rfl⟩⟩ (.cons ⟨rfl,rfl,⟨_,rfl⟩⟩ (.cons ⟨rfl,rfl,⟨_,rfl⟩⟩ (.cons ⟨rfl,rfl,⟨_,rfl⟩⟩ (.nil)))))))))));(case ndu152=>decide +kernel);(case smu152=>decide +kernel);(case szu152=>show 10<=1000;decide)
  have ztFIRST_PROGRAM:=by
   refine' Bt.JM (x := "FIRST_PROGRAM") KX G ?nu153 ?lu153 ?mu153
   (case nu153=>k_is);(case lu153=>k_is);(case mu153=>k_is)
  have zzlen:=by
   refine' PySem.W.mg_none_of (n := "len") KX G ?nu154
   (case nu154=>k_is)
  have zzlist:=by
   refine' PySem.W.mg_none_of (n := "list") KX G ?nu155
   (case nu155=>k_is)
  have zztuple:=by
   refine' PySem.W.mg_none_of (n := "tuple") KX G ?nu156
   (case nu156=>k_is)
  have zzrange:=by
   refine' PySem.W.mg_none_of (n := "range") KX G ?nu157
   (case nu157=>k_is)
  have zzenumerate:=by
   refine' PySem.W.mg_none_of (n := "enumerate") KX G ?nu158
   (case nu158=>k_is)
  have T:=by
   refine' Bt.mkTx (w:=w) zcPairs zaPairs_halves zaPairs_places zxNoProgram zcReader zaReader_numbers zaReader_place zcProcess zaProcess_number zaProcess_name zaProcess_mode zaProcess_node zaProcess_variables zaProcess_value zaProcess_since zaProcess_looked zaProcess_todo zaProcess_box zaProcess_said zaProcess_children zaProcess_watchers zxTooManyProcesses zcWorld zaWorld_functions zaWorld_processes zaWorld_letters zaWorld_time zaWorld_pairs zcLine zaLine_world zfPairs_init zfPairs_both zfPairs_first zfPairs_second zfReader_init zfReader_is_done zfReader_take zfReader_read_written zfReader_read_pattern zfread_program zfoperated zfhalf zfreckoned zfcome_round zfwith_kept zfis_variable zfProcess_init zfProcess_work_on zfProcess_come_to zfProcess_fail_with zfProcess_await_word zfProcess_has_ended zfProcess_copy zftake_steps zftake_step zfwork_out zfwork_out_variable zfgo_wrong zfgo_on_awaiting zftake_word zffind_word zfgo_on_raised zfgo_on_with_value zfdo_both zfdo_operation zfdo_let zfdo_choice zfdo_call zfdo_send zfdo_start zfdo_watch zfdo_raise zfdo_catch zfdo_say zftold zftold_name zftold_values zftold_process zftold_state zftold_letters zftold_word zfWorld_init zfWorld_copy zfWorld_has_function zfWorld_has_process zfWorld_process_of zfWorld_start zfWorld_start_child zfWorld_send zfWorld_arrive zfWorld_arrive_watch zfWorld_end zfWorld_last_word zfWorld_is_overfull zfLine_init zfLine_program zfLine_begin zfLine_run zfLine_deliver zfLine_ticks zfLine_turns zfLine_keep zfLine_tell_process zfLine_tell_box zfLine_tell_said zfLine_tell_air zfLine_tell_counts zffirst_letter zfgo_rounds zfgo_round zfanswers zfsize_of_call zfanswer_call zfanswer_question ziNUMBER ziNAME ziTWO ziMOST_NUMBERS ziMOST_FUNCTIONS ziDEEPEST_WRITTEN ziDEEPEST_PATTERN ziLOWEST ziROUND ziWORKS ziCAME ziRAISED ziAWAITS ziAT_END ziENDED_BY ziWRONG ziGOES_ON ziWAITS ziHAS_VALUE ziHAS_FAILED ziMOST_PROCESSES ziMOST_LETTERS ziMOST_STEPS ziMOST_ROUNDS ziMOST_TICKS ziSTEPS_OF_ROUND ziBEYOND ziNO_PROCESS ziNO_LETTER ziOVERFULL ziBEGUN zdPARTS zdPATTERN_PARTS zdGRANTED zdFIRST_PART zdSECOND_PART zdDOING zdSIZES ztFIRST_PROGRAM zzlen zzlist zztuple zzrange zzenumerate
  have e:=hmg.symm.trans zfanswers.g
  cases e
  exact⟨_,fun s us hu=>match us,hu with|[_],_=>.of_eq rfl,fun base hB _=>Bt.F1 T hB⟩
 case S =>
  intro K H xs a hO hwi hask hx
  cases hx with
  | cons h1 h2 =>
   cases h2
   cases h1 with
   | lst hs ha =>
    have e:=L2.DH a.1 _ ha
    subst e
    exact⟨_,a.1,rfl,Bt.Arg.of hO hs,hask,fun H' p hp=>.lst (L2.bM.of hp) (L2.DP _)⟩
#print axioms PySem.Challenge.cw_boxturns_s01_answers_holds
